/-
  What the rows of this claim rest on: arrays of bytes, walks of the functions, plain mathematics.
-/
import Derived.Test.YtelgefgphhebnaaZs5
import Derived.Defers
import Derived.Recover
section
namespace Go.Proofs.Ytelgefgphhebnaa
open Go.RowKit
set_option linter.unusedVariables false
set_option linter.unusedSimpArgs false
attribute [local irreducible] deg invN dS qS stp stpr quoP resP oneP dvo
theorem dvo_yes {p f : Nat} {m a : Nat → Nat} (h : deg (resP p a m) < 0) : dvo p m (f + 1) a = ((dvo p m f (quoP p a m)).1 + 1, (dvo p m f (quoP p a m)).2) := by rw [dvo, if_pos h]
theorem dvo_stop {p f : Nat} {m a : Nat → Nat} (h : ¬ deg (resP p a m) < 0) : dvo p m (f + 1) a = (0, a) := by rw [dvo, if_neg h]
set_option maxRecDepth 100000 in
set_option maxHeartbeats 1600000 in
theorem dividedOut_any (p : Nat) (f m : Nat → Nat) (d : Nat) (w : World) (hpr : p = 2 ∨ p = 3 ∨ p = 5 ∨ p = 7) (lf : ∀ k, k < 64 → f k < p) (lm : ∀ k, k < 64 → m k < p) (hmon : mon m d) (hd1 : 1 ≤ d) (h0 : 0 ≤ deg f) :
 Calls Try.prog 169 #[.int .i64 (p : Int), .agg (zb 64 f), .agg (zb 64 m)] w fun e w' => e = .returned (.tuple #[.int .i64 ((dvo p m 64 f).1 : Int), .agg (zb 64 (dvo p m 64 f).2)]) ∧ Below w.heap.size w w' := by
 have p0 : 0 < p := by omega
 obtain ⟨fb1, fb2⟩ := zdb f
 have HLM := Lib.hid lm
 have HMON := Lib.hid hmon
 have hm0 : 0 ≤ deg m := by rw [hmon.1]; omega
 clear hmon
 have HLF := Lib.hid lf
 clear lf lm
 go_enter Try.func169, Try.ntmps169
 go_upto_region 1 with (fail)
 rw [← z64]
 obtain ⟨W1, hwo⟩ : ∃ v : World, v = (((w.alloc (.cells (zb 64 (f)) 28)).alloc (.cells (zb 64 (m)) 28)).alloc (.cells (zb 64 fun _ => 0) 28)) := ⟨_, rfl⟩
 have B0 : Blk W1 (w.heap.size) 64 28 (f) := by subst hwo; have := (((Blk.new w 64 28 (f)).alloc (.cells (zb 64 (m)) 28)).alloc (.cells (zb 64 fun _ => 0) 28)); simpa using this
 have B1 : Blk W1 (w.heap.size + 1) 64 28 (m) := by subst hwo; have := ((Blk.new (w.alloc (.cells (zb 64 (f)) 28)) 64 28 (m)).alloc (.cells (zb 64 fun _ => 0) 28)); simpa using this
 have B2 : Blk W1 (w.heap.size + 1 + 1) 64 28 (fun _ => 0) := by subst hwo; have := (Blk.new ((w.alloc (.cells (zb 64 (f)) 28)).alloc (.cells (zb 64 (m)) 28)) 64 28 (fun _ => 0)); simpa using this
 have hb : Below w.heap.size w W1 := by subst hwo; exact ((((Below.refl _ _).alloc (Nat.le_refl _) _).alloc (by simp) _).alloc (by simp; omega) _)
 rw [← hwo]
 clear hwo
 go_wp2_with fail
 go_loopw [8] (fun i wr => ∃ (fu i0 : Nat) (X : Nat → Nat), i0 + fu = 64 ∧ i = .int .i64 (i0 : Int) ∧ Hid (dvo p m 64 f = ((dvo p m fu X).1 + i0, (dvo p m fu X).2)) ∧ Hid (∀ k, k < 64 → X k < p) ∧ 0 ≤ deg X ∧ deg X < (fu : Int) ∧ Below w.heap.size w wr ∧ Blk wr (w.heap.size) 64 28 X ∧ Blk wr (w.heap.size + 1) 64 28 m ∧ Blk wr (w.heap.size + 1 + 1) 64 28 (fun _ => 0)) (fun i _ => 65 - (intOf i).toNat)
 case atStart => exact ⟨64, 0, f, rfl, rfl, Lib.hid rfl, HLF, h0, by omega, hb, B0, B1, B2⟩
 case round =>
  clear hb B0 B1 B2
  obtain ⟨fu, i0, X, hfu, rfl, hE, hX, hX0, hXf, hb, B0, B1, B2⟩ := hrel
  obtain ⟨fu, rfl⟩ : ∃ t, fu = t + 1 := ⟨fu - 1, by omega⟩
  have HQR := Lib.hid (fun W => quotientAndRest_any p X m W hpr hX.out HLM.out hm0)
  have i64 : i0 ≤ 63 := by omega
  have HFU := Lib.hid hfu
  clear hfu
  have lt_B0 := B0.lt
  have lt_B1 := B1.lt
  have lt_B2 := B2.lt
  go_upto_region 4 with (first | rw [← z64] | (refine zla (.tmp 4) B0 Try.underlying28 Try.size28 ?_) | (refine zla (.tmp 5) B1 Try.underlying28 Try.size28 ?_) | (go_at_call 115; refine (HQR.out _).mono ?_; rintro e W2 ⟨rfl, hW2⟩; replace B0 := B0.zw hW2; replace B1 := B1.zw hW2; replace B2 := B2.zw hW2; replace hb := (hb).trans (hW2.mono (hb).size)) | (refine wpList_store_blk rfl 28 (.tmp 9) (.tmp 18) rfl _ 64 (quoP p X m) rfl rfl 28 _ (((Blk.new W2 64 28 (fun _ => 0)).alloc (.cells (zb 64 fun _ => 0) 28))) Try.size28 ?_; try simp only [Act.put]) | (refine wpList_store_blk rfl 28 (.tmp 10) (.tmp 19) rfl _ 64 (resP p X m) rfl rfl 28 _ (((show Blk ((W2.alloc (.cells (zb 64 fun _ => 0) 28)).alloc (.cells (zb 64 fun _ => 0) 28)) (W2.heap.size + 1) 64 28 (fun _ => 0) by have := Blk.new (W2.alloc (.cells (zb 64 fun _ => 0) 28)) 64 28 (fun _ => 0); simpa using this).rowOther (by omega))) Try.size28 ?_; try simp only [Act.put]))
  have lt_B0 := B0.lt
  have lt_B1 := B1.lt
  have lt_B2 := B2.lt
  have lhb := hb.size
  obtain ⟨W3, hwo, hzQ⟩ : ∃ v : World, v = ((((W2.alloc (.cells (zb 64 fun _ => 0) 28)).alloc (.cells (zb 64 fun _ => 0) 28)).setRow (W2.heap.size) (zb 64 (quoP p X m))).setRow (W2.heap.size + 1) (zb 64 (resP p X m))) ∧ Blk v (w.heap.size) 64 28 (X) ∧ Blk v (w.heap.size + 1) 64 28 (m) ∧ Blk v (w.heap.size + 1 + 1) 64 28 (fun _ => 0) ∧ Blk v (W2.heap.size) 64 28 (quoP p X m) ∧ Blk v (W2.heap.size + 1) 64 28 (resP p X m) ∧ Below w.heap.size w v := ⟨_, rfl, ((((B0.alloc (.cells (zb 64 fun _ => 0) 28)).alloc (.cells (zb 64 fun _ => 0) 28)).rowOther (by omega)).rowOther (by omega)), ((((B1.alloc (.cells (zb 64 fun _ => 0) 28)).alloc (.cells (zb 64 fun _ => 0) 28)).rowOther (by omega)).rowOther (by omega)), ((((B2.alloc (.cells (zb 64 fun _ => 0) 28)).alloc (.cells (zb 64 fun _ => 0) 28)).rowOther (by omega)).rowOther (by omega)), ((((Blk.new W2 64 28 (fun _ => 0)).alloc (.cells (zb 64 fun _ => 0) 28)).row (quoP p X m)).rowOther (by omega)), (((show Blk ((W2.alloc (.cells (zb 64 fun _ => 0) 28)).alloc (.cells (zb 64 fun _ => 0) 28)) (W2.heap.size + 1) 64 28 (fun _ => 0) by have := Blk.new (W2.alloc (.cells (zb 64 fun _ => 0) 28)) 64 28 (fun _ => 0); simpa using this).rowOther (by omega)).row (resP p X m)), (zr (zr ((hb.alloc (by have := hb.size; simp; omega) (.cells (zb 64 fun _ => 0) 28)).alloc (by have := hb.size; simp; omega) (.cells (zb 64 fun _ => 0) 28)) (by omega) _) (by omega) _)⟩
  rw [← hwo]
  clear hwo B0 B1 B2 hb
  obtain ⟨B0, B1, B2, B3, B4, hb⟩ := hzQ
  obtain ⟨N1, hNN⟩ : ∃ n : Nat, n = W2.heap.size := ⟨_, rfl⟩
  rw [← hNN] at lt_B0 lt_B1 lt_B2 lhb B3 B4 ⊢
  clear hNN
  have zN1_0 := lt_B0
  have zN1_1 := lt_B1
  have zN1_2 := lt_B2
  have zN1 := lhb
  clear lt_B0 lt_B1 lt_B2 lhb
  try simp only [Act.put, pA, pB, pC]
  clear HQR
  by_cases hz : deg (resP p X m) < 0
  · have HV := Lib.hid (show dvo p m 64 f = ((dvo p m fu (quoP p X m)).1 + (i0 + 1), (dvo p m fu (quoP p X m)).2) by
     rw [hE.out, dvo_yes hz]; congr 1; omega)
    have hdv := (res_zero_iff hpr hX.out HLM.out hm0).1 hz
    have hqd := (quo_exact hpr hX.out HLM.out HMON.out hX0 hdv).2
    have hq0 : 0 ≤ deg (quoP p X m) := by
     by_cases hq : 0 ≤ deg (quoP p X m)
     · exact hq
     · exfalso
       obtain ⟨hc, _⟩ := quo_exact hpr hX.out HLM.out HMON.out hX0 hdv
       rw [lz_neg (by omega : deg (quoP p X m) < 0), zS_mz] at hc
       have hX00 : ∀ k, k < 64 → X k = 0 := fun k hk => by
        have h2 := lz_inj hX.out (g := fun _ => 0) (fun _ _ => p0) (cg_trans hc (cg_eq (lz_neg (f := fun _ => 0) (by rw [deg_neg_iff]; intros; rfl)).symm)) k hk
        exact h2
       have := deg_neg_iff.2 hX00
       omega
    clear hE
    have hgd := Try.noGuard28
    have heq := fun W => zeb (P := Try.prog) W 9998 28 5 64 (resP p X m) (fun _ => 0) Try.underlying28 Try.underlying5 Try.size5
    rw [eqN_zero, show decide (deg (resP p X m) < 0) = true by simp [hz]] at heq
    simp only [z64] at heq
    go_upto_region 6 with (first | (refine zla (.tmp 10) B4 Try.underlying28 Try.size28 ?_))
    clear heq hgd hz hdv
    have lt_B0 := B0.lt
    have lt_B1 := B1.lt
    have lt_B2 := B2.lt
    have lt_B3 := B3.lt
    have lt_B4 := B4.lt
    go_upto_region 2 with (first | rw [← z64] | (refine zla (.tmp 9) B3 Try.underlying28 Try.size28 ?_) | (refine zsr (.tmp 4) (.tmp 25) (quoP p X m) B0 Try.size28 ?_; try simp only [Act.put]))
    obtain ⟨W4, hwo, hzQ⟩ : ∃ v : World, v = (W3.setRow (w.heap.size) (zb 64 (quoP p X m))) ∧ Blk v (w.heap.size) 64 28 (quoP p X m) ∧ Blk v (w.heap.size + 1) 64 28 (m) ∧ Blk v (w.heap.size + 1 + 1) 64 28 (fun _ => 0) ∧ Blk v (N1) 64 28 (quoP p X m) ∧ Blk v (N1 + 1) 64 28 (resP p X m) ∧ Below w.heap.size w v := ⟨_, rfl, (B0.row (quoP p X m)), (B1.rowOther (by omega)), (B2.rowOther (by omega)), (B3.rowOther (by omega)), (B4.rowOther (by omega)), (zr hb (by omega) _)⟩
    rw [← hwo]
    clear hwo B0 B1 B2 B3 B4 hb
    obtain ⟨B0, B1, B2, B3, B4, hb⟩ := hzQ
    try simp only [Act.put, pA, pB, pC]
    go_wp2_with fail
    go_roundw
    case rel => exact ⟨fu, i0 + 1, quoP p X m, by have := HFU.out; omega, by go_num, HV, Lib.hid (fun k _ => quoP_lt p0 k), hq0, by omega, hb, B0, B1, B2⟩
    case measure => simp [intOf] <;> omega
  · have HV := Lib.hid (show dvo p m 64 f = (i0, X) by rw [hE.out, dvo_stop hz]; simp)
    clear hE
    have hgd := Try.noGuard28
    have heq := fun W => zeb (P := Try.prog) W 9998 28 5 64 (resP p X m) (fun _ => 0) Try.underlying28 Try.underlying5 Try.size5
    rw [eqN_zero, show decide (deg (resP p X m) < 0) = false by simp [hz]] at heq
    simp only [z64] at heq
    go_upto_region 5 with (first | (refine zla (.tmp 10) B4 Try.underlying28 Try.size28 ?_))
    clear heq hgd hz
    have lt_B0 : (w.heap.size) < W3.heap.size := B0.lt
    have lt_B1 : (w.heap.size + 1) < W3.heap.size := B1.lt
    have lt_B2 : (w.heap.size + 1 + 1) < W3.heap.size := B2.lt
    have lt_B3 : (N1) < W3.heap.size := B3.lt
    have lt_B4 : (N1 + 1) < W3.heap.size := B4.lt
    have hbase : w.heap.size ≤ W3.heap.size := hb.size
    refine zq Try.mixed (by kernel_rfl) (by kernel_rfl) (fun v => by (simp only [frL, Act.put, pA, pB, pC, Nat.reduceAdd, Nat.zero_add]; exact rfl))
     (fun L v W4 => Below w.heap.size w W4 ∧ W3.heap.size ≤ W4.heap.size ∧ Blk W4 (w.heap.size) 64 28 (X) ∧ Blk W4 (w.heap.size + 1) 64 28 (m) ∧ (∃ g, Blk W4 (w.heap.size + 1 + 1) 64 28 (g)) ∧ (L 3 = false → Blk W4 (w.heap.size + 1 + 1) 64 28 (fun _ => 0)) ∧ (L 3 = true → Blk W4 (w.heap.size + 1 + 1) 64 28 (X)) ∧ Blk W4 (N1) 64 28 (quoP p X m) ∧ Blk W4 (N1 + 1) 64 28 (resP p X m) ∧ (L 0 = true → v 0 = (.int .i64 (i0 : Int))) ∧ (L 1 = true → v 1 = (.agg (zb 64 (X)))) ∧ (L 2 = true → v 2 = (.int .i64 (i0 : Int)))) ?_ ?_ ?_
    · intro v hv0
      exact ⟨hb.drew, Nat.le_refl _, B0.drew, B1.drew, ⟨_, B2.drew⟩, (fun _ => B2.drew), (fun h => by cases h), B3.drew, B4.drew, (fun h => by cases h), (fun h => by cases h), (fun h => by cases h)⟩
    · refine (.cons rfl ?_ (.cons rfl ?_ (.cons rfl ?_ (.cons rfl ?_ (.nil _)))))
      all_goals intro L v W4 hd hn ⟨hB, hz, s0, s1, x2, q2, n2, s3, s4, h0, h1, h2⟩ K hK
      · go_wp2_with fail
        exact hK _ (.int .i64 (i0 : Int)) _ (by simp only [Act.put, pA, pB, pC ]) ⟨hB, hz, s0, s1, x2, q2, n2, s3, s4, (fun _ => rfl), h1, h2⟩
      · refine zlc s0 Try.underlying28 Try.size28 ?_
        exact hK _ _ _ rfl ⟨hB, hz, s0, s1, x2, q2, n2, s3, s4, h0, (fun _ => rfl), h2⟩
      · have e0 := h0 (zdq hd 0 rfl)
        go_wp2_with fail
        exact hK _ (.int .i64 (i0 : Int)) _ (by simp only [Act.put, pA, pB, pC, e0]) ⟨hB, hz, s0, s1, x2, q2, n2, s3, s4, h0, h1, (fun _ => rfl)⟩
      · have e1 := h1 (zdq hd 1 rfl)
        obtain ⟨gz, hk⟩ := x2
        refine zsb 28 _ _ rfl _ 64 (X) rfl e1 28 gz hk Try.size28 ?_
        exact hK _ undef _ rfl ⟨zr hB (by omega) _, (by simpa [World.setRow] using hz), (s0).rowOther (by omega), (s1).rowOther (by omega), ⟨_, hk.row _⟩, (fun h => absurd h (by simp [setL])), (fun _ => hk.row _), (s3).rowOther (by omega), (s4).rowOther (by omega), h0, h1, h2⟩
    · intro L v W4 hL ⟨hB, hz, s0, s1, x2, q2, n2, s3, s4, h0, h1, h2⟩
      have r2 := n2 (hL 3 (by decide))
      have e0 := h0 (hL 0 (by decide))
      have e1 := h1 (hL 1 (by decide))
      have e2 := h2 (hL 2 (by decide))
      clear hL x2 q2 n2 h0 h1 h2
      simp only [Exit.then, e0, e1, e2]
      clear e0 e1 e2
      replace B0 := s0
      clear s0
      replace B1 := s1
      clear s1
      replace B2 := r2
      clear r2
      replace B3 := s3
      clear s3
      replace B4 := s4
      clear s4
      replace hb := hB
      clear hB
      clear hbase hz lt_B0 lt_B1 lt_B2 lt_B3 lt_B4
      go_wp2_with fail
      refine bodyPost_ret (results_tb rfl _ _ _ 64 28 5 _ rfl B2 Try.underlying28 Try.size28) rfl ⟨by rw [HV.out]; rfl, hb⟩
end Go.Proofs.Ytelgefgphhebnaa
namespace Go.Proofs.Ytelgefgphhebnaa
open Go.RowKit
set_option linter.unusedVariables false
attribute [local irreducible] deg invN quoP resP
theorem pwz_pow (f : Nat → Int) (a : Nat) : ∀ b, pwz (pwz f a) b = pwz f (a * b)
 | 0 => by rw [Nat.mul_zero]; rfl
 | b + 1 => by
  show mz (pwz (pwz f a) b) (pwz f a) = _
  rw [pwz_pow f a b, ← pwz_add, Nat.mul_succ]
/-- the polynomial T -/
def TP : Nat → Nat := fun k => if k = 1 then 1 else 0
theorem TP_lt {p : Nat} (hp : 2 ≤ p) (k : Nat) : TP k < p := by unfold TP; split <;> omega
theorem lz_TP : lz TP = TS := by
 funext k; unfold lz TS
 by_cases hk : k < 64
 · rw [cut_in _ hk]; unfold TP; split <;> rfl
 · rw [zcz _ (by omega), if_neg (by omega)]; rfl
theorem rm_dv {p : Nat} {m c f g : Nat → Int} (h : rm p m f g) (hc : dv p c m) : rm p c f g := by
 obtain ⟨q, hq, hqm⟩ := h
 have h1 : dv p c (mz q m) := dv_mul hq hc
 obtain ⟨q2, hq2, h2⟩ := dv_ex.1 h1
 exact ⟨q2, hq2, cg_trans hqm h2⟩
theorem dv_iff_rm {p : Nat} {c f g : Nat → Int} : dv p c (sz f g) ↔ rm p c f g := by
 constructor
 · intro h; obtain ⟨q, hq, h2⟩ := dv_ex.1 h; exact ⟨q, hq, h2⟩
 · rintro ⟨q, hq, h2⟩; exact dv_ex.2 ⟨q, hq, h2⟩
theorem frob_next {p n : Nat} {X F : Nat → Nat} (hp : p = 2 ∨ p = 3 ∨ p = 5 ∨ p = 7) (hX : ∀ k, k < 64 → X k < p) (h0 : 0 ≤ deg X) (hF : ∀ k, k < 64 → F k < p) (h : rm p (lz X) (lz F) (pwz TS (p ^ n))) :
 rm p (lz X) (lz (pmP p F p X)) (pwz TS (p ^ (n + 1))) := by
 obtain ⟨_, _, h3⟩ := pmP_spec (k := p) hp hF hX h0 (Nat.lt_of_le_of_lt (by omega : p ≤ 7) (by decide))
 refine rm_trans h3 ?_
 have := rm_pwz (fin_lz F) (fin_pwz fin_TS _) h p
 rwa [pwz_pow, ← Nat.pow_succ] at this
/-- the common divisor of a stage -/
theorem stageC {p n : Nat} {X F : Nat → Nat} (hp : p = 2 ∨ p = 3 ∨ p = 5 ∨ p = 7) (hX : ∀ k, k < 64 → X k < p) (h0 : 0 ≤ deg X) (hF : ∀ k, k < 64 → F k < p) (h : rm p (lz X) (lz F) (pwz TS (p ^ n))) :
 (∀ k, bzD p X (subP p F TP) k < p) ∧ (∃ d, mon (bzD p X (subP p F TP)) d) ∧ ∀ c, dv p c (lz (bzD p X (subP p F TP))) ↔ (dv p c (lz X) ∧ dv p c (FS p n)) := by
 have p0 : 0 < p := by omega
 obtain ⟨b1, b2, _, b4⟩ := bz_all hp hX (fun k _ => subP_lt p0 k) (.inl h0)
 refine ⟨b1, b2, fun c => ?_⟩
 rw [b4 c]
 constructor
 · rintro ⟨h1, h2⟩
   refine ⟨h1, ?_⟩
   have h3 : dv p c (sz (lz F) TS) := (dv_congr (cg_trans (subP_cg (fun k _ => TP_lt (by omega) k)) (cg_eq (by rw [lz_TP]; funext k; unfold az cz sz; omega)))).1 h2
   have h4 := dv_iff_rm.1 h3
   exact dv_FS.2 (rm_trans (rm_symm (rm_dv h h1)) h4)
 · rintro ⟨h1, h2⟩
   refine ⟨h1, ?_⟩
   have h4 : rm p c (lz F) TS := rm_trans (rm_dv h h1) (dv_FS.1 h2)
   exact (dv_congr (cg_trans (subP_cg (fun k _ => TP_lt (by omega) k)) (cg_eq (by rw [lz_TP]; funext k; unfold az cz sz; omega)))).2 (dv_iff_rm.2 h4)
theorem foI_snoc {p x : Nat} : ∀ (pre : List Nat) (a : Nat → Nat), foI p (pre ++ [x]) a = ((foI p pre a).1 ++ [(x, (dvo p (ofN p x) 64 (foI p pre a).2).1)], (dvo p (ofN p x) 64 (foI p pre a).2).2)
 | [], a => rfl
 | N :: pre, a => by
  rw [List.cons_append, foI, foI_snoc pre, foI]
  rfl
theorem quo_nz {p d : Nat} {a m : Nat → Nat} (hp : p = 2 ∨ p = 3 ∨ p = 5 ∨ p = 7) (ha : ∀ k, k < 64 → a k < p) (hmp : ∀ k, k < 64 → m k < p) (hm : mon m d) (h0 : 0 ≤ deg a) (hz : deg (resP p a m) < 0) : 0 ≤ deg (quoP p a m) ∧ deg (quoP p a m) + (d : Int) = deg a := by
 have p0 : 0 < p := by omega
 have hdv := (res_zero_iff hp ha hmp (by rw [hm.1]; omega)).1 hz
 obtain ⟨hc, hd⟩ := quo_exact hp ha hmp hm h0 hdv
 refine ⟨?_, hd⟩
 by_cases hq : 0 ≤ deg (quoP p a m)
 · exact hq
 · exfalso
   rw [lz_neg (by omega : deg (quoP p a m) < 0), zS_mz] at hc
   have hX00 : ∀ k, k < 64 → a k = 0 := fun k hk =>
    lz_inj ha (g := fun _ => 0) (fun _ _ => p0) (cg_trans hc (cg_eq (lz_neg (f := fun _ => 0) (by rw [deg_neg_iff]; intros; rfl)).symm)) k hk
   have := deg_neg_iff.2 hX00
   omega
theorem dvo_ok {p d : Nat} {m : Nat → Nat} (hp : p = 2 ∨ p = 3 ∨ p = 5 ∨ p = 7) (hmp : ∀ k, k < 64 → m k < p) (hm : mon m d) : ∀ (f : Nat) (a : Nat → Nat), (∀ k, k < 64 → a k < p) → 0 ≤ deg a → (∀ k, k < 64 → (dvo p m f a).2 k < p) ∧ 0 ≤ deg (dvo p m f a).2 ∧ deg (dvo p m f a).2 ≤ deg a ∧ (dvo p m f a).1 ≤ f
 | 0, a, ha, h0 => ⟨ha, h0, by show deg a ≤ deg a; omega, Nat.le_refl _⟩
 | f + 1, a, ha, h0 => by
  by_cases hz : deg (resP p a m) < 0
  · rw [dvo, if_pos hz]
    obtain ⟨q1, q2⟩ := quo_nz hp ha hmp hm h0 hz
    obtain ⟨r1, r2, r3, r4⟩ := dvo_ok hp hmp hm f (quoP p a m) (fun k _ => quoP_lt (by omega) k) q1
    exact ⟨r1, r2, by show deg (dvo p m f (quoP p a m)).2 ≤ deg a; omega, by show (dvo p m f (quoP p a m)).1 + 1 ≤ f + 1; omega⟩
  · rw [dvo, if_neg hz]
    exact ⟨ha, h0, by show deg a ≤ deg a; omega, by show 0 ≤ f + 1; omega⟩
theorem foI_ok {p n : Nat} (hp : p = 2 ∨ p = 3 ∨ p = 5 ∨ p = 7) (hn : n < 64) : ∀ (ms : List Nat) (a : Nat → Nat), okL p n ms → (∀ k, k < 64 → a k < p) → 0 ≤ deg a → (∀ k, k < 64 → (foI p ms a).2 k < p) ∧ 0 ≤ deg (foI p ms a).2 ∧ deg (foI p ms a).2 ≤ deg a
 | [], a, _, ha, h0 => ⟨ha, h0, by show deg a ≤ deg a; omega⟩
 | N :: ms, a, hok, ha, h0 => by
  have hm := mon_ofN (by omega : 2 ≤ p) hn (hok N (by simp))
  obtain ⟨r1, r2, r3, _⟩ := dvo_ok (m := ofN p N) hp (fun k _ => ofN_lt (by omega) N k) hm 64 a ha h0
  obtain ⟨s1, s2, s3⟩ := foI_ok hp hn ms (dvo p (ofN p N) 64 a).2 (fun M hM => hok M (by simp [hM])) r1 r2
  exact ⟨s1, s2, by show deg (foI p ms (dvo p (ofN p N) 64 a).2).2 ≤ deg a; omega⟩
/-- one stage, all told -/
theorem stage_all {p n fu : Nat} {X F : Nat → Nat} (hp : p = 2 ∨ p = 3 ∨ p = 5 ∨ p = 7) (hn : 1 ≤ n) (hn2 : n < 64) (hX : ∀ k, k < 64 → X k < p) (h1 : 0 < deg X) (hl : lowf p n X) (hF : ∀ k, k < 64 → F k < p) (h : rm p (lz X) (lz F) (pwz TS (p ^ n))) :
 okL p n (eqf p n (monL p n) (bzD p X (subP p F TP))) ∧
 run p (fu + 1) n X = (foI p (eqf p n (monL p n) (bzD p X (subP p F TP))) X).1 ++ run p fu (n + 1) (foI p (eqf p n (monL p n) (bzD p X (subP p F TP))) X).2 ∧
 lowf p (n + 1) (foI p (eqf p n (monL p n) (bzD p X (subP p F TP))) X).2 ∧
 rm p (lz (foI p (eqf p n (monL p n) (bzD p X (subP p F TP))) X).2) (lz F) (pwz TS (p ^ n)) := by
 obtain ⟨c1, c2, c3⟩ := stageC hp hX (by omega) hF h
 obtain ⟨e1, e2⟩ := stage hp hn hn2 hX (by omega) hl c1 c2 c3
 obtain ⟨s1, s2, s3, s4, s5⟩ := foR_spec hp hn hn2 (monL p n) X (fun _ h => h) hX (by omega) hl
 refine ⟨e2, ?_, ?_, ?_⟩
 · rw [e1, run_s (by omega)]
 · rw [e1]; exact lowf_next (by omega) hl s4 s5
 · rw [e1]; exact rm_dv h s4
end Go.Proofs.Ytelgefgphhebnaa
namespace Go.Proofs.Ytelgefgphhebnaa
open Go Go.RowKit
set_option linter.unusedVariables false
set_option linter.unusedSimpArgs false
attribute [local irreducible] deg invN dS qS stp stpr quoP resP oneP eqS ofN dvo pmP eqf foI run bzD bzU bzW subP lowf monL TP
/-- the cells of a factor -/
def facC (f : Nat → Nat) (k : Nat) : List Value := bl 64 f ++ [.int .i64 (k : Int)]
theorem facC_len (f : Nat → Nat) (k : Nat) : (facC f k).length = 65 := by simp [facC, bl]
theorem facC_one (f : Nat → Nat) (k : Nat) : ∀ u ∈ facC f k, u.oneCell' = true := by
 intro u hu
 unfold facC at hu
 rcases List.mem_append.1 hu with h | h
 · exact bl_one u h
 · rw [List.mem_singleton] at h; rw [h]; rfl
theorem facC_all (f : Nat → Nat) (k : Nat) : (facC f k).toArray.all (·.oneCell') = true := Array.all_eq_true_iff_forall_mem.2 fun u hu => facC_one f k u (by simpa using hu)
theorem facC_at (f : Nat → Nat) (k : Nat) : (facC f k).toArray[64]? = some (.int .i64 (k : Int)) := by simp [facC, bl]
theorem facC_set (f : Nat → Nat) (k j : Nat) : (facC f k).toArray.setIfInBounds 64 (.int .i64 (j : Int)) = (facC f j).toArray := by
 unfold facC
 rw [List.setIfInBounds_toArray]
 congr 1
 rw [List.set_append_right _ _ (by rw [zl]; exact Nat.le_refl _)]
 simp [bl]
theorem facC_zero : (facC (fun _ => 0) 0).toArray = Try.zeroCells161 := by unfold facC bl; kernel_rfl
theorem built_T : Try.prog.built 28 [(0, .int .u8 0), (1, .int .u8 1)] = some (zb 64 TP) := by unfold zb bl; kernel_rfl
theorem built_fac (f : Nat → Nat) : Try.prog.built 161 [(0, .agg (zb 64 f))] = some (facC f 0).toArray := by unfold facC zb bl; kernel_rfl
theorem Try.infoFac : (Try.prog.info? 161).map (fun i => (i.zero, i.size, i.bytes)) = some (some (.agg (facC (fun _ => 0) 0).toArray), 65, 72) := by kernel_rfl
theorem Try.size161 : (Try.prog.info? 161).map (·.size) = some 65 := by kernel_rfl
theorem Try.elemFac : (Try.prog.info? 161).map (fun i => (i.size, i.zero.isSome)) = some (65, true) := by kernel_rfl
def facRows (p : Nat) (L : List (Nat × Nat)) : List (List Value) := L.map fun x => facC (ofN p x.1) x.2
theorem facRows_snoc (p : Nat) (L : List (Nat × Nat)) (x : Nat × Nat) : facRows p (L ++ [x]) = facRows p L ++ [facC (ofN p x.1) x.2] := by simp [facRows]
theorem facRows_len (p : Nat) (L : List (Nat × Nat)) : (facRows p L).length = L.length := by simp [facRows]
/-- the heap has at least n blocks -/
def SzG (n : Nat) (W : World) : Prop := n ≤ W.heap.size
theorem SzG.lt {n : Nat} {W : World} (h : SzG n W) : n ≤ W.heap.size := h
theorem SzG.below {n B : Nat} {W W' : World} (h : SzG n W) (hb : Below B W W') (_ : n ≤ W.heap.size) : SzG n W' := Nat.le_trans h hb.size
theorem SzG.zw {n : Nat} {W W' : World} (h : SzG n W) (hb : Below W.heap.size W W') : SzG n W' := SzG.below h hb (SzG.lt h)
theorem SzG.alloc {n : Nat} {W : World} (h : SzG n W) (o : Obj) : SzG n (W.alloc o) := h.below (zal _ _) h
theorem SzG.drew {n : Nat} {W : World} (h : SzG n W) : SzG n W.drew := h
theorem SzG.rowOther {n k : Nat} {W : World} {cs : Array Value} (h : SzG n W) (_ : 0 ≤ k) : SzG n (W.setRow k cs) := by unfold SzG at *; simpa [World.setRow] using h
theorem SzG.setOther {n : Nat} {W : World} {a : Addr} {v : Value} (h : SzG n W) (_ : 0 ≤ a.block) : SzG n (W.setCell a v) := by unfold SzG at *; simpa using h
/-- what factorsOf hands back -/
def FaF (p : Nat) (f : Nat → Nat) (w : World) (e : Ending) (w' : World) : Prop := ∃ v, e = .returned v ∧ SlL w' w.heap.size 161 65 v (facRows p (run p 64 1 f)) ∧ Below w.heap.size w w'
theorem eqf_len {p n : Nat} (ms : List Nat) (a : Nat → Nat) : (eqf p n ms a).length ≤ ms.length + 1 := by
 rw [eqf_eqS, List.length_append]
 have := eqS_len (p := p) (n := n) ms a
 split <;> simp <;> omega
theorem foI_take {p j x : Nat} {M : List Nat} {a : Nat → Nat} (h : M[j]? = some x) : foI p (M.take (j + 1)) a = ((foI p (M.take j) a).1 ++ [(x, (dvo p (ofN p x) 64 (foI p (M.take j) a).2).1)], (dvo p (ofN p x) 64 (foI p (M.take j) a).2).2) := by
 have e : M.take (j + 1) = M.take j ++ [x] := by
  rw [List.take_add_one, h]; rfl
 rw [e, foI_snoc]
set_option maxRecDepth 100000 in
set_option maxHeartbeats 12800000 in
theorem factorsOf_any (p : Nat) (f : Nat → Nat) (w : World) (hpr : p = 2 ∨ p = 3 ∨ p = 5 ∨ p = 7) (lf : ∀ k, k < 64 → f k < p) (h0 : 0 ≤ deg f) (h12 : deg f ≤ 12) :
 Calls Try.prog 158 #[.int .i64 (p : Int), .agg (zb 64 f)] w (FaF p f w) := by
 have p2 : 2 ≤ p := by omega
 have p7 : p ≤ 7 := by omega
 have p0 : 0 < p := by omega
 have HLF := Lib.hid lf
 have HTP := Lib.hid (TP_lt p2)
 clear lf
 go_enter Try.func158, Try.ntmps158
 go_upto_region 1 with (fail)
 obtain ⟨W1, hwo⟩ : ∃ v : World, v = (w.alloc (.cells (zb 64 (f)) 28)) := ⟨_, rfl⟩
 have B0 : Blk W1 (w.heap.size) 64 28 (f) := by subst hwo; have := (Blk.new w 64 28 (f)); simpa using this
 have hb : Below w.heap.size w W1 := by subst hwo; exact ((Below.refl _ _).alloc (Nat.le_refl _) _)
 rw [← hwo]
 clear hwo
 go_upto_region 2 with (fail)
 have lt_B0 := B0.lt
 go_upto_region 3 with (first | rw [← z64] | (refine zbo rfl 28 _ rfl (zb 64 TP) (by rw [Array.toList_map]; exact built_T) ?_) | (refine wpList_store_blk rfl 28 (.tmp 6) (.tmp 15) rfl _ 64 (TP) rfl rfl 28 _ ((Blk.new W1 64 28 (fun _ => 0))) Try.size28 ?_; try simp only [Act.put]))
 have lt_B0 := B0.lt
 have lhb := hb.size
 obtain ⟨W2, hwo, hzQ⟩ : ∃ v : World, v = ((W1.alloc (.cells (zb 64 fun _ => 0) 28)).setRow (W1.heap.size) (zb 64 (TP))) ∧ Blk v (w.heap.size) 64 28 (f) ∧ Blk v (W1.heap.size) 64 28 (TP) ∧ Below w.heap.size w v := ⟨_, rfl, ((B0.alloc (.cells (zb 64 fun _ => 0) 28)).rowOther (by omega)), ((Blk.new W1 64 28 (fun _ => 0)).row (TP)), (zr (hb.alloc (by have := hb.size; simp; omega) (.cells (zb 64 fun _ => 0) 28)) (by omega) _)⟩
 rw [← hwo]
 clear hwo B0 hb
 obtain ⟨B0, B1, hb⟩ := hzQ
 obtain ⟨N1, hNN⟩ : ∃ n : Nat, n = W1.heap.size := ⟨_, rfl⟩
 rw [← hNN] at lt_B0 lhb B1 ⊢
 clear hNN
 have zN1_0 := lt_B0
 have zN1 := lhb
 clear lt_B0 lhb
 try simp only [Act.put, pA, pB, pC]
 have lt_B0 := B0.lt
 have lt_B1 := B1.lt
 go_upto_region 4 with (first | rw [← z64] | (refine zla (.tmp 6) B1 Try.underlying28 Try.size28 ?_) | (refine wpList_store_blk rfl 28 (.tmp 7) (.tmp 16) rfl _ 64 (TP) rfl rfl 28 _ ((Blk.new W2 64 28 (fun _ => 0))) Try.size28 ?_; try simp only [Act.put]))
 have lt_B0 := B0.lt
 have lt_B1 := B1.lt
 have lhb := hb.size
 obtain ⟨W3, hwo, hzQ⟩ : ∃ v : World, v = ((W2.alloc (.cells (zb 64 fun _ => 0) 28)).setRow (W2.heap.size) (zb 64 (TP))) ∧ Blk v (w.heap.size) 64 28 (f) ∧ Blk v (N1) 64 28 (TP) ∧ Blk v (W2.heap.size) 64 28 (TP) ∧ Below w.heap.size w v := ⟨_, rfl, ((B0.alloc (.cells (zb 64 fun _ => 0) 28)).rowOther (by omega)), ((B1.alloc (.cells (zb 64 fun _ => 0) 28)).rowOther (by omega)), ((Blk.new W2 64 28 (fun _ => 0)).row (TP)), (zr (hb.alloc (by have := hb.size; simp; omega) (.cells (zb 64 fun _ => 0) 28)) (by omega) _)⟩
 rw [← hwo]
 clear hwo B0 B1 hb
 obtain ⟨B0, B1, B2, hb⟩ := hzQ
 obtain ⟨N2, hNN⟩ : ∃ n : Nat, n = W2.heap.size := ⟨_, rfl⟩
 rw [← hNN] at lt_B0 lt_B1 lhb B2 ⊢
 clear hNN
 have zN2_0 := lt_B0
 have zN2_1 := lt_B1
 have zN2 := lhb
 clear lt_B0 lt_B1 lhb
 try simp only [Act.put, pA, pB, pC]
 go_wp2_with fail
 obtain ⟨base, hbase0⟩ : ∃ n, n = W3.heap.size := ⟨_, rfl⟩
 have yb_0 : (w.heap.size) < base := by rw [hbase0]; exact B0.lt
 have yb_1 : (N1) < base := by rw [hbase0]; exact B1.lt
 have yb_2 : (N2) < base := by rw [hbase0]; exact B2.lt
 have ybw : w.heap.size ≤ base := by rw [hbase0]; exact hb.size
 have hS0 : SlL W3 base 161 65 (.slice none 0 0) (facRows p []) := SlL.nil _ _ (by omega)
 clear hbase0
 go_loopw [5, 8] (fun s5 i wr => ∃ (fu n : Nat) (X Fr : Nat → Nat) (LL : List (Nat × Nat)) (lst : Value), lst = s5 ∧ n + fu = 64 ∧ i = .int .i64 ((n : Int) + 1) ∧ Hid (run p 64 1 f = LL ++ run p fu (n + 1) X) ∧ Hid (∀ k, k < 64 → X k < p) ∧ 0 ≤ deg X ∧ deg X ≤ 12 ∧ Hid (lowf p (n + 1) X) ∧ Hid (∀ k, k < 64 → Fr k < p) ∧ Hid (rm p (lz X) (lz Fr) (pwz TS (p ^ n))) ∧ LL.length ≤ n * 13841287202 ∧ Below w.heap.size w wr ∧ Blk wr (w.heap.size) 64 28 X ∧ Blk wr (N1) 64 28 TP ∧ Blk wr (N2) 64 28 Fr ∧ SlL wr base 161 65 lst (facRows p LL)) (fun _ i _ => 80 - (intOf i).toNat)
 case atStart => exact ⟨64, 0, f, TP, [], _, rfl, rfl, rfl, Lib.hid rfl, HLF, h0, h12, Lib.hid (lowf_one f), Lib.hid (fun k _ => HTP.out k), Lib.hid (by rw [lz_TP, Nat.pow_zero, show pwz TS 1 = TS from mz_one TS]; exact rm_refl _ _ _), by simp, hb, B0, B1, B2, hS0⟩
 case round =>
  clear hb hS0 B0 B1 B2
  obtain ⟨fu, n, X, Fr, LL, lst, rfl, hfu, rfl, hE, hX, hX0, hX12, hlow, hFr, hrm, hLL, hb, B0, B1, B2, hS⟩ := hrel
  have B3 := hS.top
  have B4 : SzG wr.heap.size wr := Nat.le_refl _
  clear hS
  have HFU := Lib.hid hfu
  clear hfu
  by_cases hd : deg X ≤ 0
  · have HV := Lib.hid (show run p 64 1 f = LL by rw [hE.out, run_z hd, List.append_nil])
    have hd0 : ¬ 0 < deg X := by omega
    clear hE hd
    go_upto_region 16 with (first | (refine zla (.tmp 3) B0 Try.underlying28 Try.size28 ?_) | (go_at_call 77; refine (degree_any X _).mono ?_; rintro e W4 ⟨rfl, hW4⟩; replace B0 := B0.zw hW4; replace B1 := B1.zw hW4; replace B2 := B2.zw hW4; replace B3 := B3.zw hW4; replace B4 := B4.zw hW4; replace hb := (hb).trans (hW4.mono (hb).size)))
    go_wp2_with fail
    go_ret
    exact ⟨lst, rfl, by rw [HV.out]; exact B3.1.base ybw, hb⟩
  · have hd0 : 0 < deg X := by omega
    clear hd
    have hn12 : (n : Int) + 1 ≤ deg X := low_deg hpr hX.out (by omega) hlow.out
    have hn11 : n ≤ 11 := by omega
    obtain ⟨fu, rfl⟩ : ∃ t, fu = t + 1 := ⟨fu - 1, by have := HFU.out; omega⟩
    have HPM := Lib.hid (fun W => powerModulo_any p Fr p X W hpr hFr.out hX.out hX0 (by omega))
    have HDF := Lib.hid (show ∀ W, Calls Try.prog 59 #[.int .i64 (p : Int), .agg (zb 64 (pmP p Fr p X)), .agg (zb 64 TP)] W fun e w' => e = .returned (.agg (zb 64 (subP p (pmP p Fr p X) TP))) ∧ Below W.heap.size W w' from fun W => differenceS_any p (pmP p Fr p X) TP W p2 p7 (pmP_spec hpr hFr.out hX.out hX0 (Nat.lt_of_le_of_lt p7 (by decide))).1 (fun k _ => HTP.out k))
    have HBZ := Lib.hid (fun W => bezout_any p X (subP p (pmP p Fr p X) TP) W hpr hX.out (fun k _ => subP_lt p0 k) (.inl hX0))
    have HF2 := Lib.hid (pmP_spec hpr hFr.out hX.out hX0 (Nat.lt_of_le_of_lt p7 (by decide))).1
    have HR2 := Lib.hid (frob_next hpr hX.out hX0 hFr.out hrm.out)
    obtain ⟨M, hM⟩ : ∃ M, M = eqf p (n + 1) (monL p (n + 1)) (bzD p X (subP p (pmP p Fr p X) TP)) := ⟨_, rfl⟩
    have HST := Lib.hid (show okL p (n + 1) M ∧ run p (fu + 1) (n + 1) X = (foI p M X).1 ++ run p fu (n + 1 + 1) (foI p M X).2 ∧ lowf p (n + 1 + 1) (foI p M X).2 ∧ rm p (lz (foI p M X).2) (lz (pmP p Fr p X)) (pwz TS (p ^ (n + 1))) by rw [hM]; exact stage_all hpr (by omega) (by omega) hX.out hd0 hlow.out HF2.out HR2.out)
    have HEQ := Lib.hid (show ∀ W, Calls Try.prog 168 #[.int .i64 (p : Int), .agg (zb 64 (bzD p X (subP p (pmP p Fr p X) TP))), .int .i64 ((n + 1 : Nat) : Int)] W fun e w' => ∃ v, e = .returned v ∧ SlL w' W.heap.size 28 64 v (polRows p M) ∧ Below W.heap.size W w' by
     rw [hM]; exact fun W => equalFactors_any p (n + 1) _ W hpr (by omega) (by omega) (fun k _ => (stageC hpr hX.out hX0 HF2.out HR2.out).1 k))
    have hMl : M.length ≤ 13841287202 := by
     rw [hM]
     have h1 := eqf_len (p := p) (n := n + 1) (monL p (n + 1)) (bzD p X (subP p (pmP p Fr p X) TP))
     have h2 : (monL p (n + 1)).length = p ^ (n + 1) := by unfold monL; simp
     have h3 := mon_bound p7 (by omega : n + 1 ≤ 12)
     omega
    have HM := Lib.hid hM
    have HC6 := Lib.hid (fun k => (stageC hpr hX.out hX0 HF2.out HR2.out).1 k)
    clear hM hrm hlow
    go_upto_region 7 with (first | (refine zla (.tmp 3) B0 Try.underlying28 Try.size28 ?_) | (go_at_call 77; refine (degree_any X _).mono ?_; rintro e W4 ⟨rfl, hW4⟩; replace B0 := B0.zw hW4; replace B1 := B1.zw hW4; replace B2 := B2.zw hW4; replace B3 := B3.zw hW4; replace B4 := B4.zw hW4; replace hb := (hb).trans (hW4.mono (hb).size)))
    have lt_B0 := B0.lt
    have lt_B1 := B1.lt
    have lt_B2 := B2.lt
    have lt_B3 := B3.lt
    have lt_B4 := B4.lt
    go_upto_region 8 with (first | rw [← z64] | (refine zla (.tmp 7) B2 Try.underlying28 Try.size28 ?_) | (refine zla (.tmp 3) B0 Try.underlying28 Try.size28 ?_) | (go_at_call 167; refine (HPM.out _).mono ?_; rintro e W5 ⟨rfl, hW5⟩; replace B0 := B0.zw hW5; replace B1 := B1.zw hW5; replace B2 := B2.zw hW5; replace B3 := B3.zw hW5; replace B4 := B4.zw hW5; replace hb := (hb).trans (hW5.mono (hb).size)) | (refine zsr (.tmp 7) (.tmp 26) (pmP p Fr p X) B2 Try.size28 ?_; try simp only [Act.put]))
    obtain ⟨W6, hwo, hzQ⟩ : ∃ v : World, v = (W5.setRow (N2) (zb 64 (pmP p Fr p X))) ∧ Blk v (w.heap.size) 64 28 (X) ∧ Blk v (N1) 64 28 (TP) ∧ Blk v (N2) 64 28 (pmP p Fr p X) ∧ SlT v base wr.heap.size 161 65 lst (facRows p LL) ∧ SzG wr.heap.size v ∧ Below w.heap.size w v := ⟨_, rfl, (B0.rowOther (by omega)), (B1.rowOther (by omega)), (B2.row (pmP p Fr p X)), (B3.rowOther (by omega)), (B4.rowOther (by omega)), (zr hb (by omega) _)⟩
    rw [← hwo]
    clear hwo B0 B1 B2 B3 B4 hb
    obtain ⟨B0, B1, B2, B3, B4, hb⟩ := hzQ
    try simp only [Act.put, pA, pB, pC]
    have lt_B0 : (w.heap.size) < W6.heap.size := B0.lt
    have lt_B1 : (N1) < W6.heap.size := B1.lt
    have lt_B2 : (N2) < W6.heap.size := B2.lt
    have lt_B3 : (base) ≤ W6.heap.size := B3.lt
    have lt_B4 : (wr.heap.size) ≤ W6.heap.size := B4.lt
    have hbase : w.heap.size ≤ W6.heap.size := hb.size
    refine zq Try.mixed (by kernel_rfl) (by kernel_rfl) (fun v => by (simp only [frL, Act.put, pA, pB, pC, Nat.reduceAdd, Nat.zero_add]; exact rfl))
     (fun L v W7 => Below w.heap.size w W7 ∧ W6.heap.size ≤ W7.heap.size ∧ Blk W7 (w.heap.size) 64 28 (X) ∧ Blk W7 (N1) 64 28 (TP) ∧ Blk W7 (N2) 64 28 (pmP p Fr p X) ∧ SlT W7 base wr.heap.size 161 65 lst (facRows p LL) ∧ SzG wr.heap.size W7 ∧ (L 0 = true → v 0 = (.int .i64 (p : Int))) ∧ (L 1 = true → v 1 = (.agg (zb 64 (X)))) ∧ (L 2 = true → v 2 = (.int .i64 (p : Int))) ∧ (L 3 = true → v 3 = (.agg (zb 64 (pmP p Fr p X)))) ∧ (L 4 = true → v 4 = (.agg (zb 64 (TP)))) ∧ (L 5 = true → v 5 = (.agg (zb 64 (subP p (pmP p Fr p X) TP)))) ∧ (L 6 = true → v 6 = (.tuple #[(.agg (zb 64 (bzD p X (subP p (pmP p Fr p X) TP)))), (.agg (zb 64 (bzU p X (subP p (pmP p Fr p X) TP)))), (.agg (zb 64 (bzW p X (subP p (pmP p Fr p X) TP))))])) ∧ (L 7 = true → v 7 = (.tuple #[(.agg (zb 64 (bzD p X (subP p (pmP p Fr p X) TP)))), (.agg (zb 64 (bzU p X (subP p (pmP p Fr p X) TP)))), (.agg (zb 64 (bzW p X (subP p (pmP p Fr p X) TP))))])) ∧ (L 8 = true → v 8 = (.agg (zb 64 (bzD p X (subP p (pmP p Fr p X) TP))))) ∧ (L 9 = true → v 9 = (.agg (zb 64 (bzU p X (subP p (pmP p Fr p X) TP))))) ∧ (L 10 = true → v 10 = (.agg (zb 64 (bzW p X (subP p (pmP p Fr p X) TP))))) ∧ (L 11 = true → AF (v 11) W7 W6.heap.size 64 28) ∧ (L 12 = true → AF (v 12) W7 W6.heap.size 64 28) ∧ (L 13 = true → AF (v 13) W7 W6.heap.size 64 28) ∧ (L 14 = true → PF (v 11) W7 W6.heap.size 64 28 (bzD p X (subP p (pmP p Fr p X) TP))) ∧ (L 15 = true → PF (v 12) W7 W6.heap.size 64 28 (bzU p X (subP p (pmP p Fr p X) TP))) ∧ (L 16 = true → PF (v 13) W7 W6.heap.size 64 28 (bzW p X (subP p (pmP p Fr p X) TP))) ∧ (L 11 = true → L 12 = true → v 11 ≠ v 12) ∧ (L 11 = true → L 13 = true → v 11 ≠ v 13) ∧ (L 12 = true → L 13 = true → v 12 ≠ v 13)) ?_ ?_ ?_
    · intro v hv0
      exact ⟨hb.drew, Nat.le_refl _, B0.drew, B1.drew, B2.drew, B3.drew, B4.drew, (fun h => by cases h), (fun h => by cases h), (fun h => by cases h), (fun h => by cases h), (fun h => by cases h), (fun h => by cases h), (fun h => by cases h), (fun h => by cases h), (fun h => by cases h), (fun h => by cases h), (fun h => by cases h), (fun h => by cases h), (fun h => by cases h), (fun h => by cases h), (fun h => by cases h), (fun h => by cases h), (fun h => by cases h), (fun h => by cases h), (fun h => by cases h), (fun h => by cases h)⟩
    · refine (.cons rfl ?_ (.cons rfl ?_ (.cons rfl ?_ (.cons rfl ?_ (.cons rfl ?_ (.cons rfl ?_ (.cons rfl ?_ (.cons rfl ?_ (.cons rfl ?_ (.cons rfl ?_ (.cons rfl ?_ (.cons rfl ?_ (.cons rfl ?_ (.cons rfl ?_ (.cons rfl ?_ (.cons rfl ?_ (.cons rfl ?_ (.nil _))))))))))))))))))
      all_goals intro L v W7 hd hn ⟨hB, hz, s0, s1, s2, s3, s4, h0, h1, h2, h3, h4, h5, h6, h7, h8, h9, h10, h11, h12, h13, h14, h15, h16, d11_12, d11_13, d12_13⟩ K hK
      · go_wp2_with fail
        exact hK _ (.int .i64 (p : Int)) _ (by simp only [Act.put, pA, pB, pC ]) ⟨hB, hz, s0, s1, s2, s3, s4, (fun _ => rfl), h1, h2, h3, h4, h5, h6, h7, h8, h9, h10, h11, h12, h13, h14, h15, h16, d11_12, d11_13, d12_13⟩
      · refine zlc s0 Try.underlying28 Try.size28 ?_
        exact hK _ _ _ rfl ⟨hB, hz, s0, s1, s2, s3, s4, h0, (fun _ => rfl), h2, h3, h4, h5, h6, h7, h8, h9, h10, h11, h12, h13, h14, h15, h16, d11_12, d11_13, d12_13⟩
      · go_wp2_with fail
        exact hK _ (.int .i64 (p : Int)) _ (by simp only [Act.put, pA, pB, pC ]) ⟨hB, hz, s0, s1, s2, s3, s4, h0, h1, (fun _ => rfl), h3, h4, h5, h6, h7, h8, h9, h10, h11, h12, h13, h14, h15, h16, d11_12, d11_13, d12_13⟩
      · refine zlc s2 Try.underlying28 Try.size28 ?_
        exact hK _ _ _ rfl ⟨hB, hz, s0, s1, s2, s3, s4, h0, h1, h2, (fun _ => rfl), h4, h5, h6, h7, h8, h9, h10, h11, h12, h13, h14, h15, h16, d11_12, d11_13, d12_13⟩
      · refine zlc s1 Try.underlying28 Try.size28 ?_
        exact hK _ _ _ rfl ⟨hB, hz, s0, s1, s2, s3, s4, h0, h1, h2, h3, (fun _ => rfl), h5, h6, h7, h8, h9, h10, h11, h12, h13, h14, h15, h16, d11_12, d11_13, d12_13⟩
      · have e2 := h2 (zdq hd 2 rfl)
        have e3 := h3 (zdq hd 3 rfl)
        have e4 := h4 (zdq hd 4 rfl)
        go_wp2_with (go_at_call 59; refine (HDF.out _).mono ?_; rintro e wy ⟨rfl, hy⟩)
        exact hK _ (.agg (zb 64 (subP p (pmP p Fr p X) TP))) _ (by simp only [Act.put, pA, pB, pC, e2, e3, e4]) ⟨hB.trans (hy.mono hB.size), (Nat.le_trans hz hy.size), s0.zw hy, s1.zw hy, s2.zw hy, s3.zw hy, s4.zw hy, h0, h1, h2, h3, h4, (fun _ => rfl), h6, h7, h8, h9, h10, (fun h => (h11 h).below hy), (fun h => (h12 h).below hy), (fun h => (h13 h).below hy), (fun h => (h14 h).below hy), (fun h => (h15 h).below hy), (fun h => (h16 h).below hy), d11_12, d11_13, d12_13⟩
      · have e0 := h0 (zdq hd 0 rfl)
        have e1 := h1 (zdq hd 1 rfl)
        have e5 := h5 (zdq hd 5 rfl)
        go_wp2_with (go_at_call 144; refine (HBZ.out _).mono ?_; rintro e wy ⟨rfl, hy⟩)
        exact hK _ (.tuple #[(.agg (zb 64 (bzD p X (subP p (pmP p Fr p X) TP)))), (.agg (zb 64 (bzU p X (subP p (pmP p Fr p X) TP)))), (.agg (zb 64 (bzW p X (subP p (pmP p Fr p X) TP))))]) _ (by simp only [Act.put, pA, pB, pC, e0, e1, e5]) ⟨hB.trans (hy.mono hB.size), (Nat.le_trans hz hy.size), s0.zw hy, s1.zw hy, s2.zw hy, s3.zw hy, s4.zw hy, h0, h1, h2, h3, h4, h5, (fun _ => rfl), h7, h8, h9, h10, (fun h => (h11 h).below hy), (fun h => (h12 h).below hy), (fun h => (h13 h).below hy), (fun h => (h14 h).below hy), (fun h => (h15 h).below hy), (fun h => (h16 h).below hy), d11_12, d11_13, d12_13⟩
      · have e6 := h6 (zdq hd 6 rfl)
        go_wp2_with fail
        exact hK _ (.tuple #[(.agg (zb 64 (bzD p X (subP p (pmP p Fr p X) TP)))), (.agg (zb 64 (bzU p X (subP p (pmP p Fr p X) TP)))), (.agg (zb 64 (bzW p X (subP p (pmP p Fr p X) TP))))]) _ (by simp only [Act.put, pA, pB, pC, e6]) ⟨hB, hz, s0, s1, s2, s3, s4, h0, h1, h2, h3, h4, h5, h6, (fun _ => rfl), h8, h9, h10, h11, h12, h13, h14, h15, h16, d11_12, d11_13, d12_13⟩
      · have e7 := h7 (zdq hd 7 rfl)
        go_wp2_with fail
        exact hK _ (.agg (zb 64 (bzD p X (subP p (pmP p Fr p X) TP)))) _ (by simp only [Act.put, pA, pB, pC, e7]) ⟨hB, hz, s0, s1, s2, s3, s4, h0, h1, h2, h3, h4, h5, h6, h7, (fun _ => rfl), h9, h10, h11, h12, h13, h14, h15, h16, d11_12, d11_13, d12_13⟩
      · have e7 := h7 (zdq hd 7 rfl)
        go_wp2_with fail
        exact hK _ (.agg (zb 64 (bzU p X (subP p (pmP p Fr p X) TP)))) _ (by simp only [Act.put, pA, pB, pC, e7]) ⟨hB, hz, s0, s1, s2, s3, s4, h0, h1, h2, h3, h4, h5, h6, h7, h8, (fun _ => rfl), h10, h11, h12, h13, h14, h15, h16, d11_12, d11_13, d12_13⟩
      · have e7 := h7 (zdq hd 7 rfl)
        go_wp2_with fail
        exact hK _ (.agg (zb 64 (bzW p X (subP p (pmP p Fr p X) TP)))) _ (by simp only [Act.put, pA, pB, pC, e7]) ⟨hB, hz, s0, s1, s2, s3, s4, h0, h1, h2, h3, h4, h5, h6, h7, h8, h9, (fun _ => rfl), h11, h12, h13, h14, h15, h16, d11_12, d11_13, d12_13⟩
      · go_wp2_with fail
        rw [← z64]
        exact hK _ (.pointer (some ⟨W7.heap.size, 0, none⟩)) _ (by simp only [Act.put, pA, pB, pC ]) ⟨hB.alloc hB.size _, (by simp; omega), (s0).alloc _, (s1).alloc _, (s2).alloc _, (s3).alloc _, (s4).alloc _, h0, h1, h2, h3, h4, h5, h6, h7, h8, h9, h10, (fun _ => (PF.new W7 64 28 _ hz).af), (fun h => (h12 h).below (zal _ _)), (fun h => (h13 h).below (zal _ _)), (fun h => absurd rfl (hn 14 _ rfl h ⟨11, .data⟩ (by simp) rfl)), (fun h => (h15 h).below (zal _ _)), (fun h => (h16 h).below (zal _ _)), (fun h g1 => Ne.symm ((h12 g1).ne_new)), (fun h g1 => Ne.symm ((h13 g1).ne_new)), d12_13⟩
      · go_wp2_with fail
        rw [← z64]
        exact hK _ (.pointer (some ⟨W7.heap.size, 0, none⟩)) _ (by simp only [Act.put, pA, pB, pC ]) ⟨hB.alloc hB.size _, (by simp; omega), (s0).alloc _, (s1).alloc _, (s2).alloc _, (s3).alloc _, (s4).alloc _, h0, h1, h2, h3, h4, h5, h6, h7, h8, h9, h10, (fun h => (h11 h).below (zal _ _)), (fun _ => (PF.new W7 64 28 _ hz).af), (fun h => (h13 h).below (zal _ _)), (fun h => (h14 h).below (zal _ _)), (fun h => absurd rfl (hn 15 _ rfl h ⟨12, .data⟩ (by simp) rfl)), (fun h => (h16 h).below (zal _ _)), (fun h g1 => (h11 h).ne_new), d11_13, (fun h g1 => Ne.symm ((h13 g1).ne_new))⟩
      · go_wp2_with fail
        rw [← z64]
        exact hK _ (.pointer (some ⟨W7.heap.size, 0, none⟩)) _ (by simp only [Act.put, pA, pB, pC ]) ⟨hB.alloc hB.size _, (by simp; omega), (s0).alloc _, (s1).alloc _, (s2).alloc _, (s3).alloc _, (s4).alloc _, h0, h1, h2, h3, h4, h5, h6, h7, h8, h9, h10, (fun h => (h11 h).below (zal _ _)), (fun h => (h12 h).below (zal _ _)), (fun _ => (PF.new W7 64 28 _ hz).af), (fun h => (h14 h).below (zal _ _)), (fun h => (h15 h).below (zal _ _)), (fun h => absurd rfl (hn 16 _ rfl h ⟨13, .data⟩ (by simp) rfl)), d11_12, (fun h g1 => (h11 h).ne_new), (fun h g1 => (h12 h).ne_new)⟩
      · have e8 := h8 (zdq hd 8 rfl)
        obtain ⟨gz, b, ea, hN, hk⟩ := (h11 (zdq hd 11 rfl)).out
        refine zsb 28 _ _ rfl b 64 (bzD p X (subP p (pmP p Fr p X) TP)) ea e8 28 gz hk Try.size28 ?_
        exact hK _ undef _ rfl ⟨zr hB (Nat.le_trans hbase hN) _, (by simpa [World.setRow] using hz), (s0).rowOther (by omega), (s1).rowOther (by omega), (s2).rowOther (by omega), (s3).rowOther (by omega), (s4).rowOther (by omega), h0, h1, h2, h3, h4, h5, h6, h7, h8, h9, h10, (fun h => (h11 h).row hk), (fun h => (h12 h).row hk), (fun h => (h13 h).row hk), (fun _ => by rw [show updV v 14 undef 11 = v 11 from rfl, ea]; exact PF.row hk hN _), (fun h => (h15 h).rowOther (by rw [← ea]; exact (Ne.symm (d11_12 (zdq hd 11 rfl) (zdq hd 12 rfl))))), (fun h => (h16 h).rowOther (by rw [← ea]; exact (Ne.symm (d11_13 (zdq hd 11 rfl) (zdq hd 13 rfl))))), d11_12, d11_13, d12_13⟩
      · have e9 := h9 (zdq hd 9 rfl)
        obtain ⟨gz, b, ea, hN, hk⟩ := (h12 (zdq hd 12 rfl)).out
        refine zsb 28 _ _ rfl b 64 (bzU p X (subP p (pmP p Fr p X) TP)) ea e9 28 gz hk Try.size28 ?_
        exact hK _ undef _ rfl ⟨zr hB (Nat.le_trans hbase hN) _, (by simpa [World.setRow] using hz), (s0).rowOther (by omega), (s1).rowOther (by omega), (s2).rowOther (by omega), (s3).rowOther (by omega), (s4).rowOther (by omega), h0, h1, h2, h3, h4, h5, h6, h7, h8, h9, h10, (fun h => (h11 h).row hk), (fun h => (h12 h).row hk), (fun h => (h13 h).row hk), (fun h => (h14 h).rowOther (by rw [← ea]; exact (d11_12 (zdq hd 11 rfl) (zdq hd 12 rfl)))), (fun _ => by rw [show updV v 15 undef 12 = v 12 from rfl, ea]; exact PF.row hk hN _), (fun h => (h16 h).rowOther (by rw [← ea]; exact (Ne.symm (d12_13 (zdq hd 12 rfl) (zdq hd 13 rfl))))), d11_12, d11_13, d12_13⟩
      · have e10 := h10 (zdq hd 10 rfl)
        obtain ⟨gz, b, ea, hN, hk⟩ := (h13 (zdq hd 13 rfl)).out
        refine zsb 28 _ _ rfl b 64 (bzW p X (subP p (pmP p Fr p X) TP)) ea e10 28 gz hk Try.size28 ?_
        exact hK _ undef _ rfl ⟨zr hB (Nat.le_trans hbase hN) _, (by simpa [World.setRow] using hz), (s0).rowOther (by omega), (s1).rowOther (by omega), (s2).rowOther (by omega), (s3).rowOther (by omega), (s4).rowOther (by omega), h0, h1, h2, h3, h4, h5, h6, h7, h8, h9, h10, (fun h => (h11 h).row hk), (fun h => (h12 h).row hk), (fun h => (h13 h).row hk), (fun h => (h14 h).rowOther (by rw [← ea]; exact (d11_13 (zdq hd 11 rfl) (zdq hd 13 rfl)))), (fun h => (h15 h).rowOther (by rw [← ea]; exact (d12_13 (zdq hd 12 rfl) (zdq hd 13 rfl)))), (fun _ => by rw [show updV v 16 undef 13 = v 13 from rfl, ea]; exact PF.row hk hN _), d11_12, d11_13, d12_13⟩
    · intro L v W7 hL ⟨hB, hz, s0, s1, s2, s3, s4, h0, h1, h2, h3, h4, h5, h6, h7, h8, h9, h10, h11, h12, h13, h14, h15, h16, d11_12, d11_13, d12_13⟩
      have e0 := h0 (hL 0 (by decide))
      have e1 := h1 (hL 1 (by decide))
      have e2 := h2 (hL 2 (by decide))
      have e3 := h3 (hL 3 (by decide))
      have e4 := h4 (hL 4 (by decide))
      have e5 := h5 (hL 5 (by decide))
      have e6 := h6 (hL 6 (by decide))
      have e7 := h7 (hL 7 (by decide))
      have e8 := h8 (hL 8 (by decide))
      have e9 := h9 (hL 9 (by decide))
      have e10 := h10 (hL 10 (by decide))
      obtain ⟨k8_11, e11, hNk8_11, hk8_11⟩ := (h14 (hL 14 (by decide))).out
      obtain ⟨k8_12, e12, hNk8_12, hk8_12⟩ := (h15 (hL 15 (by decide))).out
      obtain ⟨k8_13, e13, hNk8_13, hk8_13⟩ := (h16 (hL 16 (by decide))).out
      have n11_12 := d11_12 (hL 11 (by decide)) (hL 12 (by decide))
      have n11_13 := d11_13 (hL 11 (by decide)) (hL 13 (by decide))
      have n12_13 := d12_13 (hL 12 (by decide)) (hL 13 (by decide))
      clear hL h0 h1 h2 h3 h4 h5 h6 h7 h8 h9 h10 h11 h12 h13 h14 h15 h16 d11_12 d11_13 d12_13
      rw [e11, e12] at n11_12
      have mk8_11_12 : k8_11 ≠ k8_12 := fun h => n11_12 (by rw [h])
      clear n11_12
      rw [e11, e13] at n11_13
      have mk8_11_13 : k8_11 ≠ k8_13 := fun h => n11_13 (by rw [h])
      clear n11_13
      rw [e12, e13] at n12_13
      have mk8_12_13 : k8_12 ≠ k8_13 := fun h => n12_13 (by rw [h])
      clear n12_13
      simp only [Exit.then, e0, e1, e2, e3, e4, e5, e6, e7, e8, e9, e10, e11, e12, e13]
      clear e0 e1 e2 e3 e4 e5 e6 e7 e8 e9 e10 e11 e12 e13
      replace B0 := s0
      clear s0
      replace B1 := s1
      clear s1
      replace B2 := s2
      clear s2
      replace B3 := s3
      clear s3
      replace B4 := s4
      clear s4
      replace hb := hB
      clear hB
      have B5 := hk8_11
      clear hk8_11
      have zk8_11_0 : w.heap.size < k8_11 := by omega
      have zk8_11_1 : N1 < k8_11 := by omega
      have zk8_11_2 : N2 < k8_11 := by omega
      have zk8_11_3 : base ≤ k8_11 := by omega
      have zk8_11_4 : wr.heap.size ≤ k8_11 := by omega
      have B6 := hk8_12
      clear hk8_12
      have zk8_12_0 : w.heap.size < k8_12 := by omega
      have zk8_12_1 : N1 < k8_12 := by omega
      have zk8_12_2 : N2 < k8_12 := by omega
      have zk8_12_3 : base ≤ k8_12 := by omega
      have zk8_12_4 : wr.heap.size ≤ k8_12 := by omega
      have B7 := hk8_13
      clear hk8_13
      have zk8_13_0 : w.heap.size < k8_13 := by omega
      have zk8_13_1 : N1 < k8_13 := by omega
      have zk8_13_2 : N2 < k8_13 := by omega
      have zk8_13_3 : base ≤ k8_13 := by omega
      have zk8_13_4 : wr.heap.size ≤ k8_13 := by omega
      clear hbase hz lt_B0 lt_B1 lt_B2 lt_B3 lt_B4
      go_upto_region 9 with (fail)
      clear HPM HDF HBZ
      have yb41 := B3.lt
      go_upto_block 2 with (first | (refine zla (.tmp 9) B5 Try.underlying28 Try.size28 ?_) | (go_at_call 168; refine (HEQ.out _).mono ?_; rintro e WE ⟨v41, rfl, hS41, hWE⟩; obtain ⟨ad, cap, hv41⟩ := hS41.form; rw [polRows_len] at hv41; subst hv41))
      replace B0 := B0.zw hWE
      replace B1 := B1.zw hWE
      replace B2 := B2.zw hWE
      replace B3 := B3.zw hWE
      replace B4 := B4.zw hWE
      replace B5 := B5.zw hWE
      replace B6 := B6.zw hWE
      replace B7 := B7.zw hWE
      have wsz := hWE.size
      replace hb := hb.trans (hWE.mono hb.size)
      clear hWE HEQ
      have HOK := Lib.hid (show okL p (n + 1) M from HST.out.1)
      go_wp2_with fail
      go_loopw [5, 43] (fun s5 i wr => ∃ (j : Nat) (Y : Nat → Nat) (LJ : List (Nat × Nat)) (lst2 : Value), lst2 = s5 ∧ j ≤ M.length ∧ i = .int .i64 (j : Int) ∧ Hid (foI p (M.take j) X = (LJ, Y)) ∧ LJ.length = j ∧ Hid (∀ k, k < 64 → Y k < p) ∧ 0 ≤ deg Y ∧ Below w.heap.size w wr ∧ Blk wr (w.heap.size) 64 28 Y ∧ Blk wr (N1) 64 28 TP ∧ Blk wr (N2) 64 28 (pmP p Fr p X) ∧ SlL wr base 161 65 lst2 (facRows p (LL ++ LJ)) ∧ SlL wr base 28 64 (.slice ad M.length cap) (polRows p M)) (fun _ i _ => M.length + 1 - (intOf i).toNat)
      case atStart => exact ⟨0, X, [], lst, rfl, Nat.zero_le _, rfl, Lib.hid (by rw [List.take_zero]; unfold foI; rfl), rfl, hX, hX0, hb, B0, B1, B2, (by rw [List.append_nil]; exact B3.1), hS41.base yb41⟩
      case round =>
       clear hb hS41 B0 B1 B2 B3 B4 B5 B6 B7
       obtain ⟨j, Y, LJ, lst2, rfl, hjM, rfl, hFO, hLJ, hY, hY0, hb, B0, B1, B2, hS, hS41⟩ := hrel
       by_cases hj : j < M.length
       · obtain ⟨x, hx⟩ : ∃ x, M[j]? = some x := ⟨_, List.getElem?_eq_getElem hj⟩
         obtain ⟨g, rfl⟩ := hS41.some (by rw [polRows_len]; omega)
         have hr := hS41.range (i := j) (c := bl 64 (ofN p x)) (by unfold polRows; rw [List.getElem?_map, hx]; rfl)
         have hxM := HOK.out x (List.mem_of_getElem? hx)
         have hmx := mon_ofN p2 (by omega : n + 1 < 64) hxM
         have HFT := Lib.hid (show foI p (M.take (j + 1)) X = (LJ ++ [(x, (dvo p (ofN p x) 64 Y).1)], (dvo p (ofN p x) 64 Y).2) by rw [foI_take hx, hFO.out])
         obtain ⟨d1, d2, d3, d4⟩ := dvo_ok (m := ofN p x) hpr (fun k _ => ofN_lt p0 x k) hmx 64 Y hY.out hY0
         have HDV := Lib.hid (fun W => dividedOut_any p Y (ofN p x) (n + 1) W hpr hY.out (fun k _ => ofN_lt p0 x k) hmx (by omega) hY0)
         have HD1 := Lib.hid d1
         have B8 := hS.top
         have B9 := hS41.top
         have B10 : SzG wr.heap.size wr := Nat.le_refl _
         have hjl : (j : Int) < (M.length : Int) := by omega
         obtain ⟨gl1, gl2, gl3⟩ := hS41.len
         clear d1 hmx hxM hx hFO hS hS41 gl1 gl2 gl3
         go_upto_region 11 with (fail)
         have lt_B0 := B0.lt
         have lt_B1 := B1.lt
         have lt_B2 := B2.lt
         have lt_B8 := B8.lt
         have lt_B9 := B9.lt
         have lt_B10 := B10.lt
         go_upto_region 12 with (first | rw [← z64] | (refine wpList_load_mid rfl 28 (.tmp 45) rfl g (j * 64) rfl (bl 64 (ofN p x)) _ hr Try.underlying28 rfl (by rw [zl]; exact Try.size28) ?_) | (refine wpList_store_blk rfl 28 (.tmp 13) (.tmp 46) rfl _ 64 (ofN p x) rfl rfl 28 _ ((Blk.new wr 64 28 (fun _ => 0))) Try.size28 ?_; try simp only [Act.put]))
         have lt_B0 := B0.lt
         have lt_B1 := B1.lt
         have lt_B2 := B2.lt
         have lt_B8 := B8.lt
         have lt_B9 := B9.lt
         have lt_B10 := B10.lt
         have lhb := hb.size
         obtain ⟨W8, hwo, hzQ⟩ : ∃ v : World, v = ((wr.alloc (.cells (zb 64 fun _ => 0) 28)).setRow (wr.heap.size) (zb 64 (ofN p x))) ∧ Blk v (w.heap.size) 64 28 (Y) ∧ Blk v (N1) 64 28 (TP) ∧ Blk v (N2) 64 28 (pmP p Fr p X) ∧ SlT v base wr.heap.size 161 65 lst2 (facRows p (LL ++ LJ)) ∧ SlT v base wr.heap.size 28 64 (.slice (some ⟨g, 0, none⟩) M.length cap) (polRows p M) ∧ SzG wr.heap.size v ∧ Blk v (wr.heap.size) 64 28 (ofN p x) ∧ Below w.heap.size w v := ⟨_, rfl, ((B0.alloc (.cells (zb 64 fun _ => 0) 28)).rowOther (by omega)), ((B1.alloc (.cells (zb 64 fun _ => 0) 28)).rowOther (by omega)), ((B2.alloc (.cells (zb 64 fun _ => 0) 28)).rowOther (by omega)), ((B8.alloc (.cells (zb 64 fun _ => 0) 28)).rowOther (by omega)), ((B9.alloc (.cells (zb 64 fun _ => 0) 28)).rowOther (by omega)), ((B10.alloc (.cells (zb 64 fun _ => 0) 28)).rowOther (by omega)), ((Blk.new wr 64 28 (fun _ => 0)).row (ofN p x)), (zr (hb.alloc (by have := hb.size; simp; omega) (.cells (zb 64 fun _ => 0) 28)) (by omega) _)⟩
         rw [← hwo]
         clear hwo B0 B1 B10 B2 B8 B9 hb
         obtain ⟨B0, B1, B2, B8, B9, B10, B11, hb⟩ := hzQ
         obtain ⟨N3, hNN⟩ : ∃ n : Nat, n = wr.heap.size := ⟨_, rfl⟩
         rw [← hNN] at lt_B0 lt_B1 lt_B2 lt_B8 lt_B9 lt_B10 lhb B11 ⊢
         clear hNN
         have zN3_0 := lt_B0
         have zN3_1 := lt_B1
         have zN3_2 := lt_B2
         have zN3_8 := lt_B8
         have zN3_9 := lt_B9
         have zN3_10 := lt_B10
         have zN3 := lhb
         clear lt_B0 lt_B1 lt_B2 lt_B8 lt_B9 lt_B10 lhb
         try simp only [Act.put, pA, pB, pC]
         clear hr
         have lt_B0 := B0.lt
         have lt_B1 := B1.lt
         have lt_B2 := B2.lt
         have lt_B8 := B8.lt
         have lt_B9 := B9.lt
         have lt_B10 := B10.lt
         have lt_B11 := B11.lt
         go_upto_region 13 with (first | rw [← z64] | rw [← facC_zero] | (refine zla (.tmp 13) B11 Try.underlying28 Try.size28 ?_) | (refine zbo rfl 161 _ rfl (facC (ofN p x) 0).toArray (by rw [Array.toList_map]; exact built_fac _) ?_) | (refine wpList_store_rowv rfl 161 (.tmp 14) (.tmp 48) rfl _ rfl (facC (ofN p x) 0).toArray rfl 161 _ ((Row.new W8 161 (facC (fun _ => 0) 0).toArray)) 65 Try.size161 (by simp [facC_len]) (by simp [facC_len]) (facC_all _ _) ?_; try simp only [Act.put]))
         have lt_B0 := B0.lt
         have lt_B1 := B1.lt
         have lt_B2 := B2.lt
         have lt_B8 := B8.lt
         have lt_B9 := B9.lt
         have lt_B10 := B10.lt
         have lt_B11 := B11.lt
         have lhb := hb.size
         obtain ⟨W9, hwo, hzQ⟩ : ∃ v : World, v = ((W8.alloc (.cells (facC (fun _ => 0) 0).toArray 161)).setRow (W8.heap.size) (facC (ofN p x) 0).toArray) ∧ Blk v (w.heap.size) 64 28 (Y) ∧ Blk v (N1) 64 28 (TP) ∧ Blk v (N2) 64 28 (pmP p Fr p X) ∧ SlT v base wr.heap.size 161 65 lst2 (facRows p (LL ++ LJ)) ∧ SlT v base wr.heap.size 28 64 (.slice (some ⟨g, 0, none⟩) M.length cap) (polRows p M) ∧ SzG wr.heap.size v ∧ Blk v (N3) 64 28 (ofN p x) ∧ Row v (W8.heap.size) 161 (facC (ofN p x) 0).toArray ∧ Below w.heap.size w v := ⟨_, rfl, ((B0.alloc (.cells (facC (fun _ => 0) 0).toArray 161)).rowOther (by omega)), ((B1.alloc (.cells (facC (fun _ => 0) 0).toArray 161)).rowOther (by omega)), ((B2.alloc (.cells (facC (fun _ => 0) 0).toArray 161)).rowOther (by omega)), ((B8.alloc (.cells (facC (fun _ => 0) 0).toArray 161)).rowOther (by omega)), ((B9.alloc (.cells (facC (fun _ => 0) 0).toArray 161)).rowOther (by omega)), ((B10.alloc (.cells (facC (fun _ => 0) 0).toArray 161)).rowOther (by omega)), ((B11.alloc (.cells (facC (fun _ => 0) 0).toArray 161)).rowOther (by omega)), ((Row.new W8 161 (facC (fun _ => 0) 0).toArray).row (facC (ofN p x) 0).toArray), (zr (hb.alloc (by have := hb.size; simp; omega) (.cells (facC (fun _ => 0) 0).toArray 161)) (by omega) _)⟩
         rw [← hwo]
         clear hwo B0 B1 B10 B11 B2 B8 B9 hb
         obtain ⟨B0, B1, B2, B8, B9, B10, B11, B12, hb⟩ := hzQ
         obtain ⟨N4, hNN⟩ : ∃ n : Nat, n = W8.heap.size := ⟨_, rfl⟩
         rw [← hNN] at lt_B0 lt_B1 lt_B2 lt_B8 lt_B9 lt_B10 lt_B11 lhb B12 ⊢
         clear hNN
         have zN4_0 := lt_B0
         have zN4_1 := lt_B1
         have zN4_2 := lt_B2
         have zN4_8 := lt_B8
         have zN4_9 := lt_B9
         have zN4_10 := lt_B10
         have zN4_11 := lt_B11
         have zN4 := lhb
         clear lt_B0 lt_B1 lt_B2 lt_B8 lt_B9 lt_B10 lt_B11 lhb
         try simp only [Act.put, pA, pB, pC]
         have lt_B0 := B0.lt
         have lt_B1 := B1.lt
         have lt_B2 := B2.lt
         have lt_B8 := B8.lt
         have lt_B9 := B9.lt
         have lt_B10 := B10.lt
         have lt_B11 := B11.lt
         have lt_B12 := B12.lt
         go_upto_region 14 with (first | rw [← z64] | (refine zla (.tmp 3) B0 Try.underlying28 Try.size28 ?_) | (refine zla (.tmp 13) B11 Try.underlying28 Try.size28 ?_) | (go_at_call 169; refine (HDV.out _).mono ?_; rintro e W10 ⟨rfl, hW10⟩; replace B0 := B0.zw hW10; replace B1 := B1.zw hW10; replace B2 := B2.zw hW10; replace B8 := B8.zw hW10; replace B9 := B9.zw hW10; replace B10 := B10.zw hW10; replace B11 := B11.zw hW10; replace B12 := B12.zw hW10; replace hb := (hb).trans (hW10.mono (hb).size); have cc := B12.cell (facC_at _ _); have zz := B12.frozen 64) | (refine wpList_store_blk rfl 28 (.tmp 3) (.tmp 55) rfl _ 64 ((dvo p (ofN p x) 64 Y).2) rfl rfl 28 _ ((B0.setOther (by dsimp only; omega))) Try.size28 ?_; try simp only [Act.put]))
         obtain ⟨W11, hwo, hzQ⟩ : ∃ v : World, v = ((W10.setCell ⟨N4, 64, none⟩ (.int .i64 (((dvo p (ofN p x) 64 Y).1 : Nat) : Int))).setRow (w.heap.size) (zb 64 ((dvo p (ofN p x) 64 Y).2))) ∧ Blk v (w.heap.size) 64 28 ((dvo p (ofN p x) 64 Y).2) ∧ Blk v (N1) 64 28 (TP) ∧ Blk v (N2) 64 28 (pmP p Fr p X) ∧ SlT v base wr.heap.size 161 65 lst2 (facRows p (LL ++ LJ)) ∧ SlT v base wr.heap.size 28 64 (.slice (some ⟨g, 0, none⟩) M.length cap) (polRows p M) ∧ SzG wr.heap.size v ∧ Blk v (N3) 64 28 (ofN p x) ∧ Row v (N4) 161 (facC (ofN p x) (dvo p (ofN p x) 64 Y).1).toArray ∧ Below w.heap.size w v := ⟨_, rfl, ((B0.setOther (by dsimp only; omega)).row ((dvo p (ofN p x) 64 Y).2)), ((B1.setOther (by dsimp only; omega)).rowOther (by omega)), ((B2.setOther (by dsimp only; omega)).rowOther (by omega)), ((B8.setOther (by dsimp only; omega)).rowOther (by omega)), ((B9.setOther (by dsimp only; omega)).rowOther (by omega)), ((B10.setOther (by dsimp only; omega)).rowOther (by omega)), ((B11.setOther (by dsimp only; omega)).rowOther (by omega)), ((show Row _ _ _ (facC (ofN p x) (dvo p (ofN p x) 64 Y).1).toArray by rw [← facC_set (ofN p x) 0 (dvo p (ofN p x) 64 Y).1]; exact (B12).set).rowOther (by omega)), (zr (hb.setCell (by show w.heap.size ≤ (N4); omega) _) (by omega) _)⟩
         rw [← hwo]
         clear hwo B0 B1 B10 B11 B12 B2 B8 B9 hb
         obtain ⟨B0, B1, B2, B8, B9, B10, B11, B12, hb⟩ := hzQ
         try simp only [Act.put, pA, pB, pC]
         try clear cc zz
         clear HDV
         have lu_0 := B0.lt
         have lu_1 := B1.lt
         have lu_2 := B2.lt
         have lu_8 := B8.lt
         have lu_9 := B9.lt
         have lu_10 := B10.lt
         have lu_11 := B11.lt
         have lu_12 := B12.lt
         go_wp2_with (first | (refine zlr rfl 161 (.tmp 14) rfl _ rfl 161 (facC (ofN p x) (dvo p (ofN p x) 64 Y).1).toArray B12 _ Try.underlying161 rfl 65 Try.size161 (by simp [facC_len]) ?_) | (refine wpList_build1 rfl 162 _ (facC (ofN p x) (dvo p (ofN p x) 64 Y).1) 65 rfl 161 Try.underlying162 Try.elemFac (by decide) (by decide) (facC_len _ _) rfl ?_; intro wa hps hba; have eB0 := B0.zw hba; have eB1 := B1.zw hba; have eB2 := B2.zw hba; have eB8 := B8.zw hba; have eB9 := B9.zw hba; have eB10 := B10.zw hba; have eB11 := B11.zw hba; have eB12 := B12.zw hba; have ehb := hb.trans (hba.mono hb.size)) | (at_builtin; refine wpList_append_sl _ rfl _ _ 162 rfl base 161 (.agg (facC (fun _ => 0) 0).toArray) 65 72 Try.underlying162 Try.infoFac (by simp [Value.cells, facC_len]) (by decide) lst2 _ rfl eB8.1 W11.heap.size (facC (ofN p x) (dvo p (ofN p x) 64 Y).1) rfl (facC_len _ _) hps.range (facC_one _ _) (by rw [facRows_len, List.length_append]; unfold maxLen; omega) (by rw [facRows_len, List.length_append]; omega) ?_; intro vp wp hSp hg1; have fB0 := eB0.grownO hg1 (eB8.1.own) (base := base) (by omega); have fB1 := eB1.grownO hg1 (eB8.1.own) (base := base) (by omega); have fB2 := eB2.grownO hg1 (eB8.1.own) (base := base) (by omega); have fB9 := eB9.1.grownE eB8.1 hg1 (by decide); have fhb := ehb.grown hg1 ehb.size (fun k e => Nat.le_trans ybw (eB8.1.own k e))))
         go_roundw
         case rel => exact ⟨j + 1, (dvo p (ofN p x) 64 Y).2, LJ ++ [(x, (dvo p (ofN p x) 64 Y).1)], vp, rfl, by omega, by go_num, HFT, by simp [hLJ], HD1, d2, fhb, fB0, fB1, fB2, (by rw [← List.append_assoc, facRows_snoc]; exact hSp), fB9⟩
         case measure => simp [intOf] <;> omega
       · have hjM2 : j = M.length := by omega
         have HFM := Lib.hid (show foI p M X = (LJ, Y) by rw [← hFO.out, hjM2, List.take_length])
         obtain ⟨t1, t2, t3, t4⟩ := HST.out
         rw [HFM.out] at t2 t3 t4
         have HRN := Lib.hid (show run p 64 1 f = (LL ++ LJ) ++ run p fu (n + 1 + 1) Y by rw [hE.out, t2, List.append_assoc])
         have HLW := Lib.hid t3
         have HRM := Lib.hid t4
         have hdY : deg Y ≤ 12 := by
          have := (foI_ok hpr (by omega : n + 1 < 64) M X t1 hX.out hX0).2.2
          rw [HFM.out] at this
          have h3 : deg Y ≤ deg X := this
          omega
         have hjn : ¬ (j : Int) < (M.length : Int) := by omega
         have hLb : (LL ++ LJ).length ≤ (n + 1) * 13841287202 := by rw [List.length_append]; omega
         clear t1 t2 t3 t4 hFO hE hj
         go_wp2_with fail
         go_roundw
         case rel => exact ⟨fu, n + 1, Y, pmP p Fr p X, LL ++ LJ, _, rfl, by have := HFU.out; omega, by go_num, HRN, hY, hY0, hdY, HLW, HF2, HRM, hLb, hb, B0, B1, B2, hS⟩
         case measure => simp [intOf] <;> omega
end Go.Proofs.Ytelgefgphhebnaa
namespace Go.Proofs.Ytelgefgphhebnaa
open Go.RowKit
section
variable {P : Program} {Q : Exit → Act → World → Prop}
/-- what is asked of operation i, wanted or not -/
def StepG (P : Program) (ops : Array Oper) (Q : Exit → Act → World → Prop) (F : (Nat → Value) → Act) (Ψ : (Nat → Bool) → (Nat → Value) → World → Prop) (i : Nat) (o : Oper) : Prop :=
 ∀ (L : Nat → Bool) (v : Nat → Value) (w : World), (∀ e, e ∈ o.after → Region.binds .any e = true → L e.on = true) →
  (∀ j p, ops[j]? = some p → L j = true → ∀ e, e ∈ p.after → Region.binds .any e = true → e.on ≠ i) → Ψ L v w →
  ∀ K : Act → World → Prop, (∀ a' y w', a' = (F v).put o.dst y → Ψ (setL L i) (updV v i y) w' → K a' w') →
   if Region.wanted o (yielded ops (F v).tmps) = true then Oper.wp P o (F v) w K Q else K ((F v).put o.dst undef) w
inductive StepsG (P : Program) (ops : Array Oper) (Q : Exit → Act → World → Prop) (F : (Nat → Value) → Act) (Ψ : (Nat → Bool) → (Nat → Value) → World → Prop) : List Oper → Nat → Prop
 | nil (k : Nat) : StepsG P ops Q F Ψ [] k
 | cons {o : Oper} {os : List Oper} {k : Nat} (h : StepG P ops Q F Ψ k o) (hs : StepsG P ops Q F Ψ os (k + 1)) : StepsG P ops Q F Ψ (o :: os) k
theorem stepsG_of {ops : Array Oper} {F : (Nat → Value) → Act} {Ψ : (Nat → Bool) → (Nat → Value) → World → Prop} : ∀ (os : List Oper) (k : Nat), StepsG P ops Q F Ψ os k → ∀ i o, os[i]? = some o → StepG P ops Q F Ψ (k + i) o
 | [], _, _, _, _, h => by simp at h
 | p :: os, k, hs, 0, o, h => by
  simp only [List.getElem?_cons_zero, Option.some.injEq] at h
  subst h
  cases hs with
  | cons h _ => exact h
 | p :: os, k, hs, i + 1, o, h => by
  cases hs with
  | cons _ hs =>
   have := stepsG_of os (k + 1) hs i o (by simpa using h)
   rwa [show k + 1 + i = k + (i + 1) by omega] at this
theorem wp_region_stepsG {os : List Oper} {id : Nat} {a0 : Act} {w : World} (hm : P.follows .mixedOrders = true) (hd : dstsOkL os = true) (he : edgesOk os.toArray = true)
 {F : (Nat → Value) → Act} (hF : ∀ v, frL a0 os 0 v = F v)
 (Ψ : (Nat → Bool) → (Nat → Value) → World → Prop) (h0 : ∀ v, (∀ i, v i = ((os[i]?.bind (·.dst)).map fun t => a0.tmps.getD t undef).getD undef) → Ψ (fun _ => false) v w.drew)
 (hstep : StepsG P os.toArray Q F Ψ os 0)
 (hend : ∀ L v w, (∀ i, i < os.length → L i = true) → Ψ L v w → Q .normal (F v) w) : (Code.region id os.toArray true).wp P Q a0 w := by
 refine wp_region_psi0 hm (by simpa using hd) he Ψ (fun v hv => h0 v (by simpa using hv)) (fun i o ho => ?_) (fun L v w hL hΨ => ?_)
 · have hs := stepsG_of _ _ hstep i o (by simpa using ho)
   rw [Nat.zero_add] at hs
   intro L v w h1 h2 h3 K hK
   have hf : fr a0 os.toArray v = F v := hF v
   rw [hf] at hK ⊢
   exact hs L v w h1 h2 h3 K hK
 · have hf : fr a0 os.toArray v = F v := hF v
   rw [hf]
   exact hend L v w (by simpa using hL) hΨ
end
end Go.Proofs.Ytelgefgphhebnaa
namespace Go.Proofs.Ytelgefgphhebnaa
open Go Go.RowKit
set_option linter.unusedVariables false
set_option linter.unusedSimpArgs false
attribute [local irreducible] deg invN dS qS stp stpr quoP resP oneP eqS ofN dvo pmP eqf foI run bzD bzU bzW subP lowf monL TP monUp monB
/-- irreducible -/
noncomputable def irB (p : Nat) (f : Nat → Nat) : Bool := @decide (∃ d, irr p (cut f) d) (Classical.propDecidable _)
theorem irB_iff {p : Nat} {f : Nat → Nat} : irB p f = true ↔ ∃ d, irr p (cut f) d := by
 unfold irB
 exact @decide_eq_true_iff _ (Classical.propDecidable _)
noncomputable def irV (p : Nat) (f : Nat → Nat) : Bool := monUp 12 f && irB p f
theorem cut_lt2 {p : Nat} {f : Nat → Nat} (hp : 0 < p) (lf : ∀ k, k < 64 → f k < p) (k : Nat) : cut f k < p := by
 by_cases hk : k < 64
 · rw [cut_in _ hk]; exact lf k hk
 · rw [zcz _ (by omega)]; exact hp
theorem monUp_cut (c : Int) (f : Nat → Nat) : monUp c (cut f) = monUp c f := by
 have hb := zdb f
 unfold monUp
 rw [deg_congr (f := cut f) (g := f) (fun k hk => cut_in f hk), cut_in f (by omega)]
theorem mon_cut {f : Nat → Nat} {d : Nat} (h : mon f d) : mon (cut f) d := by
 obtain ⟨d6, _, _⟩ := deg_top h.1
 exact ⟨(deg_congr (fun k hk => cut_in f hk)).trans h.1, by rw [cut_in f d6]; exact h.2⟩
theorem run_cut {p : Nat} {f : Nat → Nat} (hp : p = 2 ∨ p = 3 ∨ p = 5 ∨ p = 7) (lf : ∀ k, k < 64 → f k < p) (d : Nat) (hd : 1 ≤ d) (hm : mon f d) : ∃ x l, run p 64 1 (cut f) = x :: l ∧ (eqN 64 (ofN p x.1) f = irB p f) := by
 obtain ⟨x, l, h1, h2⟩ := head_irr hp (cut_lt2 (by omega) lf) hd (mon_cut hm)
 refine ⟨x, l, h1, ?_⟩
 rw [Bool.eq_iff_iff, eqN_iff, irB_iff]
 constructor
 · intro h
   exact ⟨d, h2.1 (fun k hk => by rw [cut_in f hk]; exact h k hk)⟩
 · rintro ⟨d2, hi⟩
   have : d2 = d := by
    have e1 := hi.2.1.1
    have e2 := (mon_cut hm).1
    rw [e1] at e2
    exact Int.ofNat.inj e2
   subst this
   intro k hk
   rw [← cut_in f hk]
   exact h2.2 hi k hk
/-- the pointer to a slice's first element -/
def PV (y z : Value) : Prop := ∃ g n cap, y = .slice (some ⟨g, 0, none⟩) n cap ∧ z = .pointer (some ⟨g, 0, none⟩)
def FV (p : Nat) (n0 : Nat) (x : Nat × Nat) (l : List (Nat × Nat)) (y : Value) (w : World) : Prop := SlL w n0 161 65 y (facRows p (x :: l))
theorem FV.below {p n0 : Nat} {x : Nat × Nat} {l : List (Nat × Nat)} {y : Value} {w w' : World} (h : FV p n0 x l y w) (hb : Below w.heap.size w w') : FV p n0 x l y w' := SlL.below h hb h.lt
set_option maxRecDepth 100000 in
set_option maxHeartbeats 3200000 in
theorem isIrreducible_any (p : Nat) (f : Nat → Nat) (w : World) (hpr : p = 2 ∨ p = 3 ∨ p = 5 ∨ p = 7) (lf : ∀ k, k < 64 → f k < p) :
 Calls Try.prog 138 #[.int .i64 (p : Int), .agg (zb 64 f)] w fun e w' => e = .returned (.bool (irV p f)) ∧ Below w.heap.size w w' := by
 have hbf : byte (cut f) := fun k => by have := cut_lt2 (p := p) (by omega) lf k; omega
 have HMU := Lib.hid (fun W => isMonicUpTo_any 12 (cut f) hbf W (by decide) (by decide))
 rw [monUp_cut, bcells_cut] at HMU
 go_enter Try.func138, Try.ntmps138
 go_upto_region 1 with (fail)
 obtain ⟨W1, hwo⟩ : ∃ v : World, v = (w.alloc (.cells (zb 64 (f)) 28)) := ⟨_, rfl⟩
 have B0 : Blk W1 (w.heap.size) 64 28 (f) := by subst hwo; have := (Blk.new w 64 28 (f)); simpa using this
 have hb : Below w.heap.size w W1 := by subst hwo; exact ((Below.refl _ _).alloc (Nat.le_refl _) _)
 rw [← hwo]
 clear hwo
 cases hmu : monUp 12 f with
 | false =>
  have HV := Lib.hid (show irV p f = false by unfold irV; rw [hmu]; rfl)
  have lt_B0 : (w.heap.size) < W1.heap.size := B0.lt
  refine wp_region_stepsG Try.mixed (by kernel_rfl) (by kernel_rfl) (fun v => by (simp only [frL, Act.put, pA, pB, pC, Nat.reduceAdd, Nat.zero_add]; exact rfl))
   (fun L v wx => Below w.heap.size w wx ∧ W1.heap.size ≤ wx.heap.size ∧ Blk wx (w.heap.size) 64 28 (f) ∧ (L 0 = true → v 0 = (.agg (zb 64 f))) ∧ (L 1 = true → v 1 = (.bool false)) ∧ (L 2 = true → v 2 = (.bool false)) ∧ (L 3 = true → v 3 = undef) ∧ (L 4 = true → v 4 = undef) ∧ (L 5 = true → v 5 = undef) ∧ (L 6 = true → v 6 = undef) ∧ (L 7 = true → v 7 = undef) ∧ (L 8 = true → v 8 = undef) ∧ (L 9 = true → v 9 = undef) ∧ (L 10 = true → v 10 = undef) ∧ (L 11 = true → v 11 = (.bool false)) ∧ (L 12 = true → v 12 = (.bool false))) ?_ ?_ ?_
  · intro v hv0
    exact ⟨hb.drew, Nat.le_refl _, B0.drew, (fun h => by cases h), (fun h => by cases h), (fun h => by cases h), (fun h => by cases h), (fun h => by cases h), (fun h => by cases h), (fun h => by cases h), (fun h => by cases h), (fun h => by cases h), (fun h => by cases h), (fun h => by cases h), (fun h => by cases h), (fun h => by cases h)⟩
  · refine (.cons ?_ (.cons ?_ (.cons ?_ (.cons ?_ (.cons ?_ (.cons ?_ (.cons ?_ (.cons ?_ (.cons ?_ (.cons ?_ (.cons ?_ (.cons ?_ (.cons ?_ (.nil _))))))))))))))
    · intro L v wx hd hn ⟨hB, hz, s0, h0, h1, h2, h3, h4, h5, h6, h7, h8, h9, h10, h11, h12⟩ K hK
      rw [if_pos (by simp [Region.wanted])]
      refine zlc s0 Try.underlying28 Try.size28 ?_
      exact hK _ _ _ rfl ⟨hB, hz, s0, (fun _ => rfl), h1, h2, h3, h4, h5, h6, h7, h8, h9, h10, h11, h12⟩
    · intro L v wx hd hn ⟨hB, hz, s0, h0, h1, h2, h3, h4, h5, h6, h7, h8, h9, h10, h11, h12⟩ K hK
      have e0 := h0 (zdq hd 0 rfl)
      rw [if_pos (by simp [Region.wanted])]
      go_wp2_with (go_at_call 137; refine (HMU.out _).mono ?_; rintro e wy ⟨rfl, hy⟩)
      exact hK _ (.bool false) _ (by simp only [Act.put, pA, pB, pC, e0]) ⟨hB.trans (hy.mono hB.size), (Nat.le_trans hz hy.size), s0.zw hy, h0, (fun _ => rfl), h2, h3, h4, h5, h6, h7, h8, h9, h10, h11, h12⟩
    · intro L v wx hd hn ⟨hB, hz, s0, h0, h1, h2, h3, h4, h5, h6, h7, h8, h9, h10, h11, h12⟩ K hK
      have e1 := h1 (zdq hd 1 rfl)
      rw [if_pos (by simp [Region.wanted])]
      go_wp2_with fail
      exact hK _ (.bool false) _ (by simp only [Act.put, pA, pB, pC, e1]) ⟨hB, hz, s0, h0, h1, (fun _ => rfl), h3, h4, h5, h6, h7, h8, h9, h10, h11, h12⟩
    · intro L v wx hd hn ⟨hB, hz, s0, h0, h1, h2, h3, h4, h5, h6, h7, h8, h9, h10, h11, h12⟩ K hK
      have e2 := h2 (zdq hd 2 rfl)
      rw [if_neg (by simp [Region.wanted, yielded, e2])]
      exact hK _ undef _ rfl ⟨hB, hz, s0, h0, h1, h2, (fun _ => rfl), h4, h5, h6, h7, h8, h9, h10, h11, h12⟩
    · intro L v wx hd hn ⟨hB, hz, s0, h0, h1, h2, h3, h4, h5, h6, h7, h8, h9, h10, h11, h12⟩ K hK
      have e2 := h2 (zdq hd 2 rfl)
      rw [if_neg (by simp [Region.wanted, yielded, e2])]
      exact hK _ undef _ rfl ⟨hB, hz, s0, h0, h1, h2, h3, (fun _ => rfl), h5, h6, h7, h8, h9, h10, h11, h12⟩
    · intro L v wx hd hn ⟨hB, hz, s0, h0, h1, h2, h3, h4, h5, h6, h7, h8, h9, h10, h11, h12⟩ K hK
      have e3 := h3 (zdq hd 3 rfl)
      have e4 := h4 (zdq hd 4 rfl)
      have e2 := h2 (zdq hd 2 rfl)
      rw [if_neg (by simp [Region.wanted, yielded, e2])]
      exact hK _ undef _ rfl ⟨hB, hz, s0, h0, h1, h2, h3, h4, (fun _ => rfl), h6, h7, h8, h9, h10, h11, h12⟩
    · intro L v wx hd hn ⟨hB, hz, s0, h0, h1, h2, h3, h4, h5, h6, h7, h8, h9, h10, h11, h12⟩ K hK
      have e5 := h5 (zdq hd 5 rfl)
      have e2 := h2 (zdq hd 2 rfl)
      rw [if_neg (by simp [Region.wanted, yielded, e2])]
      exact hK _ undef _ rfl ⟨hB, hz, s0, h0, h1, h2, h3, h4, h5, (fun _ => rfl), h7, h8, h9, h10, h11, h12⟩
    · intro L v wx hd hn ⟨hB, hz, s0, h0, h1, h2, h3, h4, h5, h6, h7, h8, h9, h10, h11, h12⟩ K hK
      have e6 := h6 (zdq hd 6 rfl)
      have e2 := h2 (zdq hd 2 rfl)
      rw [if_neg (by simp [Region.wanted, yielded, e2])]
      exact hK _ undef _ rfl ⟨hB, hz, s0, h0, h1, h2, h3, h4, h5, h6, (fun _ => rfl), h8, h9, h10, h11, h12⟩
    · intro L v wx hd hn ⟨hB, hz, s0, h0, h1, h2, h3, h4, h5, h6, h7, h8, h9, h10, h11, h12⟩ K hK
      have e7 := h7 (zdq hd 7 rfl)
      have e2 := h2 (zdq hd 2 rfl)
      rw [if_neg (by simp [Region.wanted, yielded, e2])]
      exact hK _ undef _ rfl ⟨hB, hz, s0, h0, h1, h2, h3, h4, h5, h6, h7, (fun _ => rfl), h9, h10, h11, h12⟩
    · intro L v wx hd hn ⟨hB, hz, s0, h0, h1, h2, h3, h4, h5, h6, h7, h8, h9, h10, h11, h12⟩ K hK
      have e2 := h2 (zdq hd 2 rfl)
      rw [if_neg (by simp [Region.wanted, yielded, e2])]
      exact hK _ undef _ rfl ⟨hB, hz, s0, h0, h1, h2, h3, h4, h5, h6, h7, h8, (fun _ => rfl), h10, h11, h12⟩
    · intro L v wx hd hn ⟨hB, hz, s0, h0, h1, h2, h3, h4, h5, h6, h7, h8, h9, h10, h11, h12⟩ K hK
      have e8 := h8 (zdq hd 8 rfl)
      have e9 := h9 (zdq hd 9 rfl)
      have e2 := h2 (zdq hd 2 rfl)
      rw [if_neg (by simp [Region.wanted, yielded, e2])]
      exact hK _ undef _ rfl ⟨hB, hz, s0, h0, h1, h2, h3, h4, h5, h6, h7, h8, h9, (fun _ => rfl), h11, h12⟩
    · intro L v wx hd hn ⟨hB, hz, s0, h0, h1, h2, h3, h4, h5, h6, h7, h8, h9, h10, h11, h12⟩ K hK
      have e2 := h2 (zdq hd 2 rfl)
      have e10 := h10 (zdq hd 10 rfl)
      rw [if_pos (by simp [Region.wanted])]
      go_wp2_with fail
      exact hK _ (.bool false) _ (by simp only [Act.put, pA, pB, pC, e2, e10]) ⟨hB, hz, s0, h0, h1, h2, h3, h4, h5, h6, h7, h8, h9, h10, (fun _ => rfl), h12⟩
    · intro L v wx hd hn ⟨hB, hz, s0, h0, h1, h2, h3, h4, h5, h6, h7, h8, h9, h10, h11, h12⟩ K hK
      have e11 := h11 (zdq hd 11 rfl)
      rw [if_pos (by simp [Region.wanted])]
      go_wp2_with fail
      exact hK _ (.bool false) _ (by simp only [Act.put, pA, pB, pC, e11]) ⟨hB, hz, s0, h0, h1, h2, h3, h4, h5, h6, h7, h8, h9, h10, h11, (fun _ => rfl)⟩
  · intro L v wx hL ⟨hB, hz, s0, h0, h1, h2, h3, h4, h5, h6, h7, h8, h9, h10, h11, h12⟩
    have e12 := h12 (hL 12 (by decide))
    simp only [Exit.then, e12]
    go_wp2_with fail
    go_ret
    exact ⟨by rw [HV.out]; rfl, hB⟩
 | true =>
  have HV := Lib.hid (show irV p f = irB p f by unfold irV; rw [hmu]; rfl)
  obtain ⟨d, hmon, hd1, hd2⟩ := mon_up hmu
  obtain ⟨x, l, hrun, hxe⟩ := run_cut hpr lf d hd1 hmon
  have HFA := Lib.hid (show ∀ W, Calls Try.prog 158 #[.int .i64 (p : Int), .agg (zb 64 f)] W fun e w' => ∃ v, e = .returned v ∧ SlL w' W.heap.size 161 65 v (facRows p (x :: l)) ∧ Below W.heap.size W w' by
   intro W
   have := factorsOf_any p (cut f) W hpr (fun k _ => cut_lt2 (by omega) lf k) (by rw [(mon_cut hmon).1]; omega) (by rw [(mon_cut hmon).1]; omega)
   unfold FaF at this
   rw [hrun, bcells_cut] at this
   exact this)
  have hgd := Try.noGuard28
  have heq := fun W => zeb (P := Try.prog) W 9998 28 5 64 (ofN p x.1) f Try.underlying28 Try.underlying5 Try.size5
  rw [hxe] at heq
  clear hrun hxe hmon hbf
  have lt_B0 : (w.heap.size) < W1.heap.size := B0.lt
  refine wp_region_stepsG Try.mixed (by kernel_rfl) (by kernel_rfl) (fun v => by (simp only [frL, Act.put, pA, pB, pC, Nat.reduceAdd, Nat.zero_add]; exact rfl))
   (fun L v wx => Below w.heap.size w wx ∧ W1.heap.size ≤ wx.heap.size ∧ Blk wx (w.heap.size) 64 28 (f) ∧ (L 0 = true → v 0 = (.agg (zb 64 f))) ∧ (L 1 = true → v 1 = (.bool true)) ∧ (L 2 = true → v 2 = (.bool true)) ∧ (L 3 = true → v 3 = (.int .i64 (p : Int))) ∧ (L 4 = true → v 4 = (.agg (zb 64 f))) ∧ (L 5 = true → FV p w.heap.size x l (v 5) wx) ∧ (L 6 = true → L 5 = true ∧ PV (v 5) (v 6)) ∧ (L 7 = true → L 6 = true ∧ L 5 = true ∧ PV (v 5) (v 7)) ∧ (L 8 = true → v 8 = (.agg (zb 64 (ofN p x.1)))) ∧ (L 9 = true → v 9 = (.agg (zb 64 f))) ∧ (L 10 = true → v 10 = (.bool (irB p f))) ∧ (L 11 = true → v 11 = (.bool (irB p f))) ∧ (L 12 = true → v 12 = (.bool (irB p f)))) ?_ ?_ ?_
  · intro v hv0
    exact ⟨hb.drew, Nat.le_refl _, B0.drew, (fun h => by cases h), (fun h => by cases h), (fun h => by cases h), (fun h => by cases h), (fun h => by cases h), (fun h => by cases h), (fun h => by cases h), (fun h => by cases h), (fun h => by cases h), (fun h => by cases h), (fun h => by cases h), (fun h => by cases h), (fun h => by cases h)⟩
  · refine (.cons ?_ (.cons ?_ (.cons ?_ (.cons ?_ (.cons ?_ (.cons ?_ (.cons ?_ (.cons ?_ (.cons ?_ (.cons ?_ (.cons ?_ (.cons ?_ (.cons ?_ (.nil _))))))))))))))
    · intro L v wx hd hn ⟨hB, hz, s0, h0, h1, h2, h3, h4, h5, h6, h7, h8, h9, h10, h11, h12⟩ K hK
      rw [if_pos (by simp [Region.wanted])]
      refine zlc s0 Try.underlying28 Try.size28 ?_
      exact hK _ _ _ rfl ⟨hB, hz, s0, (fun _ => rfl), h1, h2, h3, h4, h5, h6, h7, h8, h9, h10, h11, h12⟩
    · intro L v wx hd hn ⟨hB, hz, s0, h0, h1, h2, h3, h4, h5, h6, h7, h8, h9, h10, h11, h12⟩ K hK
      have e0 := h0 (zdq hd 0 rfl)
      rw [if_pos (by simp [Region.wanted])]
      go_wp2_with (go_at_call 137; refine (HMU.out _).mono ?_; rintro e wy ⟨rfl, hy⟩)
      exact hK _ (.bool true) _ (by simp only [Act.put, pA, pB, pC, e0]) ⟨hB.trans (hy.mono hB.size), (Nat.le_trans hz hy.size), s0.zw hy, h0, (fun _ => rfl), h2, h3, h4, (fun h => (h5 h).below hy), h6, h7, h8, h9, h10, h11, h12⟩
    · intro L v wx hd hn ⟨hB, hz, s0, h0, h1, h2, h3, h4, h5, h6, h7, h8, h9, h10, h11, h12⟩ K hK
      have e1 := h1 (zdq hd 1 rfl)
      rw [if_pos (by simp [Region.wanted])]
      go_wp2_with fail
      exact hK _ (.bool true) _ (by simp only [Act.put, pA, pB, pC, e1]) ⟨hB, hz, s0, h0, h1, (fun _ => rfl), h3, h4, h5, h6, h7, h8, h9, h10, h11, h12⟩
    · intro L v wx hd hn ⟨hB, hz, s0, h0, h1, h2, h3, h4, h5, h6, h7, h8, h9, h10, h11, h12⟩ K hK
      have e2 := h2 (zdq hd 2 rfl)
      rw [if_pos (by simp [Region.wanted, yielded, e2])]
      go_wp2_with fail
      exact hK _ (.int .i64 (p : Int)) _ (by simp only [Act.put, pA, pB, pC, e2]) ⟨hB, hz, s0, h0, h1, h2, (fun _ => rfl), h4, h5, h6, h7, h8, h9, h10, h11, h12⟩
    · intro L v wx hd hn ⟨hB, hz, s0, h0, h1, h2, h3, h4, h5, h6, h7, h8, h9, h10, h11, h12⟩ K hK
      have e2 := h2 (zdq hd 2 rfl)
      rw [if_pos (by simp [Region.wanted, yielded, e2])]
      refine zlc s0 Try.underlying28 Try.size28 ?_
      exact hK _ _ _ rfl ⟨hB, hz, s0, h0, h1, h2, h3, (fun _ => rfl), h5, h6, h7, h8, h9, h10, h11, h12⟩
    · intro L v wx hd hn ⟨hB, hz, s0, h0, h1, h2, h3, h4, h5, h6, h7, h8, h9, h10, h11, h12⟩ K hK
      have e3 := h3 (zdq hd 3 rfl)
      have e4 := h4 (zdq hd 4 rfl)
      have e2 := h2 (zdq hd 2 rfl)
      rw [if_pos (by simp [Region.wanted, yielded, e2])]
      go_wp2_with (go_at_call 158; refine (HFA.out _).mono ?_; rintro e wy ⟨y5, rfl, hS5, hy⟩)
      have hFV : FV p w.heap.size x l y5 wy := hS5.base hB.size
      exact hK _ y5 _ (by simp only [Act.put, pA, pB, pC, e3, e4, e2]) ⟨hB.trans (hy.mono hB.size), (Nat.le_trans hz hy.size), s0.zw hy, h0, h1, h2, h3, h4, (fun _ => hFV), (fun h => absurd rfl (hn 6 _ rfl h ⟨5, .data⟩ (by simp) rfl)), (fun h => absurd rfl (hn 6 _ rfl (h7 h).1 ⟨5, .data⟩ (by simp) rfl)), h8, h9, h10, h11, h12⟩
    · intro L v wx hd hn ⟨hB, hz, s0, h0, h1, h2, h3, h4, h5, h6, h7, h8, h9, h10, h11, h12⟩ K hK
      have e2 := h2 (zdq hd 2 rfl)
      rw [if_pos (by simp [Region.wanted, yielded, e2])]
      have L5 := (zdq hd 5 rfl)
      obtain ⟨n5, c5, e5⟩ : ∃ g cap, v 5 = .slice (some ⟨g, 0, none⟩) (l.length + 1) cap := by
       have hf := h5 L5
       unfold FV at hf
       rcases hf.shape with ⟨_, h2⟩ | ⟨g, cap, h2⟩
       · simp [facRows] at h2
       · exact ⟨g, cap, by rw [h2, facRows_len]; rfl⟩
      have hPV : PV (v 5) (.pointer (some ⟨n5, 0, none⟩)) := ⟨n5, _, c5, e5, rfl⟩
      go_wp2_with fail
      exact hK _ (.pointer (some ⟨n5, 0, none⟩)) _ (by simp only [Act.put, pA, pB, pC, e2, e5]) ⟨hB, hz, s0, h0, h1, h2, h3, h4, h5, (fun _ => ⟨L5, hPV⟩), (fun h => absurd rfl (hn 7 _ rfl h ⟨6, .data⟩ (by simp) rfl)), h8, h9, h10, h11, h12⟩
    · intro L v wx hd hn ⟨hB, hz, s0, h0, h1, h2, h3, h4, h5, h6, h7, h8, h9, h10, h11, h12⟩ K hK
      have e2 := h2 (zdq hd 2 rfl)
      rw [if_pos (by simp [Region.wanted, yielded, e2])]
      have L6 := (zdq hd 6 rfl)
      obtain ⟨L5, n5, m5, c5, e5, e6⟩ := h6 L6
      have hPV : PV (v 5) (.pointer (some ⟨n5, 0, none⟩)) := ⟨n5, m5, c5, e5, rfl⟩
      go_wp2_with fail
      exact hK _ (.pointer (some ⟨n5, 0, none⟩)) _ (by simp only [Act.put, pA, pB, pC, e2, e5, e6]) ⟨hB, hz, s0, h0, h1, h2, h3, h4, h5, h6, (fun _ => ⟨L6, L5, hPV⟩), h8, h9, h10, h11, h12⟩
    · intro L v wx hd hn ⟨hB, hz, s0, h0, h1, h2, h3, h4, h5, h6, h7, h8, h9, h10, h11, h12⟩ K hK
      have e2 := h2 (zdq hd 2 rfl)
      rw [if_pos (by simp [Region.wanted, yielded, e2])]
      obtain ⟨L6, L5, n5, m5, c5, e5, e7⟩ := h7 (zdq hd 7 rfl)
      have hf := h5 L5
      unfold FV at hf
      rw [e5] at hf
      have hr := (hf.range (i := 0) (c := facC (ofN p x.1) x.2) rfl)
      rw [Nat.zero_mul] at hr
      have hr2 : wx.rangeAt n5 0 (bl 64 (ofN p x.1)) := fun j u hu => hr j u (by unfold facC; rw [List.getElem?_append_left (List.getElem?_eq_some_iff.1 hu).1]; exact hu)
      refine wp_load_mid 28 _ rfl _ 0 e7 _ _ hr2 Try.underlying28 rfl (by rw [zl]; exact Try.size28) ?_
      exact hK _ _ _ rfl ⟨hB, hz, s0, h0, h1, h2, h3, h4, h5, h6, h7, (fun _ => rfl), h9, h10, h11, h12⟩
    · intro L v wx hd hn ⟨hB, hz, s0, h0, h1, h2, h3, h4, h5, h6, h7, h8, h9, h10, h11, h12⟩ K hK
      have e2 := h2 (zdq hd 2 rfl)
      rw [if_pos (by simp [Region.wanted, yielded, e2])]
      refine zlc s0 Try.underlying28 Try.size28 ?_
      exact hK _ _ _ rfl ⟨hB, hz, s0, h0, h1, h2, h3, h4, h5, h6, h7, h8, (fun _ => rfl), h10, h11, h12⟩
    · intro L v wx hd hn ⟨hB, hz, s0, h0, h1, h2, h3, h4, h5, h6, h7, h8, h9, h10, h11, h12⟩ K hK
      have e8 := h8 (zdq hd 8 rfl)
      have e9 := h9 (zdq hd 9 rfl)
      have e2 := h2 (zdq hd 2 rfl)
      rw [if_pos (by simp [Region.wanted, yielded, e2])]
      go_wp2_with fail
      exact hK _ (.bool (irB p f)) _ (by simp only [Act.put, pA, pB, pC, e8, e9, e2]) ⟨hB, hz, s0, h0, h1, h2, h3, h4, h5, h6, h7, h8, h9, (fun _ => rfl), h11, h12⟩
    · intro L v wx hd hn ⟨hB, hz, s0, h0, h1, h2, h3, h4, h5, h6, h7, h8, h9, h10, h11, h12⟩ K hK
      have e2 := h2 (zdq hd 2 rfl)
      have e10 := h10 (zdq hd 10 rfl)
      rw [if_pos (by simp [Region.wanted])]
      go_wp2_with fail
      exact hK _ (.bool (irB p f)) _ (by simp only [Act.put, pA, pB, pC, e2, e10]) ⟨hB, hz, s0, h0, h1, h2, h3, h4, h5, h6, h7, h8, h9, h10, (fun _ => rfl), h12⟩
    · intro L v wx hd hn ⟨hB, hz, s0, h0, h1, h2, h3, h4, h5, h6, h7, h8, h9, h10, h11, h12⟩ K hK
      have e11 := h11 (zdq hd 11 rfl)
      rw [if_pos (by simp [Region.wanted])]
      go_wp2_with fail
      exact hK _ (.bool (irB p f)) _ (by simp only [Act.put, pA, pB, pC, e11]) ⟨hB, hz, s0, h0, h1, h2, h3, h4, h5, h6, h7, h8, h9, h10, h11, (fun _ => rfl)⟩
  · intro L v wx hL ⟨hB, hz, s0, h0, h1, h2, h3, h4, h5, h6, h7, h8, h9, h10, h11, h12⟩
    have e12 := h12 (hL 12 (by decide))
    simp only [Exit.then, e12]
    go_wp2_with fail
    go_ret
    exact ⟨by rw [HV.out]; rfl, hB⟩
end Go.Proofs.Ytelgefgphhebnaa
namespace Go.Proofs.Ytelgefgphhebnaa
open Go Go.RowKit
set_option linter.unusedVariables false
set_option linter.unusedSimpArgs false
theorem addK_subP {p : Nat} {f g : Nat → Nat} (hp : 0 < p) (hg : ∀ i, i < 64 → g i < p) : ∀ i, i < 64 → addK p f g (-1) i = subP p f g i := fun i hi => addK_neg hp hg hi
attribute [local irreducible] deg invN dS qS stp stpr quoP resP oneP eqS ofN dvo pmP eqf foI run bzD bzU bzW subP addK lowf monL TP monUp monB
set_option maxRecDepth 100000 in
theorem l01T_any (w : World) : Calls Try.prog 156 #[] w fun e w' => e = .returned (.agg (zb 64 TP)) ∧ Below w.heap.size w w' := by
 go_enter Try.func156, Try.ntmps156
 go_upto_region 1 with (fail)
 rw [← z64]
 have b0 := Blk.new w 64 28 (fun _ => 0)
 go_wp2_with (first | (refine zbo rfl 28 _ rfl (zb 64 TP) (by rw [Array.toList_map]; exact built_T) ?_) | (refine wpList_store_blk rfl 28 _ _ rfl _ 64 TP rfl rfl 28 _ b0 Try.size28 ?_))
 refine bodyPost_ret (zrb rfl _ _ _ 64 28 5 _ rfl (b0.row _) Try.underlying28 Try.size28) rfl ⟨rfl, zr (zal _ _) (Nat.le_refl _) _⟩
/-- the Frobenius of T, again and again -/
def Fc (p : Nat) (f : Nat → Nat) : Nat → (Nat → Nat)
 | 0 => resP p TP f
 | j + 1 => pmP p (Fc p f j) p f
def Cc (p : Nat) (f : Nat → Nat) (j : Nat) : Nat → Nat := bzD p f (subP p (Fc p f j) TP)
theorem Fc_ok {p : Nat} {f : Nat → Nat} (hp : p = 2 ∨ p = 3 ∨ p = 5 ∨ p = 7) (lf : ∀ k, k < 64 → f k < p) (h0 : 0 ≤ deg f) : ∀ j, (∀ k, k < 64 → Fc p f j k < p) ∧ rm p (lz f) (lz (Fc p f j)) (pwz TS (p ^ j))
 | 0 => by
  refine ⟨fun k hk => resP_lt (by omega) (fun k _ => TP_lt (by omega) k) k hk, ?_⟩
  have := res_rm (a := TP) hp (fun k _ => TP_lt (by omega) k) lf h0
  rw [lz_TP] at this
  rw [Nat.pow_zero, show pwz TS 1 = TS from mz_one TS]
  exact rm_symm this
 | j + 1 => by
  obtain ⟨i1, i2⟩ := Fc_ok hp lf h0 j
  exact ⟨(pmP_spec hp i1 lf h0 (Nat.lt_of_le_of_lt (by omega : p ≤ 7) (by decide))).1, frob_next hp lf h0 i1 i2⟩
theorem irr_of {p d : Nat} {f : Nat → Nat} (hp : p = 2 ∨ p = 3 ∨ p = 5 ∨ p = 7) (lf : ∀ k, f k < p) (hm : mon f d) (hd : 1 ≤ d) : (∃ e, irr p f e) ↔ ∀ j, 1 ≤ j → 2 * j ≤ d → deg (Cc p f j) = 0 := by
 have h0 : 0 ≤ deg f := by rw [hm.1]; omega
 have := irr_test hp lf hd hm (Cc p f) (fun j _ _ => stageC hp (fun k _ => lf k) h0 (Fc_ok hp (fun k _ => lf k) h0 j).1 (Fc_ok hp (fun k _ => lf k) h0 j).2)
 rw [← this]
 constructor
 · rintro ⟨e, he⟩
   have e1 := he.2.1.1
   have e2 := hm.1
   rw [e1] at e2
   have : e = d := by omega
   subst this; exact he
 · exact fun h => ⟨d, h⟩
noncomputable def irC (p : Nat) (f : Nat → Nat) : Bool := @decide (∃ d, irr p f d) (Classical.propDecidable _)
theorem irC_true {p : Nat} {f : Nat → Nat} (h : ∃ d, irr p f d) : irC p f = true := by unfold irC; exact (@decide_eq_true_iff _ (Classical.propDecidable _)).2 h
theorem irC_false {p : Nat} {f : Nat → Nat} (h : ¬ ∃ d, irr p f d) : irC p f = false := by unfold irC; exact (@decide_eq_false_iff_not _ (Classical.propDecidable _)).2 h
set_option maxRecDepth 100000 in
set_option maxHeartbeats 3200000 in
theorem l01Irr_core (p : Nat) (f : Nat → Nat) (d : Nat) (w : World) (hpr : p = 2 ∨ p = 3 ∨ p = 5 ∨ p = 7) (laf : ∀ k, f k < p) (hmon : mon f d) (hd12 : d ≤ 12) :
 Calls Try.prog 135 #[.int .i64 (p : Int), .agg (zb 64 f)] w fun e w' => e = .returned (.bool (irC p f)) ∧ Below w.heap.size w w' := by
 have p2 : 2 ≤ p := by omega
 have p7 : p ≤ 7 := by omega
 have p0 : 0 < p := by omega
 have lf : ∀ k, k < 64 → f k < p := fun k _ => laf k
 have hdf := hmon.1
 have h0 : 0 ≤ deg f := by omega
 have HLF := Lib.hid lf
 have HD := Lib.hid hdf
 have HFK := Lib.hid (fun j => (Fc_ok hpr lf h0 j).1)
 have HMT := Lib.hid (fun W => l01Mod_any p TP f W hpr (fun k _ => TP_lt p2 k) lf h0)
 have HPM := Lib.hid (show ∀ j W, Calls Try.prog 107 #[.int .i64 (p : Int), .agg (zb 64 (Fc p f j)), .int .i64 (p : Int), .agg (zb 64 f)] W fun e w' => e = .returned (.agg (zb 64 (Fc p f (j + 1)))) ∧ Below W.heap.size W w' from fun j W => l01PowMod_any p (Fc p f j) p f W hpr (HFK.out j) lf h0 (by omega))
 have HSB := Lib.hid (show ∀ j W, Calls Try.prog 80 #[.int .i64 (p : Int), .agg (zb 64 (Fc p f j)), .agg (zb 64 TP), .int .i64 (-1)] W fun e w' => e = .returned (.agg (zb 64 (subP p (Fc p f j) TP))) ∧ Below W.heap.size W w' from fun j W => (by have := l01Add_any p (Fc p f j) TP (-1) W p2 p7 (by omega) (by omega) (HFK.out j) (fun k _ => TP_lt p2 k); rwa [zbc (g := subP p (Fc p f j) TP) (addK_subP p0 (fun k _ => TP_lt p2 k))] at this))
 have HGC := Lib.hid (show ∀ j W, Calls Try.prog 157 #[.int .i64 (p : Int), .agg (zb 64 f), .agg (zb 64 (subP p (Fc p f j) TP))] W fun e w' => e = .returned (.agg (zb 64 (Cc p f j))) ∧ Below W.heap.size W w' from fun j W => l01Gcd_any p f (subP p (Fc p f j) TP) W hpr lf (fun k _ => subP_lt p0 k) (fun h => absurd h.1 (by omega)))
 have HIR := Lib.hid (fun hd1 => irr_of hpr laf hmon hd1)
 have HNO := Lib.hid (show d = 0 → ¬ ∃ e, irr p f e from fun h0 ⟨e, he⟩ => by have e1 := he.2.1.1; have e2 := he.1; rw [hdf] at e1; omega)
 clear lf laf hmon hdf
 go_enter Try.func135, Try.ntmps135
 go_upto_region 1 with (fail)
 obtain ⟨W1, hwo⟩ : ∃ v : World, v = (w.alloc (.cells (zb 64 (f)) 28)) := ⟨_, rfl⟩
 have B0 : Blk W1 (w.heap.size) 64 28 (f) := by subst hwo; have := (Blk.new w 64 28 (f)); simpa using this
 have hb : Below w.heap.size w W1 := by subst hwo; exact ((Below.refl _ _).alloc (Nat.le_refl _) _)
 rw [← hwo]
 clear hwo
 have lt_B0 : (w.heap.size) < W1.heap.size := B0.lt
 have hbase : w.heap.size ≤ W1.heap.size := hb.size
 refine zq Try.mixed (by kernel_rfl) (by kernel_rfl) (fun v => by (simp only [frL, Act.put, pA, pB, pC, Nat.reduceAdd, Nat.zero_add]; exact rfl))
  (fun L v W2 => Below w.heap.size w W2 ∧ W1.heap.size ≤ W2.heap.size ∧ Blk W2 (w.heap.size) 64 28 (f) ∧ (L 0 = true → v 0 = (.agg (zb 64 (f)))) ∧ (L 1 = true → v 1 = (.int .i64 (deg f))) ∧ (L 2 = true → v 2 = (.int .i64 (p : Int))) ∧ (L 3 = true → v 3 = (.agg (zb 64 (TP)))) ∧ (L 4 = true → v 4 = (.agg (zb 64 (f)))) ∧ (L 5 = true → v 5 = (.agg (zb 64 (resP p TP f)))) ∧ (L 6 = true → AF (v 6) W2 W1.heap.size 64 28) ∧ (L 7 = true → v 7 = (.int .i64 (deg f))) ∧ (L 8 = true → PF (v 6) W2 W1.heap.size 64 28 (resP p TP f))) ?_ ?_ ?_
 · intro v hv0
   exact ⟨hb.drew, Nat.le_refl _, B0.drew, (fun h => by cases h), (fun h => by cases h), (fun h => by cases h), (fun h => by cases h), (fun h => by cases h), (fun h => by cases h), (fun h => by cases h), (fun h => by cases h), (fun h => by cases h)⟩
 · refine (.cons rfl ?_ (.cons rfl ?_ (.cons rfl ?_ (.cons rfl ?_ (.cons rfl ?_ (.cons rfl ?_ (.cons rfl ?_ (.cons rfl ?_ (.cons rfl ?_ (.nil _))))))))))
   all_goals intro L v W2 hd hn ⟨hB, hz, s0, h0, h1, h2, h3, h4, h5, h6, h7, h8⟩ K hK
   · refine zlc s0 Try.underlying28 Try.size28 ?_
     exact hK _ _ _ rfl ⟨hB, hz, s0, (fun _ => rfl), h1, h2, h3, h4, h5, h6, h7, h8⟩
   · have e0 := h0 (zdq hd 0 rfl)
     go_wp2_with (go_at_call 106; refine (l01Deg_any f _).mono ?_; rintro e wy ⟨rfl, hy⟩)
     exact hK _ (.int .i64 (deg f)) _ (by simp only [Act.put, pA, pB, pC, e0]) ⟨hB.trans (hy.mono hB.size), (Nat.le_trans hz hy.size), s0.zw hy, h0, (fun _ => rfl), h2, h3, h4, h5, (fun h => (h6 h).below hy), h7, (fun h => (h8 h).below hy)⟩
   · go_wp2_with fail
     exact hK _ (.int .i64 (p : Int)) _ (by simp only [Act.put, pA, pB, pC ]) ⟨hB, hz, s0, h0, h1, (fun _ => rfl), h3, h4, h5, h6, h7, h8⟩
   · go_wp2_with (go_at_call 156; refine (l01T_any _).mono ?_; rintro e wy ⟨rfl, hy⟩)
     exact hK _ (.agg (zb 64 (TP))) _ (by simp only [Act.put, pA, pB, pC ]) ⟨hB.trans (hy.mono hB.size), (Nat.le_trans hz hy.size), s0.zw hy, h0, h1, h2, (fun _ => rfl), h4, h5, (fun h => (h6 h).below hy), h7, (fun h => (h8 h).below hy)⟩
   · refine zlc s0 Try.underlying28 Try.size28 ?_
     exact hK _ _ _ rfl ⟨hB, hz, s0, h0, h1, h2, h3, (fun _ => rfl), h5, h6, h7, h8⟩
   · have e2 := h2 (zdq hd 2 rfl)
     have e3 := h3 (zdq hd 3 rfl)
     have e4 := h4 (zdq hd 4 rfl)
     go_wp2_with (go_at_call 64; refine (HMT.out _).mono ?_; rintro e wy ⟨rfl, hy⟩)
     exact hK _ (.agg (zb 64 (resP p TP f))) _ (by simp only [Act.put, pA, pB, pC, e2, e3, e4]) ⟨hB.trans (hy.mono hB.size), (Nat.le_trans hz hy.size), s0.zw hy, h0, h1, h2, h3, h4, (fun _ => rfl), (fun h => (h6 h).below hy), h7, (fun h => (h8 h).below hy)⟩
   · go_wp2_with fail
     rw [← z64]
     exact hK _ (.pointer (some ⟨W2.heap.size, 0, none⟩)) _ (by simp only [Act.put, pA, pB, pC ]) ⟨hB.alloc hB.size _, (by simp; omega), (s0).alloc _, h0, h1, h2, h3, h4, h5, (fun _ => (PF.new W2 64 28 _ hz).af), h7, (fun h => absurd rfl (hn 8 _ rfl h ⟨6, .data⟩ (by simp) rfl))⟩
   · have e1 := h1 (zdq hd 1 rfl)
     go_wp2_with fail
     exact hK _ (.int .i64 (deg f)) _ (by simp only [Act.put, pA, pB, pC, e1]) ⟨hB, hz, s0, h0, h1, h2, h3, h4, h5, h6, (fun _ => rfl), h8⟩
   · have e5 := h5 (zdq hd 5 rfl)
     obtain ⟨gz, b, ea, hN, hk⟩ := (h6 (zdq hd 6 rfl)).out
     refine zsb 28 _ _ rfl b 64 (resP p TP f) ea e5 28 gz hk Try.size28 ?_
     exact hK _ undef _ rfl ⟨zr hB (Nat.le_trans hbase hN) _, (by simpa [World.setRow] using hz), (s0).rowOther (by omega), h0, h1, h2, h3, h4, h5, (fun h => (h6 h).row hk), h7, (fun _ => by rw [show updV v 8 undef 6 = v 6 from rfl, ea]; exact PF.row hk hN _)⟩
 · intro L v W2 hL ⟨hB, hz, s0, h0, h1, h2, h3, h4, h5, h6, h7, h8⟩
   have e0 := h0 (hL 0 (by decide))
   have e1 := h1 (hL 1 (by decide))
   have e2 := h2 (hL 2 (by decide))
   have e3 := h3 (hL 3 (by decide))
   have e4 := h4 (hL 4 (by decide))
   have e5 := h5 (hL 5 (by decide))
   have e7 := h7 (hL 7 (by decide))
   obtain ⟨k1_6, e6, hNk1_6, hk1_6⟩ := (h8 (hL 8 (by decide))).out
   clear hL h0 h1 h2 h3 h4 h5 h6 h7 h8
   simp only [Exit.then, e0, e1, e2, e3, e4, e5, e7, e6]
   clear e0 e1 e2 e3 e4 e5 e7 e6
   replace B0 := s0
   clear s0
   replace hb := hB
   clear hB
   have B1 := hk1_6
   clear hk1_6
   have zk1_6_0 : w.heap.size < k1_6 := by omega
   clear hbase hz lt_B0
   rw [HD.out]
   by_cases hd0 : d = 0
   · have HV := Lib.hid (irC_false (HNO.out hd0))
     have hd1 : (d : Int) < 1 := by omega
     clear hd0
     go_upto_region 2 with (fail)
     go_wp2_with fail
     go_ret
     exact ⟨by rw [HV.out]; rfl, hb⟩
   · have hd1 : 1 ≤ (d : Int) := by omega
     have HIR2 := Lib.hid (HIR.out (by omega))
     clear hd0
     go_upto_region 4 with (fail)
     go_wp2_with fail
     go_loopw [7] (fun i wr => ∃ n : Nat, i = .int .i64 ((n : Int) + 1) ∧ n ≤ d ∧ Hid (∀ j, 1 ≤ j → j ≤ n → deg (Cc p f j) = 0) ∧ Below w.heap.size w wr ∧ Blk wr (w.heap.size) 64 28 f ∧ Blk wr (k1_6) 64 28 (Fc p f n)) (fun i _ => 80 - (intOf i).toNat)
     case atStart => exact ⟨0, rfl, Nat.zero_le _, Lib.hid (fun j h1 h2 => by omega), hb, B0, B1⟩
     case round =>
      clear hb B0 B1
      obtain ⟨n, rfl, hnd, hall, hb, B0, B1⟩ := hrel
      by_cases h2 : 2 * (n + 1) ≤ d
      · have h3 : 2 * ((n : Int) + 1) ≤ (d : Int) := by omega
        go_upto_region 7 with (fail)
        have lt_B0 := B0.lt
        have lt_B1 := B1.lt
        go_upto_region 8 with (first | rw [← z64] | (refine zla (.tmp 6) B1 Try.underlying28 Try.size28 ?_) | (refine zla (.tmp 3) B0 Try.underlying28 Try.size28 ?_) | (go_at_call 107; refine (HPM.out n _).mono ?_; rintro e W3 ⟨rfl, hW3⟩; replace B0 := B0.zw hW3; replace B1 := B1.zw hW3; replace hb := (hb).trans (hW3.mono (hb).size)) | (refine zsr (.tmp 6) (.tmp 26) (Fc p f (n + 1)) B1 Try.size28 ?_; try simp only [Act.put]))
        obtain ⟨W4, hwo, hzQ⟩ : ∃ v : World, v = (W3.setRow (k1_6) (zb 64 (Fc p f (n + 1)))) ∧ Blk v (w.heap.size) 64 28 (f) ∧ Blk v (k1_6) 64 28 (Fc p f (n + 1)) ∧ Below w.heap.size w v := ⟨_, rfl, (B0.rowOther (by omega)), (B1.row (Fc p f (n + 1))), (zr hb (by omega) _)⟩
        rw [← hwo]
        clear hwo B0 B1 hb
        obtain ⟨B0, B1, hb⟩ := hzQ
        try simp only [Act.put, pA, pB, pC]
        by_cases hz : deg (Cc p f (n + 1)) = 0
        · have hq : ((deg (Cc p f (n + 1))) != 0) = false := by rw [hz]; rfl
          have HA := Lib.hid (show ∀ j, 1 ≤ j → j ≤ n + 1 → deg (Cc p f j) = 0 from fun j j1 j2 => by by_cases e : j = n + 1; (subst e; exact hz); exact hall.out j j1 (by omega))
          clear hz hall
          have lt_B0 : (w.heap.size) < W4.heap.size := B0.lt
          have lt_B1 : (k1_6) < W4.heap.size := B1.lt
          have hbase : w.heap.size ≤ W4.heap.size := hb.size
          refine zq Try.mixed (by kernel_rfl) (by kernel_rfl) (fun v => by (simp only [frL, Act.put, pA, pB, pC, Nat.reduceAdd, Nat.zero_add]; exact rfl))
           (fun L v W5 => Below w.heap.size w W5 ∧ W4.heap.size ≤ W5.heap.size ∧ Blk W5 (w.heap.size) 64 28 (f) ∧ Blk W5 (k1_6) 64 28 (Fc p f (n + 1)) ∧ (L 0 = true → v 0 = (.int .i64 (p : Int))) ∧ (L 1 = true → v 1 = (.agg (zb 64 (f)))) ∧ (L 2 = true → v 2 = (.int .i64 (p : Int))) ∧ (L 3 = true → v 3 = (.agg (zb 64 (Fc p f (n + 1))))) ∧ (L 4 = true → v 4 = (.agg (zb 64 (TP)))) ∧ (L 5 = true → v 5 = (.agg (zb 64 (subP p (Fc p f (n + 1)) TP)))) ∧ (L 6 = true → v 6 = (.agg (zb 64 (Cc p f (n + 1))))) ∧ (L 7 = true → v 7 = (.int .i64 (deg (Cc p f (n + 1))))) ∧ (L 8 = true → v 8 = (.bool false))) ?_ ?_ ?_
          · intro v hv0
            exact ⟨hb.drew, Nat.le_refl _, B0.drew, B1.drew, (fun h => by cases h), (fun h => by cases h), (fun h => by cases h), (fun h => by cases h), (fun h => by cases h), (fun h => by cases h), (fun h => by cases h), (fun h => by cases h), (fun h => by cases h)⟩
          · refine (.cons rfl ?_ (.cons rfl ?_ (.cons rfl ?_ (.cons rfl ?_ (.cons rfl ?_ (.cons rfl ?_ (.cons rfl ?_ (.cons rfl ?_ (.cons rfl ?_ (.nil _))))))))))
            all_goals intro L v W5 hd hn ⟨hB, hz, s0, s1, h0, h1, h2, h3, h4, h5, h6, h7, h8⟩ K hK
            · go_wp2_with fail
              exact hK _ (.int .i64 (p : Int)) _ (by simp only [Act.put, pA, pB, pC ]) ⟨hB, hz, s0, s1, (fun _ => rfl), h1, h2, h3, h4, h5, h6, h7, h8⟩
            · refine zlc s0 Try.underlying28 Try.size28 ?_
              exact hK _ _ _ rfl ⟨hB, hz, s0, s1, h0, (fun _ => rfl), h2, h3, h4, h5, h6, h7, h8⟩
            · go_wp2_with fail
              exact hK _ (.int .i64 (p : Int)) _ (by simp only [Act.put, pA, pB, pC ]) ⟨hB, hz, s0, s1, h0, h1, (fun _ => rfl), h3, h4, h5, h6, h7, h8⟩
            · refine zlc s1 Try.underlying28 Try.size28 ?_
              exact hK _ _ _ rfl ⟨hB, hz, s0, s1, h0, h1, h2, (fun _ => rfl), h4, h5, h6, h7, h8⟩
            · go_wp2_with (go_at_call 156; refine (l01T_any _).mono ?_; rintro e wy ⟨rfl, hy⟩)
              exact hK _ (.agg (zb 64 (TP))) _ (by simp only [Act.put, pA, pB, pC ]) ⟨hB.trans (hy.mono hB.size), (Nat.le_trans hz hy.size), s0.zw hy, s1.zw hy, h0, h1, h2, h3, (fun _ => rfl), h5, h6, h7, h8⟩
            · have e2 := h2 (zdq hd 2 rfl)
              have e3 := h3 (zdq hd 3 rfl)
              have e4 := h4 (zdq hd 4 rfl)
              go_wp2_with (go_at_call 80; refine (HSB.out (n + 1) _).mono ?_; rintro e wy ⟨rfl, hy⟩)
              exact hK _ (.agg (zb 64 (subP p (Fc p f (n + 1)) TP))) _ (by simp only [Act.put, pA, pB, pC, e2, e3, e4]) ⟨hB.trans (hy.mono hB.size), (Nat.le_trans hz hy.size), s0.zw hy, s1.zw hy, h0, h1, h2, h3, h4, (fun _ => rfl), h6, h7, h8⟩
            · have e0 := h0 (zdq hd 0 rfl)
              have e1 := h1 (zdq hd 1 rfl)
              have e5 := h5 (zdq hd 5 rfl)
              go_wp2_with (go_at_call 157; refine (HGC.out (n + 1) _).mono ?_; rintro e wy ⟨rfl, hy⟩)
              exact hK _ (.agg (zb 64 (Cc p f (n + 1)))) _ (by simp only [Act.put, pA, pB, pC, e0, e1, e5]) ⟨hB.trans (hy.mono hB.size), (Nat.le_trans hz hy.size), s0.zw hy, s1.zw hy, h0, h1, h2, h3, h4, h5, (fun _ => rfl), h7, h8⟩
            · have e6 := h6 (zdq hd 6 rfl)
              go_wp2_with (go_at_call 106; refine (l01Deg_any (Cc p f (n + 1)) _).mono ?_; rintro e wy ⟨rfl, hy⟩)
              exact hK _ (.int .i64 (deg (Cc p f (n + 1)))) _ (by simp only [Act.put, pA, pB, pC, e6]) ⟨hB.trans (hy.mono hB.size), (Nat.le_trans hz hy.size), s0.zw hy, s1.zw hy, h0, h1, h2, h3, h4, h5, h6, (fun _ => rfl), h8⟩
            · have e7 := h7 (zdq hd 7 rfl)
              go_wp2_with fail
              exact hK _ (.bool false) _ (by simp only [Act.put, pA, pB, pC, e7]) ⟨hB, hz, s0, s1, h0, h1, h2, h3, h4, h5, h6, h7, (fun _ => rfl)⟩
          · intro L v W5 hL ⟨hB, hz, s0, s1, h0, h1, h2, h3, h4, h5, h6, h7, h8⟩
            have e0 := h0 (hL 0 (by decide))
            have e1 := h1 (hL 1 (by decide))
            have e2 := h2 (hL 2 (by decide))
            have e3 := h3 (hL 3 (by decide))
            have e4 := h4 (hL 4 (by decide))
            have e5 := h5 (hL 5 (by decide))
            have e6 := h6 (hL 6 (by decide))
            have e7 := h7 (hL 7 (by decide))
            have e8 := h8 (hL 8 (by decide))
            clear hL h0 h1 h2 h3 h4 h5 h6 h7 h8
            simp only [Exit.then, e0, e1, e2, e3, e4, e5, e6, e7, e8]
            clear e0 e1 e2 e3 e4 e5 e6 e7 e8
            replace B0 := s0
            clear s0
            replace B1 := s1
            clear s1
            replace hb := hB
            clear hB
            clear hbase hz lt_B0 lt_B1
            go_wp2_with fail
            go_roundw
            case rel => exact ⟨n + 1, by go_num, by omega, HA, hb, B0, B1⟩
            case measure => simp [intOf] <;> omega
        · have hq : ((deg (Cc p f (n + 1))) != 0) = true := bne_iff_ne.2 hz
          have HV := Lib.hid (irC_false (fun h => hz (HIR2.out.1 h (n + 1) (by omega) h2)))
          clear hz hall
          have lt_B0 : (w.heap.size) < W4.heap.size := B0.lt
          have lt_B1 : (k1_6) < W4.heap.size := B1.lt
          have hbase : w.heap.size ≤ W4.heap.size := hb.size
          refine zq Try.mixed (by kernel_rfl) (by kernel_rfl) (fun v => by (simp only [frL, Act.put, pA, pB, pC, Nat.reduceAdd, Nat.zero_add]; exact rfl))
           (fun L v W5 => Below w.heap.size w W5 ∧ W4.heap.size ≤ W5.heap.size ∧ Blk W5 (w.heap.size) 64 28 (f) ∧ Blk W5 (k1_6) 64 28 (Fc p f (n + 1)) ∧ (L 0 = true → v 0 = (.int .i64 (p : Int))) ∧ (L 1 = true → v 1 = (.agg (zb 64 (f)))) ∧ (L 2 = true → v 2 = (.int .i64 (p : Int))) ∧ (L 3 = true → v 3 = (.agg (zb 64 (Fc p f (n + 1))))) ∧ (L 4 = true → v 4 = (.agg (zb 64 (TP)))) ∧ (L 5 = true → v 5 = (.agg (zb 64 (subP p (Fc p f (n + 1)) TP)))) ∧ (L 6 = true → v 6 = (.agg (zb 64 (Cc p f (n + 1))))) ∧ (L 7 = true → v 7 = (.int .i64 (deg (Cc p f (n + 1))))) ∧ (L 8 = true → v 8 = (.bool true))) ?_ ?_ ?_
          · intro v hv0
            exact ⟨hb.drew, Nat.le_refl _, B0.drew, B1.drew, (fun h => by cases h), (fun h => by cases h), (fun h => by cases h), (fun h => by cases h), (fun h => by cases h), (fun h => by cases h), (fun h => by cases h), (fun h => by cases h), (fun h => by cases h)⟩
          · refine (.cons rfl ?_ (.cons rfl ?_ (.cons rfl ?_ (.cons rfl ?_ (.cons rfl ?_ (.cons rfl ?_ (.cons rfl ?_ (.cons rfl ?_ (.cons rfl ?_ (.nil _))))))))))
            all_goals intro L v W5 hd hn ⟨hB, hz, s0, s1, h0, h1, h2, h3, h4, h5, h6, h7, h8⟩ K hK
            · go_wp2_with fail
              exact hK _ (.int .i64 (p : Int)) _ (by simp only [Act.put, pA, pB, pC ]) ⟨hB, hz, s0, s1, (fun _ => rfl), h1, h2, h3, h4, h5, h6, h7, h8⟩
            · refine zlc s0 Try.underlying28 Try.size28 ?_
              exact hK _ _ _ rfl ⟨hB, hz, s0, s1, h0, (fun _ => rfl), h2, h3, h4, h5, h6, h7, h8⟩
            · go_wp2_with fail
              exact hK _ (.int .i64 (p : Int)) _ (by simp only [Act.put, pA, pB, pC ]) ⟨hB, hz, s0, s1, h0, h1, (fun _ => rfl), h3, h4, h5, h6, h7, h8⟩
            · refine zlc s1 Try.underlying28 Try.size28 ?_
              exact hK _ _ _ rfl ⟨hB, hz, s0, s1, h0, h1, h2, (fun _ => rfl), h4, h5, h6, h7, h8⟩
            · go_wp2_with (go_at_call 156; refine (l01T_any _).mono ?_; rintro e wy ⟨rfl, hy⟩)
              exact hK _ (.agg (zb 64 (TP))) _ (by simp only [Act.put, pA, pB, pC ]) ⟨hB.trans (hy.mono hB.size), (Nat.le_trans hz hy.size), s0.zw hy, s1.zw hy, h0, h1, h2, h3, (fun _ => rfl), h5, h6, h7, h8⟩
            · have e2 := h2 (zdq hd 2 rfl)
              have e3 := h3 (zdq hd 3 rfl)
              have e4 := h4 (zdq hd 4 rfl)
              go_wp2_with (go_at_call 80; refine (HSB.out (n + 1) _).mono ?_; rintro e wy ⟨rfl, hy⟩)
              exact hK _ (.agg (zb 64 (subP p (Fc p f (n + 1)) TP))) _ (by simp only [Act.put, pA, pB, pC, e2, e3, e4]) ⟨hB.trans (hy.mono hB.size), (Nat.le_trans hz hy.size), s0.zw hy, s1.zw hy, h0, h1, h2, h3, h4, (fun _ => rfl), h6, h7, h8⟩
            · have e0 := h0 (zdq hd 0 rfl)
              have e1 := h1 (zdq hd 1 rfl)
              have e5 := h5 (zdq hd 5 rfl)
              go_wp2_with (go_at_call 157; refine (HGC.out (n + 1) _).mono ?_; rintro e wy ⟨rfl, hy⟩)
              exact hK _ (.agg (zb 64 (Cc p f (n + 1)))) _ (by simp only [Act.put, pA, pB, pC, e0, e1, e5]) ⟨hB.trans (hy.mono hB.size), (Nat.le_trans hz hy.size), s0.zw hy, s1.zw hy, h0, h1, h2, h3, h4, h5, (fun _ => rfl), h7, h8⟩
            · have e6 := h6 (zdq hd 6 rfl)
              go_wp2_with (go_at_call 106; refine (l01Deg_any (Cc p f (n + 1)) _).mono ?_; rintro e wy ⟨rfl, hy⟩)
              exact hK _ (.int .i64 (deg (Cc p f (n + 1)))) _ (by simp only [Act.put, pA, pB, pC, e6]) ⟨hB.trans (hy.mono hB.size), (Nat.le_trans hz hy.size), s0.zw hy, s1.zw hy, h0, h1, h2, h3, h4, h5, h6, (fun _ => rfl), h8⟩
            · have e7 := h7 (zdq hd 7 rfl)
              go_wp2_with fail
              exact hK _ (.bool true) _ (by simp only [Act.put, pA, pB, pC, e7]) ⟨hB, hz, s0, s1, h0, h1, h2, h3, h4, h5, h6, h7, (fun _ => rfl)⟩
          · intro L v W5 hL ⟨hB, hz, s0, s1, h0, h1, h2, h3, h4, h5, h6, h7, h8⟩
            have e0 := h0 (hL 0 (by decide))
            have e1 := h1 (hL 1 (by decide))
            have e2 := h2 (hL 2 (by decide))
            have e3 := h3 (hL 3 (by decide))
            have e4 := h4 (hL 4 (by decide))
            have e5 := h5 (hL 5 (by decide))
            have e6 := h6 (hL 6 (by decide))
            have e7 := h7 (hL 7 (by decide))
            have e8 := h8 (hL 8 (by decide))
            clear hL h0 h1 h2 h3 h4 h5 h6 h7 h8
            simp only [Exit.then, e0, e1, e2, e3, e4, e5, e6, e7, e8]
            clear e0 e1 e2 e3 e4 e5 e6 e7 e8
            replace B0 := s0
            clear s0
            replace B1 := s1
            clear s1
            replace hb := hB
            clear hB
            clear hbase hz lt_B0 lt_B1
            go_wp2_with fail
            go_ret
            exact ⟨by rw [HV.out]; rfl, hb⟩
      · have h3 : ¬ 2 * ((n : Int) + 1) ≤ (d : Int) := by omega
        have HV := Lib.hid (irC_true (HIR2.out.2 (fun j j1 j2 => hall.out j j1 (by omega))))
        clear h2
        go_upto_region 10 with (fail)
        go_wp2_with fail
        go_ret
        exact ⟨by rw [HV.out]; rfl, hb⟩
theorem l01Irreducible_any (p : Nat) (f : Nat → Nat) (d : Nat) (w : World) (hpr : p = 2 ∨ p = 3 ∨ p = 5 ∨ p = 7) (lf : ∀ k, k < 64 → f k < p) (hmon : mon f d) (hd12 : d ≤ 12) :
 Calls Try.prog 135 #[.int .i64 (p : Int), .agg (zb 64 f)] w fun e w' => e = .returned (.bool (irB p f)) ∧ Below w.heap.size w w' := by
 have := l01Irr_core p (cut f) d w hpr (cut_lt2 (by omega) lf) (mon_cut hmon) hd12
 rw [bcells_cut] at this
 exact this
end Go.Proofs.Ytelgefgphhebnaa
end
section
namespace Go.Proofs.Ytelgefgphhebnaa
open Go Go.RowKit
set_option linter.unusedVariables false
/-- the blocks of w, those of S aside, are in w' as they were -/
def Kx (S : List Nat) (w w' : World) : Prop := w.heap.size ≤ w'.heap.size ∧ ∀ b, b < w.heap.size → b ∉ S → w'.heap[b]? = w.heap[b]?
theorem Kx.start (S : List Nat) (w : World) : Kx S w w.drew := ⟨Nat.le_refl _, fun _ _ _ => rfl⟩
theorem Kx.below {S : List Nat} {w w1 w2 : World} (h : Kx S w w1) (hy : Below w1.heap.size w1 w2) : Kx S w w2 :=
 ⟨Nat.le_trans h.1 hy.size, fun b hb hs => (hy.block b (Nat.lt_of_lt_of_le hb h.1)).trans (h.2 b hb hs)⟩
theorem Kx.alloc {S : List Nat} {w w1 : World} (h : Kx S w w1) (o : Obj) : Kx S w (w1.alloc o) := h.below (zal _ _)
theorem Kx.row {S : List Nat} {w w1 : World} (h : Kx S w w1) {s : Nat} (hs : s ∈ S) (cs : Array Value) : Kx S w (w1.setRow s cs) :=
 ⟨by simpa [World.setRow] using h.1, fun b hb hn => by rw [setRow_other _ _ _ _ (fun e => hn (by rw [e]; exact hs))]; exact h.2 b hb hn⟩
theorem Blk.kx {S : List Nat} {w w' : World} {b n : Nat} {t : TypeId} {f : Nat → Nat} (h : Blk w b n t f) (hX : Kx S w w') (hn : b ∉ S) : Blk w' b n t f := by
 have hl := h.lt
 unfold Blk at *; rw [hX.2 b hl hn]; exact h
theorem Row.kx {S : List Nat} {w w' : World} {b : Nat} {t : TypeId} {cs : Array Value} (h : Row w b t cs) (hX : Kx S w w') (hn : b ∉ S) : Row w' b t cs := h.of (hX.2 b h.lt hn)
theorem One.kx {S : List Nat} {w w' : World} {b : Nat} {t : TypeId} {v : Value} (h : One w b t v) (hX : Kx S w w') (hn : b ∉ S) : One w' b t v := h.of (hX.2 b h.lt hn)
end Go.Proofs.Ytelgefgphhebnaa
end
section
namespace Go.Proofs.Ytelgefgphhebnaa
open Go Go.RowKit
set_option linter.unusedVariables false
theorem Try.size46 : (Try.prog.info? 46).map (·.size) = some 512 := by kernel_rfl
theorem Try.size53 : (Try.prog.info? 53).map (·.size) = some 512 := by kernel_rfl
theorem zero512 : zb 512 (fl 64 fun _ _ => 0) = Try.zeroCells46 := by rw [fl_zero]; simp only [zb, bl]; kernel_rfl
section
variable {P : Program}
theorem wp_store_sk {o : Oper} {a : Act} {w : World} {K : Act → World → Prop} {Q : Exit → Act → World → Prop} (ty : TypeId) (x y : Operand) (ho : o.op = .store ty x y)
 (b i : Nat) (g : Nat → Nat) (hx : a.eval x = .pointer (some ⟨b, i * 64, none⟩)) (hy : a.eval y = .agg (zb 64 g)) (t : TypeId) (F : Nat → Nat → Nat) (hb : Blk w b 512 t (fl 64 F)) (hi : i < 8)
 (hs : (P.info? ty).map (·.size) = some 64) (h : K (a.put o.dst undef) (w.setRow b (zb 512 (fl 64 (updR F i g))))) : o.wp P a w K Q :=
 wp_store_rowF ty x y ho b i 64 8 g hx hy t F hb hi (by decide) hs h
theorem zss {ops : Array Oper} {rest : List Oper} {o : Oper} {a : Act} {w : World} {Q : Exit → Act → World → Prop} (hgd : o.guard = none) (ty : TypeId) (x y : Operand) (ho : o.op = .store ty x y)
 (b i : Nat) (g : Nat → Nat) (hx : a.eval x = .pointer (some ⟨b, i * 64, none⟩)) (hy : a.eval y = .agg (zb 64 g)) (t : TypeId) (F : Nat → Nat → Nat) (hb : Blk w b 512 t (fl 64 F)) (hi : i < 8)
 (hs : (P.info? ty).map (·.size) = some 64) (h : wpList P ops Q rest (a.put o.dst undef) (w.setRow b (zb 512 (fl 64 (updR F i g))))) : wpList P ops Q (o :: rest) a w :=
 wpList_plain hgd fun _ hK => wp_store_sk ty x y ho b i g hx hy t F hb hi hs (hK _ _ h)
end
theorem Blk.sk {w : World} {b : Nat} {t : TypeId} {F : Nat → Nat → Nat} (h : Blk w b 512 t (fl 64 F)) {i : Nat} (hi : i < 8) : w.rangeAt b (i * 64) (bl 64 (F i)) := Blk.rowF (r := 8) (c := 64) h hi
section
variable {P : Program}
theorem run_loadVar_any (w : World) (b n : Nat) (t ty : TypeId) (f : Nat → Nat) (hb : Blk w b n t f) (d : TypeDesc) (hu : P.underlying ty = some d) (hd : (match d with | .struct _ | .array _ _ => true | _ => false) = true) (hi : (P.info? ty).map (·.size) = some n) :
 (loadVar ty ⟨b, 0, none⟩).run P w = .ok (.agg (zb n f)) w := by
 have hb' : w.heap[b]? = some (.cells (zb n f) t (0, 0)) := by unfold Blk at hb; exact hb
 exact run_loadVar_row w b t ty _ (0, 0) d hb' hu hd (by rw [zbs]; exact hi)
theorem results_any {fn : Func} {p : Tmp} {ty : TypeId} (h : fn.results = #[.cell p ty]) (tmps : Array Value) (w : World) (b n : Nat) (t : TypeId) (f : Nat → Nat)
 (hp : tmps.getD p undef = .pointer (some ⟨b, 0, none⟩)) (hb : Blk w b n t f) (d : TypeDesc) (hu : P.underlying ty = some d) (hd : (match d with | .struct _ | .array _ _ => true | _ => false) = true) (hi : (P.info? ty).map (·.size) = some n) :
 (results fn tmps).run P w = .ok (.agg (zb n f)) w := by
 have hp' : tmps[p]?.getD undef = .pointer (some ⟨b, 0, none⟩) := by simpa using hp
 simp [results, h, hp', asAddr, run_loadVar_any w b n t ty f hb d hu hd hi]
theorem zrt {fn : Func} {p q : Tmp} {ty : TypeId} (h : fn.results = #[.cell p ty, .tmp q]) (tmps : Array Value) (w : World) (b n : Nat) (t : TypeId) (f : Nat → Nat)
 (hp : tmps.getD p undef = .pointer (some ⟨b, 0, none⟩)) (hb : Blk w b n t f) (d : TypeDesc) (hu : P.underlying ty = some d) (hd : (match d with | .struct _ | .array _ _ => true | _ => false) = true) (hi : (P.info? ty).map (·.size) = some n) :
 (results fn tmps).run P w = .ok (.tuple #[.agg (zb n f), tmps.getD q undef]) w := by
 have hp' : tmps[p]?.getD undef = .pointer (some ⟨b, 0, none⟩) := by simpa using hp
 simp [results, h, hp', asAddr, run_loadVar_any w b n t ty f hb d hu hd hi]
end
/-- a prime with a polynomial -/
def fdC (p : Int) (m : Nat → Nat) : List Value := .int .i64 p :: bl 64 m
theorem fdC_len (p : Int) (m : Nat → Nat) : (fdC p m).length = 65 := by simp [fdC, bl]
theorem fdC_at (p : Int) (m : Nat → Nat) : (fdC p m).toArray[0]? = some (.int .i64 p) := by simp [fdC]
theorem fdC_all (p : Int) (m : Nat → Nat) : (fdC p m).toArray.all (·.oneCell') = true := Array.all_eq_true_iff_forall_mem.2 fun u hu => by
 have hu' : u ∈ fdC p m := by simpa using hu
 unfold fdC at hu'
 rcases List.mem_cons.1 hu' with h | h
 · subst h; rfl
 · unfold bl at h
   obtain ⟨i, _, rfl⟩ := List.mem_map.1 h
   rfl
theorem fdC_zero : (fdC 0 (fun _ => 0)).toArray = Try.zeroCells70 := by unfold fdC bl; kernel_rfl
theorem built_fd (p : Int) (m : Nat → Nat) : Try.prog.built 70 [(0, .int .i64 p), (1, .agg (zb 64 m))] = some (fdC p m).toArray := by unfold fdC zb bl; kernel_rfl
theorem Row.fd {w : World} {b : Nat} {t : TypeId} {p : Int} {m : Nat → Nat} (h : Row w b t (fdC p m).toArray) : w.rangeAt b 1 (bl 64 m) := by
 intro j v hv
 have := h.range (j + 1) v (by unfold fdC; simpa using hv)
 rw [Nat.zero_add] at this
 rw [Nat.add_comm]; exact this
theorem Try.size70 : (Try.prog.info? 70).map (·.size) = some 65 := by kernel_rfl
/-- skew polynomials one behind the other -/
def skL (Fs : List (Nat → Nat → Nat)) : List Value := (Fs.map fun F => bl 512 (fl 64 F)).flatten
theorem skL_get : ∀ (Fs : List (Nat → Nat → Nat)) (i : Nat) (F : Nat → Nat → Nat) (j : Nat), Fs[i]? = some F → j < 512 → (skL Fs)[i * 512 + j]? = some (.int .u8 (fl 64 F j : Int))
 | [], _, _, _, h, _ => by simp at h
 | G :: Fs, 0, F, j, h, hj => by
  simp only [List.getElem?_cons_zero, Option.some.injEq] at h
  subst h
  unfold skL
  rw [List.map_cons, List.flatten_cons, Nat.zero_mul, Nat.zero_add, List.getElem?_append_left (by rw [zl]; exact hj)]
  simp [bl, hj]
 | G :: Fs, i + 1, F, j, h, hj => by
  have := skL_get Fs i F j (by simpa using h) hj
  unfold skL at this ⊢
  rw [List.map_cons, List.flatten_cons, List.getElem?_append_right (by rw [zl]; omega), zl]
  rw [show (i + 1) * 512 + j - 512 = i * 512 + j by omega]
  exact this
theorem Row.skAt {w : World} {b : Nat} {t : TypeId} {Fs : List (Nat → Nat → Nat)} (h : Row w b t (skL Fs).toArray) {i : Nat} {F : Nat → Nat → Nat} (hi : Fs[i]? = some F) : w.rangeAt b (i * 512) (bl 512 (fl 64 F)) := by
 intro j v hv
 have hj : j < 512 := by
  have := (List.getElem?_eq_some_iff.1 hv).1
  rwa [zl] at this
 have := h.range (i * 512 + j) (.int .u8 (fl 64 F j : Int)) (by simpa using skL_get Fs i F j hi hj)
 rw [Nat.zero_add] at this
 rw [this]
 unfold bl at hv
 simp [hj] at hv
 rw [← hv]
theorem Try.elem46 : (Try.prog.info? 46).map (fun i => (i.size, i.zero.isSome)) = some (512, true) := by kernel_rfl
theorem zbk {P : Program} {ops : Array Oper} {rest : List Oper} {o : Oper} {a : Act} {w : World} {Q : Exit → Act → World → Prop} (hg : o.guard = none) (t : TypeId) (parts : Array (Nat × Operand)) (Fs : List (Nat → Nat → Nat))
 (ho : o.op = .buildSlice t Fs.length parts) (e : TypeId)
 (hu : P.underlying t = some (.slice e)) (hie : (P.info? e).map (fun i => (i.size, i.zero.isSome)) = some (512, true)) (hpos : 0 < Fs.length) (hsm : Fs.length ≤ 8)
 (hp : (parts.toList.map fun x => (x.1, a.eval x.2)) = ((Fs.map fun F => bl 512 (fl 64 F)).zipIdx 0).map fun x => (x.2, Value.agg x.1.toArray))
 (h : ∀ w', Row w' w.heap.size e (skL Fs).toArray → Below w.heap.size w w' → wpList P ops Q rest (a.put o.dst (.slice (some ⟨w.heap.size, 0, none⟩) Fs.length Fs.length)) w') : wpList P ops Q (o :: rest) a w := by
 cases hi : P.info? e with
 | none => simp [hi] at hie
 | some ie =>
  simp only [hi, Option.map_some, Option.some.injEq, Prod.mk.injEq] at hie
  obtain ⟨hs, hz⟩ := hie
  obtain ⟨z, hzz⟩ := Option.isSome_iff_exists.1 hz
  refine wpList_buildSlice hg t e Fs.length parts ho _ ie z hu hi hzz (by rw [hs]; omega) (by rw [hs]; omega) ?_ (h _ (Row.new w e (skL Fs).toArray) (zal _ _))
  rw [Array.toList_map, hp, hs]
  have := fill_cat 512 (Fs.map fun F => bl 512 (fl 64 F)) 0 [] ((Array.range (Fs.length * 512)).map (z.cells[· % z.cells.size]!)).toList (by
   intro vs hv
   obtain ⟨f, _, rfl⟩ := List.mem_map.1 hv
   exact zl _ _) (by simp) (by simp)
  rw [List.nil_append, List.nil_append, Array.toArray_toList] at this
  exact this
theorem extract_sk {F : Nat → Nat → Nat} {i : Nat} (hi : i < 8) : (zb 512 (fl 64 F)).extract (i * 64) (i * 64 + 64) = zb 64 (F i) := by
 apply Array.ext
 · rw [Array.size_extract, zbs, zbs]; omega
 · intro j h1 h2
   rw [zbs] at h2
   rw [Array.getElem_extract]
   have e1 := bcells_get (n := 512) (f := fl 64 F) (i := i * 64 + j) (by omega)
   have e2 := bcells_get (n := 64) (f := F i) (i := j) h2
   rw [fl_at h2] at e1
   rw [Array.getElem?_eq_getElem (by rw [zbs]; omega)] at e1
   rw [Array.getElem?_eq_getElem (by rw [zbs]; omega)] at e2
   simp only [Option.some.injEq] at e1 e2
   rw [e1, e2]
theorem run_index_sk {P : Program} (t e : TypeId) (F : Nat → Nat → Nat) (k : IntKind) (i : Nat) (d : TypeDesc) (hu : P.underlying t = some (.array 8 e)) (he : P.underlying e = some d) (hd : (match d with | .struct _ | .array _ _ => true | _ => false) = true) (hs : (P.info? e).map (·.size) = some 64) (hi : i < 8) (w : World) :
 (Instr.index t (.agg (zb 512 (fl 64 F))) (.int k (i : Int))).run P w = .ok (.agg (zb 64 (F i))) w := by
 cases hq : P.info? e with
 | none => simp [hq] at hs
 | some ie =>
  have hsz : ie.size = 64 := by simpa [hq] using hs
  have hin : (0 : Int) ≤ (i : Int) ∧ (i : Int) < ((8 : Nat) : Int) := by omega
  have hagg : (isAgg e).run P w = .ok true w := by
   unfold isAgg
   rw [Sem.run_bind, run_underlying he w]
   cases d <;> simp_all
  have hx : (List.take 64 (List.drop (i * 64) (bl 512 (fl 64 F)))).toArray = zb 64 (F i) := by
   have := extract_sk (F := F) hi
   simpa using this
  simp [Instr.index, asIntOf, Sem.run_bind, run_underlying hu, sizeOf, typeInfo, hq, hsz, part, hagg]
  rw [if_pos hi, hx]
/-- the degree among the rows below n -/
def skN (F : Nat → Nat → Nat) : Nat → Int
 | 0 => -1
 | n + 1 => if eqN 64 (F n) (fun _ => 0) = true then skN F n else (n : Int)
theorem skN_z (F : Nat → Nat → Nat) : skN F 0 = -1 := by unfold skN; rfl
theorem skN_skip {F : Nat → Nat → Nat} {n : Nat} (h : eqN 64 (F n) (fun _ => 0) = true) : skN F (n + 1) = skN F n := by rw [skN, if_pos h]
theorem skN_stop {F : Nat → Nat → Nat} {n : Nat} (h : eqN 64 (F n) (fun _ => 0) = false) : skN F (n + 1) = (n : Int) := by rw [skN, if_neg (by rw [h]; simp)]
def skD (F : Nat → Nat → Nat) : Int := skN F 8
theorem skN_bounds (F : Nat → Nat → Nat) : ∀ n, -1 ≤ skN F n ∧ skN F n < (n : Int)
 | 0 => by rw [skN_z]; omega
 | n + 1 => by
  have := skN_bounds F n
  rw [skN]; split <;> omega
theorem zsd (F : Nat → Nat → Nat) : -1 ≤ skD F ∧ skD F ≤ 7 := by
 have := skN_bounds F 8
 unfold skD; omega
theorem skN_spec (F : Nat → Nat → Nat) : ∀ n i, i < n → skN F n < (i : Int) → eqN 64 (F i) (fun _ => 0) = true
 | 0, i, h, _ => by omega
 | n + 1, i, h, h2 => by
  cases he : eqN 64 (F n) (fun _ => 0) with
  | true =>
   by_cases e : i = n
   · subst e; exact he
   · rw [skN_skip he] at h2; exact skN_spec F n i (by omega) h2
  | false => rw [skN_stop he] at h2; omega
attribute [irreducible] skN
end Go.Proofs.Ytelgefgphhebnaa
end
section
set_option linter.unusedVariables false
namespace Go.Proofs.Ytelgefgphhebnaa
open Rg
section
variable {p : Nat} {m : Nat → Int}
theorem res_char : nm p (e : Res p m) = o := by
 rw [nm_cl]
 exact cl_eq.2 (rm_of_cg fun k => by
  unfold zS
  split
  · exact ⟨1, by omega⟩
  · exact ⟨0, by omega⟩)
/-- the class of a polynomial -/
def rs (f : Nat → Nat) : Res p m := cl (lz f) (fin_lz f)
theorem rs_zero : (rs (fun _ => 0) : Res p m) = o := cl_eq.2 (rm_of_cg fun k => by unfold lz cut zS; simp)
end
theorem rs_res {p : Nat} {f m : Nat → Nat} (hp : p = 2 ∨ p = 3 ∨ p = 5 ∨ p = 7) (ha : ∀ k, k < 64 → f k < p) (hm : ∀ k, k < 64 → m k < p) (h0 : 0 ≤ deg m) : (rs (resP p f m) : Res p (lz m)) = rs f := cl_eq.2 (rm_symm (res_rm hp ha hm h0))
theorem rs_mm {p : Nat} {a b m : Nat → Nat} (hp : p = 2 ∨ p = 3 ∨ p = 5 ∨ p = 7) (hm : ∀ k, k < 64 → m k < p) (h0 : 0 ≤ deg m) : (rs (mmP p a b m) : Res p (lz m)) = rs a * rs b := cl_eq.2 (rm_symm (mmP_rm hp hm h0))
theorem rs_pm {p k : Nat} {a m : Nat → Nat} (hp : p = 2 ∨ p = 3 ∨ p = 5 ∨ p = 7) (ha : ∀ k, k < 64 → a k < p) (hm : ∀ k, k < 64 → m k < p) (h0 : 0 ≤ deg m) (hk : k < 2 ^ 64) : (rs (pmP p a k m) : Res p (lz m)) = pw (rs a) k := by
 unfold rs
 have : pw (cl (lz a) (fin_lz a) : Res p (lz m)) k = cl (pwz (lz a) k) (fin_pwz (fin_lz _) _) := pw_cl (fin_lz _) _
 rw [this]
 exact cl_eq.2 (pmP_spec hp ha hm h0 hk).2.2
/-- T^q in the place of T -/
def strP (q : Nat) (x : Nat → Nat) : Nat → Nat := fun k => if k % q = 0 then x (k / q) else 0
theorem strP_lt {p q : Nat} {x : Nat → Nat} (hp : 0 < p) (hq : 1 ≤ q) (hx : ∀ k, k < 64 → x k < p) (k : Nat) (hk : k < 64) : strP q x k < p := by
 unfold strP
 split
 · exact hx _ (Nat.lt_of_le_of_lt (Nat.div_le_self _ _) hk)
 · exact hp
def srq (q : Nat) (cs : List Nat) : Nat → Int := fun k => if k % q = 0 then ((cs.getD (k / q) 0 : Nat) : Int) else 0
theorem fin_srq {q : Nat} (hq : 0 < q) (cs : List Nat) : fin (srq q cs) := ⟨cs.length * q, fun k hk => by
 unfold srq
 split
 · have : cs.length ≤ k / q := (Nat.le_div_iff_mul_le hq).2 hk
   simp [this]
 · rfl⟩
theorem mz_TSq (f : Nat → Int) : ∀ q, mz (pwz TS q) f = fun k => if k < q then 0 else f (k - q)
 | 0 => by
  have : pwz TS 0 = oneS := rfl
  rw [this]
  have := mz_one f
  rw [show mz oneS f = f from this]
  funext k; rw [if_neg (by omega), Nat.sub_zero]
 | q + 1 => by
  have h1 : pwz TS (q + 1) = mz (pwz TS q) TS := rfl
  have h2 : mz (mz (pwz TS q) TS) f = mz (pwz TS q) (mz TS f) := mz_assoc _ _ _
  rw [h1, h2, mz_TSq (mz TS f) q, mz_TS]
  funext k
  by_cases h : k < q
  · rw [if_pos h, if_pos (by omega)]
  · rw [if_neg h]
    dsimp only
    by_cases h3 : k = q
    · rw [if_pos (by omega), if_pos (by omega)]
    · rw [if_neg (by omega), if_neg (by omega), Nat.sub_sub]
theorem pe_srq {p : Nat} {m : Nat → Int} {q : Nat} (hq : 0 < q) : ∀ cs : List Nat, (pe cs (pw tt q) : Res p m) = cl (srq q cs) (fin_srq hq cs)
 | [] => by
  show (o : Res p m) = _
  refine cl_congr ?_
  funext k; unfold srq zS; simp
 | c :: cs => by
  show nm c e + pw tt q * pe cs (pw tt q) = _
  rw [pe_srq hq cs, nm_cl]
  have h1 : (pw tt q : Res p m) = cl (pwz TS q) (fin_pwz fin_TS _) := pw_cl fin_TS _
  rw [h1]
  refine cl_congr (?_ : az _ (mz _ _) = _)
  rw [mz_TSq]
  funext k
  show (if k = 0 then (c : Int) else 0) + (if k < q then 0 else srq q cs (k - q)) = srq q (c :: cs) k
  unfold srq
  by_cases h : k < q
  · rw [if_pos h]
    by_cases h0 : k = 0
    · subst h0; simp
    · have e1 : k % q = k := Nat.mod_eq_of_lt h
      rw [if_neg h0, e1, if_neg h0]; rfl
  · have h0 : ¬ k = 0 := by omega
    obtain ⟨j, rfl⟩ : ∃ j, k = j + q := ⟨k - q, by omega⟩
    rw [if_neg h, if_neg h0, Nat.add_sub_cancel, Nat.add_mod_right, Nat.add_div_right _ hq]
    split
    · simp
    · rfl
theorem rs_list {p : Nat} {m : Nat → Int} (f : Nat → Nat) : (rs f : Res p m) = pe ((List.range 64).map f) tt := by
 rw [pe_cl]
 refine cl_congr ?_
 funext k; unfold lz cut ser
 by_cases h : k < 64
 · simp [h]
 · simp [h]
theorem rs_str {p : Nat} {m : Nat → Int} {x : Nat → Nat} (hp : p = 2 ∨ p = 3 ∨ p = 5 ∨ p = 7) (h : deg x * (p : Int) ≤ 63) : (rs (strP p x) : Res p m) = pw (rs x) p := by
 have hp0 : 0 < p := by omega
 have h1 := fr_pe (R := Res p m) hp res_char 1 tt ((List.range 64).map x)
 unfold fr' at h1
 rw [Nat.pow_one] at h1
 rw [rs_list x, h1, pe_srq hp0]
 refine cl_congr ?_
 funext k
 unfold lz cut strP srq
 by_cases hk : k < 64
 · rw [if_pos hk]
   split
   · have : k / p < 64 := Nat.lt_of_le_of_lt (Nat.div_le_self _ _) hk
     simp [this]
   · rfl
 · rw [if_neg hk]
   split
   · rename_i hm
     by_cases h2 : k / p < 64
     · have e1 := Nat.div_add_mod k p
       have e3 : x (k / p) = 0 := by
        rcases deg_spec x with ⟨_, h5⟩ | ⟨d, hd, h4, _, h5⟩
        · exact h5 _ h2
        · refine h5 _ ?_ h2
          rw [h4] at h
          have h6 : d * p ≤ 63 := by exact_mod_cast h
          apply Classical.byContradiction
          intro h7
          have := Nat.mul_le_mul_right p (show k / p ≤ d by omega)
          rw [Nat.mul_comm p] at e1
          omega
       simp [h2, e3]
     · simp [h2]
   · rfl
theorem deg_addK {p : Nat} {f g : Nat → Nat} {c d : Int} (hp : 0 < p) (hd : 0 ≤ d) (hf : deg f < d) (hg : deg g < d) : deg (addK p f g c) < d := by
 have : deg (addK p f g c) ≤ d - 1 := by
  refine deg_le (by omega) (fun k h1 h2 => ?_)
  have above : ∀ (f : Nat → Nat), deg f < d → f k = 0 := by
   intro f hf
   rcases deg_spec f with ⟨_, h5⟩ | ⟨j, hj, h4, _, h5⟩
   · exact h5 _ h2
   · exact h5 _ (by omega) h2
  unfold addK
  rw [above f hf, above g hg]
  simp
 omega
end Go.Proofs.Ytelgefgphhebnaa
end
section
namespace Go.Proofs.Ytelgefgphhebnaa
open Go Go.RowKit
set_option linter.unusedVariables false
set_option linter.unusedSimpArgs false
theorem wp_load_rowv {P : Program} {o : Oper} {a : Act} {w : World} {K : Act → World → Prop} {Q : Exit → Act → World → Prop} (ty : TypeId) (x : Operand) (ho : o.op = .load ty x)
 (b : Nat) (hx : a.eval x = .pointer (some ⟨b, 0, none⟩)) (t : TypeId) (cs : Array Value) (hb : Row w b t cs) (d : TypeDesc)
 (hu : P.underlying ty = some d) (hd : (match d with | .struct _ | .array _ _ => true | _ => false) = true) (n : Nat) (hi : (P.info? ty).map (·.size) = some n) (hn : cs.size = n) (h : K (a.put o.dst (.agg cs)) w) : o.wp P a w K Q := by
 have hb' : w.heap[b]? = some (.cells cs t (0, 0)) := by unfold Row at hb; exact hb
 exact wp_load_row ty x ho b hx t _ (0, 0) d hb' hu hd (by rw [hi, hn]) h
/-- the cells below j of the stretched polynomial -/
def spS (q : Nat) (x : Nat → Nat) (j : Nat) : Nat → Nat := fun k => if k % q = 0 ∧ k / q < j then x (k / q) else 0
theorem spS_z (q : Nat) (x : Nat → Nat) : spS q x 0 = fun _ => 0 := by funext k; unfold spS; rw [if_neg (fun h => Nat.not_lt_zero _ h.2)]
theorem spS_s {q j : Nat} {x : Nat → Nat} (hq : 1 ≤ q) (k : Nat) : (if k = j * q then x j else spS q x j k) = spS q x (j + 1) k := by
 unfold spS
 by_cases h : k = j * q
 · subst h
   have e1 : j * q % q = 0 := Nat.mul_mod_left j q
   have e2 : j * q / q = j := Nat.mul_div_cancel j (by omega)
   rw [if_pos rfl, e1, e2, if_pos ⟨rfl, by omega⟩]
 · rw [if_neg h]
   by_cases h1 : k % q = 0
   · have e := Nat.div_add_mod k q
     have : k / q ≠ j := by
      intro h2; rw [h2, h1, Nat.add_zero, Nat.mul_comm] at e; omega
     by_cases h3 : k / q < j
     · rw [if_pos ⟨h1, h3⟩, if_pos ⟨h1, by omega⟩]
     · rw [if_neg (fun h => h3 h.2), if_neg (fun h => by have := h.2; omega)]
   · rw [if_neg (fun h => h1 h.1), if_neg (fun h => h1 h.1)]
theorem spS_end {q n : Nat} {x : Nat → Nat} (h : deg x < (n : Int)) : ∀ k, k < 64 → spS q x n k = strP q x k := by
 intro k hk
 unfold spS strP
 by_cases h1 : k % q = 0
 · rw [if_pos h1]
   by_cases h2 : k / q < n
   · rw [if_pos ⟨h1, h2⟩]
   · rw [if_neg (fun h => h2 h.2)]
     have h3 : k / q < 64 := Nat.lt_of_le_of_lt (Nat.div_le_self _ _) hk
     rcases deg_spec x with ⟨_, h5⟩ | ⟨d, hd, h4, _, h5⟩
     · exact (h5 _ h3).symm
     · exact (h5 _ (by omega) h3).symm
 · rw [if_neg (fun h => h1 h.1), if_neg h1]
attribute [local irreducible] deg invN dS qS stp stpr quoP resP oneP upP upF hmR mmP shA addK pgR mmC pmI pmP TP strP
set_option maxRecDepth 100000 in
set_option maxHeartbeats 1600000 in
theorem stretched_any (q : Nat) (f : Nat → Nat) (w : World) (hq : 1 ≤ q) (hq2 : q ≤ 1000000) (hf : ∀ k, k < 64 → f k < 256) (hd : deg f * (q : Int) ≤ 63) :
 Calls Try.prog 132 #[.agg (zb 64 f), .int .i64 (q : Int)] w fun e w' => e = .returned (.agg (zb 64 (strP q f))) ∧ Below w.heap.size w w' := by
 obtain ⟨gb1, gb2⟩ := zdb f
 obtain ⟨NN, hNN⟩ : ∃ NN : Nat, deg f = (NN : Int) - 1 := ⟨(deg f + 1).toNat, by omega⟩
 have HD := Lib.hid hNN
 have hN6 : NN ≤ 64 := by omega
 have HQ := Lib.hid (show ∀ j, j < NN → j * q ≤ 63 from fun j hj => by
  rw [hNN] at hd
  have h1 : (j : Int) * (q : Int) ≤ ((NN : Int) - 1) * (q : Int) := Int.mul_le_mul_of_nonneg_right (by omega) (by omega)
  have h2 : (j : Int) * (q : Int) ≤ 63 := by omega
  exact_mod_cast h2)
 have HV := Lib.hid (zbc (spS_end (q := q) (x := f) (n := NN) (by omega)))
 have HSS := Lib.hid (fun j k => spS_s (q := q) (j := j) (x := f) hq k)
 have HZ := Lib.hid (spS_z q f)
 clear hNN hd
 go_enter Try.func132, Try.ntmps132
 go_upto_region 1 with (fail)
 rw [← z64]
 obtain ⟨W1, hwo⟩ : ∃ v : World, v = ((w.alloc (.cells (zb 64 (f)) 28)).alloc (.cells (zb 64 fun _ => 0) 28)) := ⟨_, rfl⟩
 have B0 : Blk W1 (w.heap.size) 64 28 (f) := by subst hwo; have := ((Blk.new w 64 28 (f)).alloc (.cells (zb 64 fun _ => 0) 28)); simpa using this
 have B1 : Blk W1 (w.heap.size + 1) 64 28 (fun _ => 0) := by subst hwo; have := (Blk.new (w.alloc (.cells (zb 64 (f)) 28)) 64 28 (fun _ => 0)); simpa using this
 have hb : Below w.heap.size w W1 := by subst hwo; exact (((Below.refl _ _).alloc (Nat.le_refl _) _).alloc (by simp) _)
 rw [← hwo]
 clear hwo
 go_upto_region 2 with (first | rw [← z64])
 have lt_B0 := B0.lt
 have lt_B1 := B1.lt
 have lhb := hb.size
 obtain ⟨W2, hwo, hzQ⟩ : ∃ v : World, v = (W1.alloc (.cells (zb 64 fun _ => 0) 28)) ∧ Blk v (w.heap.size) 64 28 (f) ∧ Blk v (w.heap.size + 1) 64 28 (fun _ => 0) ∧ Blk v (W1.heap.size) 64 28 (fun _ => 0) ∧ Below w.heap.size w v := ⟨_, rfl, (B0.alloc (.cells (zb 64 fun _ => 0) 28)), (B1.alloc (.cells (zb 64 fun _ => 0) 28)), (Blk.new W1 64 28 (fun _ => 0)), (hb.alloc (by have := hb.size; simp; omega) (.cells (zb 64 fun _ => 0) 28))⟩
 rw [← hwo]
 clear hwo B0 B1 hb
 obtain ⟨B0, B1, B2, hb⟩ := hzQ
 obtain ⟨N1, hNN⟩ : ∃ n : Nat, n = W1.heap.size := ⟨_, rfl⟩
 rw [← hNN] at lt_B0 lt_B1 lhb B2 ⊢
 clear hNN
 have zN1_0 := lt_B0
 have zN1_1 := lt_B1
 have zN1 := lhb
 clear lt_B0 lt_B1 lhb
 try simp only [Act.put, pA, pB, pC]
 go_upto_region 99 with (first | (refine zla (.tmp 2) B0 Try.underlying28 Try.size28 ?_) | (go_at_call 77; refine (degree_any f _).mono ?_; rintro e W3 ⟨rfl, hW3⟩; replace B0 := B0.zw hW3; replace B1 := B1.zw hW3; replace B2 := B2.zw hW3; replace hb := (hb).trans (hW3.mono (hb).size); rw [HD.out]))
 have hcnt : ((NN : Int) - 1 + 1) = (NN : Int) := by omega
 go_loopw [10] (fun i wr => ∃ j : Nat, i = .int .i64 (j : Int) ∧ j ≤ NN ∧ Below w.heap.size w wr ∧ Blk wr (w.heap.size) 64 28 f ∧ Blk wr (w.heap.size + 1) 64 28 (fun _ => 0) ∧ Blk wr (N1) 64 28 (spS q f j)) (fun i _ => NN - (intOf i).toNat)
 case atStart => exact ⟨0, rfl, Nat.zero_le _, hb, B0, B1, by rw [HZ.out]; exact B2⟩
 case round =>
  clear hb B0 B1 B2
  obtain ⟨j, rfl, hjn, hb, B0, B1, B2⟩ := hrel
  by_cases hj : j < NN
  · have hji : (j : Int) < (NN : Int) - 1 + 1 := by omega
    have hj6 : j < 64 := by omega
    have hjq := HQ.out j hj
    obtain ⟨J, hJ⟩ : ∃ J, J = j * q := ⟨_, rfl⟩
    have hJi : (j : Int) * (q : Int) = (J : Int) := by rw [hJ]; push_cast; rfl
    have hJ6 : J < 64 := by omega
    have hC6 := hf j hj6
    have HSJ := Lib.hid (show ∀ k, (if k = J then f j else spS q f j k) = spS q f (j + 1) k from fun k => by rw [hJ]; exact HSS.out j k)
    clear hjq
    go_upto_region 5 with (fail)
    have cc := B0.cell (i := j) hj6
    have c5 := B2.cell (i := J) hJ6
    have zz := B2.frozen J
    clear hJ
    have hwr : ∀ x : Int, x = (J : Int) → 0 ≤ x ∧ x < 64 := fun x e => by omega
    go_upto_region 6 with (first | rw [hJi])
    clear cc c5 zz hwr
    have lt_B0 := B0.lt
    have lt_B1 := B1.lt
    have lt_B2 := B2.lt
    have qB0 : Blk (wr.setCell ⟨N1, J, none⟩ (.int .u8 ((f j : Int)))) (w.heap.size) 64 28 (f) := (B0.setOther (by show (w.heap.size) ≠ (N1); omega))
    have qB1 : Blk (wr.setCell ⟨N1, J, none⟩ (.int .u8 ((f j : Int)))) (w.heap.size + 1) 64 28 (fun _ => 0) := (B1.setOther (by show (w.heap.size + 1) ≠ (N1); omega))
    have qB2 : Blk (wr.setCell ⟨N1, J, none⟩ (.int .u8 ((f j : Int)))) (N1) 64 28 (spS q f (j + 1)) := ((B2.set (v := f j) (rfl)).congr (fun k _ => HSJ.out k))
    have qhb : Below w.heap.size w (wr.setCell ⟨N1, J, none⟩ (.int .u8 ((f j : Int)))) := (hb.setCell (by show w.heap.size ≤ (N1); omega) _)
    obtain ⟨W4, hwo⟩ : ∃ v : World, v = (wr.setCell ⟨N1, J, none⟩ (.int .u8 ((f j : Int)))) := ⟨_, rfl⟩
    rw [← hwo] at qB0 qB1 qB2 qhb ⊢
    clear hwo
    clear B0 B1 B2 hb
    have B0 := qB0
    have B1 := qB1
    have B2 := qB2
    have hb := qhb
    clear qB0 qB1 qB2 qhb
    try simp only [Act.put, pA, pB, pC]
    go_wp2_with fail
    go_roundw
    case rel => exact ⟨j + 1, by go_num, by omega, hb, B0, B1, B2⟩
    case measure => simp [intOf] <;> omega
  · have hji : ¬ (j : Int) < (NN : Int) - 1 + 1 := by omega
    obtain rfl : j = NN := by omega
    go_upto_region 7 with (fail)
    have lt_B0 := B0.lt
    have lt_B1 := B1.lt
    have lt_B2 := B2.lt
    go_wp2_with (first | rw [← z64] | (refine zla (.tmp 5) B2 Try.underlying28 Try.size28 ?_) | (refine zsr (.tmp 4) (.tmp 21) (spS q f j) B1 Try.size28 ?_; try simp only [Act.put]))
    obtain ⟨W4, hwo, hzQ⟩ : ∃ v : World, v = (wr.setRow (w.heap.size + 1) (zb 64 (spS q f j))) ∧ Blk v (w.heap.size) 64 28 (f) ∧ Blk v (w.heap.size + 1) 64 28 (spS q f j) ∧ Blk v (N1) 64 28 (spS q f j) ∧ Below w.heap.size w v := ⟨_, rfl, (B0.rowOther (by omega)), (B1.row (spS q f j)), (B2.rowOther (by omega)), (zr hb (by omega) _)⟩
    rw [← hwo]
    clear hwo B0 B1 B2 hb
    obtain ⟨B0, B1, B2, hb⟩ := hzQ
    try simp only [Act.put, pA, pB, pC]
    refine bodyPost_ret (zrb rfl _ _ _ 64 28 5 _ rfl B1 Try.underlying28 Try.size28) rfl ⟨by rw [HV.out], hb⟩
end Go.Proofs.Ytelgefgphhebnaa
end
section
namespace Go.Proofs.Ytelgefgphhebnaa
open Go Go.RowKit
set_option linter.unusedVariables false
set_option linter.unusedSimpArgs false
theorem One.setc {w : World} {b : Nat} {t : TypeId} {v x : Value} (h : One w b t v) : One (w.setCell ⟨b, 0, none⟩ x) b t x := by
 unfold One at *
 rw [heap_setCell_same _ _ _ _ _ _ h]; rfl
end Go.Proofs.Ytelgefgphhebnaa
end
section
namespace Go.Proofs.Ytelgefgphhebnaa
open Rg
set_option linter.unusedVariables false
/-- a residue -/
def rsd (p : Nat) (m x : Nat → Nat) : Prop := (∀ k, k < 64 → x k < p) ∧ deg x < deg m
/-- the Frobenius -/
def frI (p : Nat) (m x : Nat → Nat) : Nat → Nat := resP p (strP p x) m
/-- taken n times -/
def frN (p : Nat) (m x : Nat → Nat) : Nat → (Nat → Nat)
 | 0 => x
 | n + 1 => frI p m (frN p m x n)
theorem frN_z (p : Nat) (m x : Nat → Nat) : frN p m x 0 = x := rfl
theorem frN_s (p : Nat) (m x : Nat → Nat) (n : Nat) : frN p m x (n + 1) = frI p m (frN p m x n) := rfl
theorem frN_add (p : Nat) (m x : Nat → Nat) (a : Nat) : ∀ b, frN p m (frN p m x a) b = frN p m x (a + b)
 | 0 => rfl
 | b + 1 => by rw [frN_s, frN_add p m x a b, ← Nat.add_assoc, frN_s]
theorem rsd_eq {p : Nat} {m x y : Nat → Nat} (hp : p = 2 ∨ p = 3 ∨ p = 5 ∨ p = 7) (lm : ∀ k, k < 64 → m k < p) (h0 : 0 ≤ deg m) (hx : rsd p m x) (hy : rsd p m y) (h : (rs x : Res p (lz m)) = rs y) : ∀ k, k < 64 → x k = y k :=
 res_sameN hp hx.1 hy.1 lm h0 hx.2 hy.2 (cl_eq.1 h)
section
variable {p : Nat} {m : Nat → Nat} (hp : p = 2 ∨ p = 3 ∨ p = 5 ∨ p = 7) (lm : ∀ k, k < 64 → m k < p) (h0 : 0 ≤ deg m) (h9 : deg m ≤ 9)
include hp lm h0 h9
theorem frI_ok {x : Nat → Nat} (h : rsd p m x) : rsd p m (frI p m x) ∧ (rs (frI p m x) : Res p (lz m)) = pw (rs x) p := by
 have p0 : 0 < p := by omega
 have hd : deg x * (p : Int) ≤ 63 := by
  have := h.2
  rcases hp with rfl | rfl | rfl | rfl <;> omega
 have hl := strP_lt (q := p) p0 (by omega) h.1
 unfold frI
 exact ⟨⟨resP_lt p0 hl, (resP_deg hp hl lm h0).1⟩, by rw [rs_res hp hl lm h0, rs_str hp hd]⟩
theorem frN_ok {x : Nat → Nat} (h : rsd p m x) : ∀ n, rsd p m (frN p m x n) ∧ (rs (frN p m x n) : Res p (lz m)) = fr' p n (rs x)
 | 0 => ⟨h, (fr_z p _).symm⟩
 | n + 1 => by
  obtain ⟨a, b⟩ := frN_ok h n
  obtain ⟨c, e⟩ := frI_ok hp lm h0 h9 a
  rw [frN_s]
  exact ⟨c, by rw [e, b, fr_s]⟩
theorem frI_pm {x : Nat → Nat} (h : rsd p m x) : ∀ k, k < 64 → pmP p x p m k = frI p m x k := by
 obtain ⟨a, b⟩ := frI_ok hp lm h0 h9 h
 obtain ⟨c, e, _⟩ := pmP_spec (k := p) hp h.1 lm h0 (by omega)
 exact rsd_eq hp lm h0 ⟨c, e⟩ a (by rw [b, rs_pm hp h.1 lm h0 (by omega)])
theorem frN_d {x : Nat → Nat} {d : Nat} (hi : irr p (cut m) d) (h : rsd p m x) : ∀ k, k < 64 → frN p m x d k = x k := by
 obtain ⟨a, b⟩ := frN_ok hp lm h0 h9 h d
 refine rsd_eq hp lm h0 a h ?_
 have e1 : lz (cut m) = lz m := by funext k; unfold lz; rw [cut_cut]
 have h1 := (irr_T hp hi).1
 rw [e1] at h1
 have ht : fr' p d (tt : Res p (lz m)) = tt := by
  unfold fr'
  show pw (cl TS fin_TS : Res p (lz m)) (p ^ d) = cl TS fin_TS
  rw [pw_cl]
  exact cl_eq.2 h1
 rw [b, rs_list x, fr_pe hp res_char, ht]
/-- as often as the number tells, modulo d -/
theorem frN_next {x : Nat → Nat} {d : Nat} (hi : irr p (cut m) d) (hd : 1 ≤ d) (h : rsd p m x) (i : Nat) : ∀ k, k < 64 → frN p m (frN p m x (i % d)) (1 % d) k = frN p m x ((i + 1) % d) k := by
 intro k hk
 rw [frN_add]
 by_cases h1 : d = 1
 · subst h1; rw [Nat.mod_one, Nat.mod_one, Nat.mod_one]
 · rw [Nat.mod_eq_of_lt (show 1 < d by omega)]
   by_cases h2 : i % d + 1 < d
   · rw [show (i + 1) % d = i % d + 1 by rw [Nat.add_mod, Nat.mod_eq_of_lt (show 1 < d by omega), Nat.mod_eq_of_lt h2]]
   · have h3 : i % d + 1 = d := by have := Nat.mod_lt i (show 0 < d by omega); omega
     rw [h3, show (i + 1) % d = 0 by rw [Nat.add_mod, Nat.mod_eq_of_lt (show 1 < d by omega), h3, Nat.mod_self], frN_z]
     exact frN_d hp lm h0 h9 hi h k hk
end
end Go.Proofs.Ytelgefgphhebnaa
end
section
namespace Go.Proofs.Ytelgefgphhebnaa
open Rg
set_option linter.unusedVariables false
theorem mm_zero {p : Nat} {m a b : Nat → Nat} (hp : p = 2 ∨ p = 3 ∨ p = 5 ∨ p = 7) (lm : ∀ k, k < 64 → m k < p) (h0 : 0 ≤ deg m) (ha : ∀ k, k < 64 → a k = 0) : ∀ k, k < 64 → mmP p a b m k = 0 := by
 have hz : deg (fun _ => 0 : Nat → Nat) < 0 := by
  rcases deg_spec (fun _ => 0) with ⟨h, _⟩ | ⟨d, _, _, h, _⟩
  · omega
  · exact absurd rfl h
 refine rsd_eq (y := fun _ => 0) hp lm h0 ⟨fun k hk => mmP_lt (by omega) k (by omega), mmP_deg hp lm h0⟩ ⟨fun k _ => by show 0 < p; omega, by omega⟩ ?_
 have e : (rs a : Res p (lz m)) = rs (fun _ => 0) := cl_congr (by
  funext k
  unfold lz cut
  by_cases h : k < 64
  · rw [if_pos h, if_pos h, ha k h]
  · rw [if_neg h, if_neg h])
 rw [rs_mm hp lm h0, e, rs_zero, omul]
theorem addK_zero {p : Nat} {f g : Nat → Nat} (hf : ∀ k, k < 64 → f k < p) (hg : ∀ k, k < 64 → g k = 0) : ∀ k, k < 64 → addK p f g 1 k = f k := by
 intro k hk
 rw [addK_one]
 show (f k + g k) % p = f k
 rw [hg k hk, Nat.add_zero, Nat.mod_eq_of_lt (hf k hk)]
/-- the value, summed up below i -/
def vlR (p : Nat) (m : Nat → Nat) (d : Nat) (F : Nat → Nat → Nat) (x : Nat → Nat) : Nat → (Nat → Nat)
 | 0 => fun _ => 0
 | i + 1 => addK p (vlR p m d F x i) (mmP p (F i) (frN p m x (i % d)) m) 1
theorem vlR_z (p : Nat) (m : Nat → Nat) (d : Nat) (F : Nat → Nat → Nat) (x : Nat → Nat) : vlR p m d F x 0 = fun _ => 0 := rfl
theorem vlR_s (p : Nat) (m : Nat → Nat) (d : Nat) (F : Nat → Nat → Nat) (x : Nat → Nat) (i : Nat) : vlR p m d F x (i + 1) = addK p (vlR p m d F x i) (mmP p (F i) (frN p m x (i % d)) m) 1 := rfl
theorem vlR_lt {p : Nat} {m : Nat → Nat} {d : Nat} {F : Nat → Nat → Nat} {x : Nat → Nat} (hp : 0 < p) : ∀ i k, vlR p m d F x i k < p
 | 0, k => hp
 | i + 1, k => addK_lt hp k
theorem vlR_skip {p : Nat} {m : Nat → Nat} {d : Nat} {F : Nat → Nat → Nat} {x : Nat → Nat} {i : Nat} (hp : p = 2 ∨ p = 3 ∨ p = 5 ∨ p = 7) (lm : ∀ k, k < 64 → m k < p) (h0 : 0 ≤ deg m) (h : eqN 64 (F i) (fun _ => 0) = true) : ∀ k, k < 64 → vlR p m d F x i k = vlR p m d F x (i + 1) k := by
 intro k hk
 rw [vlR_s]
 exact (addK_zero (fun k _ => vlR_lt (by omega) i k) (mm_zero hp lm h0 (eqN_iff.1 h)) k hk).symm
theorem vlR_tail {p : Nat} {m : Nat → Nat} {d : Nat} {F : Nat → Nat → Nat} {x : Nat → Nat} (hp : p = 2 ∨ p = 3 ∨ p = 5 ∨ p = 7) (lm : ∀ k, k < 64 → m k < p) (h0 : 0 ≤ deg m) {n : Nat} (hn : skD F = (n : Int) - 1) : ∀ j, n + j ≤ 8 → ∀ k, k < 64 → vlR p m d F x n k = vlR p m d F x (n + j) k
 | 0, _, k, _ => rfl
 | j + 1, h, k, hk => by
  rw [vlR_tail hp lm h0 hn j (by omega) k hk]
  exact vlR_skip hp lm h0 (skN_spec F 8 (n + j) (by omega) (by have : skN F 8 = skD F := rfl; omega)) k hk
/-- one row of the product -/
def tmJ (p : Nat) (m : Nat → Nat) (d : Nat) (F G : Nat → Nat → Nat) (i : Nat) (O : Nat → Nat → Nat) : Nat → (Nat → Nat → Nat)
 | 0 => O
 | j + 1 => updR (tmJ p m d F G i O j) (i + j) (addK p (tmJ p m d F G i O j (i + j)) (mmP p (F i) (frN p m (G j) (i % d)) m) 1)
/-- the rows below i -/
def tmR (p : Nat) (m : Nat → Nat) (d : Nat) (F G : Nat → Nat → Nat) (n : Nat) : Nat → (Nat → Nat → Nat)
 | 0 => fun _ _ => 0
 | i + 1 => tmJ p m d F G i (tmR p m d F G n i) n
def tmP (p : Nat) (m : Nat → Nat) (d : Nat) (F G : Nat → Nat → Nat) : Nat → Nat → Nat := tmR p m d F G (skD G + 1).toNat (skD F + 1).toNat
attribute [irreducible] vlR tmJ tmR tmP
end Go.Proofs.Ytelgefgphhebnaa
end
section
namespace Go.Proofs.Ytelgefgphhebnaa
open Rg
set_option linter.unusedVariables false
theorem zero_rsd {p : Nat} {m : Nat → Nat} (hp : 0 < p) (h0 : 0 ≤ deg m) : rsd p m (fun _ => 0) := by
 refine ⟨fun _ _ => hp, ?_⟩
 rcases deg_spec (fun _ => 0) with ⟨h, _⟩ | ⟨d, _, _, h, _⟩
 · omega
 · exact absurd rfl h
theorem mm_rsd {p : Nat} {m a b : Nat → Nat} (hp : p = 2 ∨ p = 3 ∨ p = 5 ∨ p = 7) (lm : ∀ k, k < 64 → m k < p) (h0 : 0 ≤ deg m) : rsd p m (mmP p a b m) := ⟨fun k hk => mmP_lt (by omega) k (by omega), mmP_deg hp lm h0⟩
/-- one coefficient -/
def sng (i : Nat) (a : Nat → Nat) : Nat → Nat → Nat := updR (fun _ _ => 0) i a
end Go.Proofs.Ytelgefgphhebnaa
end
section
namespace Go.Proofs.Ytelgefgphhebnaa
open Go Go.RowKit
set_option linter.unusedVariables false
set_option linter.unusedSimpArgs false
attribute [local irreducible] deg addK
set_option maxRecDepth 100000 in
set_option maxHeartbeats 1600000 in
theorem skDegree_any (F : Nat → Nat → Nat) (w : World) : Calls Try.prog 121 #[.agg (zb 512 (fl 64 F))] w fun e w' => e = .returned (.int .i64 (skD F)) ∧ Below w.heap.size w w' := by
 have HD := Lib.hid (show skD F = skN F 8 from rfl)
 have HZ := Lib.hid (skN_z F)
 have HS := Lib.hid (fun n (h : eqN 64 (F n) (fun _ => 0) = true) => skN_skip h)
 have HT := Lib.hid (fun n (h : eqN 64 (F n) (fun _ => 0) = false) => skN_stop h)
 go_enter Try.func121, Try.ntmps121
 go_upto_region 1 with (fail)
 obtain ⟨W1, hwo⟩ : ∃ v : World, v = (w.alloc (.cells (zb 512 (fl 64 F)) 46)) := ⟨_, rfl⟩
 have B0 : Blk W1 (w.heap.size) 512 46 (fl 64 F) := by subst hwo; have := (Blk.new w 512 46 (fl 64 F)); simpa using this
 have hb : Below w.heap.size w W1 := by subst hwo; exact ((Below.refl _ _).alloc (Nat.le_refl _) _)
 rw [← hwo]
 clear hwo
 go_wp2_with fail
 go_loopw [3] (fun c wr => ∃ q : Nat, c = .int .i64 ((q : Int) - 1) ∧ q ≤ 8 ∧ Hid (skN F 8 = skN F q) ∧ Below w.heap.size w wr ∧ Blk wr (w.heap.size) 512 46 (fl 64 F)) (fun c _ => (intOf c + 1).toNat)
 case atStart => exact ⟨8, rfl, Nat.le_refl _, Lib.hid rfl, hb, B0⟩
 case round =>
  clear hb B0
  obtain ⟨q, rfl, hq, hs, hb, B0⟩ := hrel
  by_cases h0 : q = 0
  · subst h0
    have HV := Lib.hid (show skD F = -1 by rw [HD.out, hs.out, HZ.out])
    go_wp2_with fail
    go_ret
    exact ⟨by rw [HV.out]; rfl, hb⟩
  · obtain ⟨q, rfl⟩ : ∃ k, q = k + 1 := ⟨q - 1, by omega⟩
    have hge : (0 : Int) ≤ ((q + 1 : Nat) : Int) - 1 := by omega
    have hge2 : ((q + 1 : Nat) : Int) - 1 ≥ 0 := by omega
    have hq8 : q < 8 := by omega
    have hgd := Try.noGuard28
    have heq := fun W => zeb (P := Try.prog) W 9998 28 5 64 (F q) (fun _ => 0) Try.underlying28 Try.underlying5 Try.size5
    cases hz : eqN 64 (F q) (fun _ => 0) with
    | true =>
     rw [hz] at heq
     go_wp2_with (first | (refine wpList_load_mid rfl 28 (.tmp 9) rfl _ (q * 64) rfl (bl 64 (F q)) _ (B0.sk hq8) Try.underlying28 rfl (by rw [zl]; exact Try.size28) ?_) | rw [← z64])
     go_roundw
     case rel => exact ⟨q, by go_num, by omega, Lib.hid (by rw [hs.out, HS.out q hz]), hb, B0⟩
     case measure => simp [intOf] <;> omega
    | false =>
     rw [hz] at heq
     go_wp2_with (first | (refine wpList_load_mid rfl 28 (.tmp 9) rfl _ (q * 64) rfl (bl 64 (F q)) _ (B0.sk hq8) Try.underlying28 rfl (by rw [zl]; exact Try.size28) ?_) | rw [← z64])
     have HV := Lib.hid (show skD F = (q : Int) by rw [HD.out, hs.out, HT.out q hz])
     go_ret
     exact ⟨by rw [HV.out, show ((q : Nat) : Int) = ((q + 1 : Nat) : Int) - 1 by omega]; rfl, hb⟩
set_option maxRecDepth 100000 in
set_option maxHeartbeats 1600000 in
theorem toSkew_any (F : Nat → Nat → Nat) (hF : ∀ i, byte (F i)) (w : World) : Calls Try.prog 40 #[.agg (zb 512 (fl 64 F))] w fun e w' => e = .returned (.agg (zb 512 (fl 64 F))) ∧ Below w.heap.size w w' := by
 have HTP := Lib.hid (fun i W => toPoly_any (F i) (hF i) W)
 have HU := Lib.hid (fun j (G : Nat → Nat → Nat) (hG : ∀ i, i < j → G i = F i) => show ∀ i, i < j + 1 → updR G j (F j) i = F i from fun i hi => by
  by_cases e : i = j
  · subst e; exact updR_same _ _ _
  · rw [updR_other e]; exact hG i (by omega))
 have HV := Lib.hid (fun (G : Nat → Nat → Nat) (hG : ∀ i, i < 8 → G i = F i) => zbc (n := 512) (fl_congr (n := 8) (c := 64) (F := G) (G := F) (by decide) (fun i hi j _ => by rw [hG i hi])))
 go_enter Try.func40, Try.ntmps40
 go_upto_region 1 with (fail)
 rw [← zero512]
 obtain ⟨W1, hwo⟩ : ∃ v : World, v = ((w.alloc (.cells (zb 512 (fl 64 F)) 53)).alloc (.cells (zb 512 (fl 64 (fun _ _ => 0))) 46)) := ⟨_, rfl⟩
 have B0 : Blk W1 (w.heap.size) 512 53 (fl 64 F) := by subst hwo; have := ((Blk.new w 512 53 (fl 64 F)).alloc (.cells (zb 512 (fl 64 (fun _ _ => 0))) 46)); simpa using this
 have B1 : Blk W1 (w.heap.size + 1) 512 46 (fl 64 (fun _ _ => 0)) := by subst hwo; have := (Blk.new (w.alloc (.cells (zb 512 (fl 64 F)) 53)) 512 46 (fl 64 (fun _ _ => 0))); simpa using this
 have hb : Below w.heap.size w W1 := by subst hwo; exact (((Below.refl _ _).alloc (Nat.le_refl _) _).alloc (by simp) _)
 rw [← hwo]
 clear hwo
 go_upto_region 2 with (first | rw [← z64] | rw [← zero512])
 have lt_B0 := B0.lt
 have lt_B1 := B1.lt
 have lhb := hb.size
 obtain ⟨W2, hwo, hzQ⟩ : ∃ v : World, v = (W1.alloc (.cells (zb 512 (fl 64 (fun _ _ => 0))) 46)) ∧ Blk v (w.heap.size) 512 53 (fl 64 F) ∧ Blk v (w.heap.size + 1) 512 46 (fl 64 (fun _ _ => 0)) ∧ Blk v (W1.heap.size) 512 46 (fl 64 (fun _ _ => 0)) ∧ Below w.heap.size w v := ⟨_, rfl, (B0.alloc (.cells (zb 512 (fl 64 (fun _ _ => 0))) 46)), (B1.alloc (.cells (zb 512 (fl 64 (fun _ _ => 0))) 46)), (Blk.new W1 512 46 (fl 64 (fun _ _ => 0))), (hb.alloc (by have := hb.size; simp; omega) (.cells (zb 512 (fl 64 (fun _ _ => 0))) 46))⟩
 rw [← hwo]
 clear hwo B0 B1 hb
 obtain ⟨B0, B1, B2, hb⟩ := hzQ
 obtain ⟨N1, hNN⟩ : ∃ n : Nat, n = W1.heap.size := ⟨_, rfl⟩
 rw [← hNN] at lt_B0 lt_B1 lhb B2 ⊢
 clear hNN
 have zN1_0 := lt_B0
 have zN1_1 := lt_B1
 have zN1 := lhb
 clear lt_B0 lt_B1 lhb
 try simp only [Act.put, pA, pB, pC]
 go_wp2_with fail
 go_loopw [4] (fun c wr => ∃ (j : Nat) (G : Nat → Nat → Nat), c = .int .i64 (j : Int) ∧ j ≤ 8 ∧ Hid (∀ i, i < j → G i = F i) ∧ Below w.heap.size w wr ∧ Blk wr (w.heap.size) 512 53 (fl 64 F) ∧ Blk wr (w.heap.size + 1) 512 46 (fl 64 (fun _ _ => 0)) ∧ Blk wr (N1) 512 46 (fl 64 G)) (fun c _ => 8 - (intOf c).toNat)
 case atStart => exact ⟨0, _, rfl, by omega, Lib.hid (fun i hi => absurd hi (Nat.not_lt_zero i)), hb, B0, B1, B2⟩
 case round =>
  clear hb B0 B1 B2
  obtain ⟨j, G, rfl, hj8, hG, hb, B0, B1, B2⟩ := hrel
  by_cases hj : j < 8
  · have hjI : (j : Int) < 8 := by omega
    have HU2 := Lib.hid (HU.out j G hG.out)
    go_upto_region 5 with (fail)
    have lt_B0 := B0.lt
    have lt_B1 := B1.lt
    have lt_B2 := B2.lt
    go_upto_region 4 with (first | rw [← z64] | (refine wpList_load_mid rfl 22 (.tmp 11) rfl _ (j * 64) rfl (bl 64 (F j)) _ ((B0).sk (by omega)) Try.underlying22 rfl (by rw [zl]; exact Try.size22) ?_) | (go_at_call 16; refine (HTP.out _ _).mono ?_; rintro e W3 ⟨rfl, hW3⟩; replace B0 := B0.zw hW3; replace B1 := B1.zw hW3; replace B2 := B2.zw hW3; replace hb := (hb).trans (hW3.mono (hb).size)) | (refine zss rfl 28 (.tmp 14) (.tmp 13) rfl _ (j) (F j) rfl rfl 46 _ (B2) (by omega) Try.size28 ?_; try simp only [Act.put]))
    obtain ⟨W4, hwo, hzQ⟩ : ∃ v : World, v = (W3.setRow (N1) (zb 512 (fl 64 (updR G j (F j))))) ∧ Blk v (w.heap.size) 512 53 (fl 64 F) ∧ Blk v (w.heap.size + 1) 512 46 (fl 64 (fun _ _ => 0)) ∧ Blk v (N1) 512 46 (fl 64 (updR G j (F j))) ∧ Below w.heap.size w v := ⟨_, rfl, (B0.rowOther (by omega)), (B1.rowOther (by omega)), (B2.row (fl 64 (updR G j (F j)))), (zr hb (by omega) _)⟩
    rw [← hwo]
    clear hwo B0 B1 B2 hb
    obtain ⟨B0, B1, B2, hb⟩ := hzQ
    try simp only [Act.put, pA, pB, pC]
    go_wp2_with fail
    go_roundw
    case rel => exact ⟨j + 1, _, by go_num, by omega, HU2, hb, B0, B1, B2⟩
    case measure => simp [intOf] <;> omega
  · have hjI : ¬ (j : Int) < 8 := by omega
    obtain rfl : j = 8 := by omega
    have HV2 := Lib.hid (HV.out G hG.out)
    go_upto_region 6 with (fail)
    have lt_B0 := B0.lt
    have lt_B1 := B1.lt
    have lt_B2 := B2.lt
    go_wp2_with (first | rw [← z64] | rw [← zero512] | (refine zla (.tmp 3) B2 Try.underlying46 Try.size46 ?_) | (refine zsr (.tmp 2) (.tmp 15) (fl 64 G) B1 Try.size46 ?_; try simp only [Act.put]))
    obtain ⟨W3, hwo, hzQ⟩ : ∃ v : World, v = (wr.setRow (w.heap.size + 1) (zb 512 (fl 64 G))) ∧ Blk v (w.heap.size) 512 53 (fl 64 F) ∧ Blk v (w.heap.size + 1) 512 46 (fl 64 G) ∧ Blk v (N1) 512 46 (fl 64 G) ∧ Below w.heap.size w v := ⟨_, rfl, (B0.rowOther (by omega)), (B1.row (fl 64 G)), (B2.rowOther (by omega)), (zr hb (by omega) _)⟩
    rw [← hwo]
    clear hwo B0 B1 B2 hb
    obtain ⟨B0, B1, B2, hb⟩ := hzQ
    try simp only [Act.put, pA, pB, pC]
    refine bodyPost_ret (results_any rfl _ _ _ 512 _ _ rfl B1 _ Try.underlying46 rfl Try.size46) rfl ⟨by rw [HV2.out], hb⟩
/-- sums, row by row -/
def skA (p : Nat) (F G : Nat → Nat → Nat) (k : Int) : Nat → Nat → Nat := fun i => addK p (F i) (G i) k
attribute [local irreducible] skA
end Go.Proofs.Ytelgefgphhebnaa
end
section
namespace Go.Proofs.Ytelgefgphhebnaa
open Rg
set_option linter.unusedVariables false
/-- the next leading coefficient of a quotient -/
def dvA (p : Nat) (m : Nat → Nat) (d : Nat) (F G : Nat → Nat → Nat) : Nat → Nat :=
 mmP p (F (skD F).toNat) (bzU p (frN p m (G (skD G).toNat) (((skD F).toNat - (skD G).toNat) % d)) m) m
/-- the term of the quotient -/
def dvT (p : Nat) (m : Nat → Nat) (d : Nat) (F G : Nat → Nat → Nat) : Nat → Nat → Nat := sng ((skD F).toNat - (skD G).toNat) (dvA p m d F G)
/-- what is left -/
def dvF (p : Nat) (m : Nat → Nat) (d : Nat) (F G : Nat → Nat → Nat) : Nat → Nat → Nat := skA p F (tmP p m d (dvT p m d F G) G) (-1)
theorem addK_rsd {p : Nat} {m f g : Nat → Nat} {c : Int} (hp : 0 < p) (h0 : 0 ≤ deg m) (hf : rsd p m f) (hg : rsd p m g) : rsd p m (addK p f g c) := ⟨fun k _ => addK_lt hp k, deg_addK hp h0 hf.2 hg.2⟩
end Go.Proofs.Ytelgefgphhebnaa
end
section
namespace Go.Proofs.Ytelgefgphhebnaa
open Go Go.RowKit
set_option linter.unusedVariables false
/-- the degree of the rows of a block, and 1 -/
def skAt (w : World) (b : Nat) : Nat := match w.heap[b]? with
 | some (.cells cs _ _) => (skD (fun i j => match cs[i * 64 + j]? with
  | some (.int _ v) => v.toNat
  | _ => 0) + 1).toNat
 | _ => 0
end Go.Proofs.Ytelgefgphhebnaa
end
section
namespace Go.Proofs.Ytelgefgphhebnaa
set_option linter.unusedVariables false
set_option linter.unusedSimpArgs false
/-- the same modulo p -/
def em (p a b : Int) : Prop := p ∣ a - b
/-- products over a list -/
def pl (l : List Nat) (f : Nat → Int) : Int := l.foldr (fun x a => f x * a) 1
/-- the leading place and coefficient -/
def ldc (p : Int) (f : Nat → Int) (n : Nat) (c : Int) : Prop := (∀ k, n < k → p ∣ f k) ∧ ¬ p ∣ c ∧ em p (f n) c
open Classical in
/-- the leading coefficient, 1 of nothing -/
noncomputable def lc (p : Int) (f : Nat → Int) : Int := if h : ∃ c, ∃ n, ldc p f n c then h.choose else 1
end Go.Proofs.Ytelgefgphhebnaa
end
section
namespace Go.Proofs.Ytelgefgphhebnaa
set_option linter.unusedVariables false
set_option linter.unusedSimpArgs false
/-- the digits of a number -/
def dg (p N : Nat) : Nat → Int := fun k => (ofN p N k : Int)
/-- the monic ones of lesser degrees -/
def ML (p : Nat) : Nat → List Nat
 | 0 => []
 | d + 1 => ML p d ++ monL p d
open Classical in
/-- the rest -/
noncomputable def rst (p d : Nat) (m f : Nat → Int) : Nat → Int := if h : ∃ g : Nat → Int, (∀ k, 0 ≤ g k ∧ g k < p) ∧ (∀ k, d ≤ k → g k = 0) ∧ rm p m f g then h.choose else zS
open Classical in
/-- the product of the leading coefficients -/
noncomputable def gs (p d : Nat) (m a : Nat → Int) : Int := pl (ML p d) fun N => lc p (rst p d m (mz a (dg p N)))
end Go.Proofs.Ytelgefgphhebnaa
end
section
namespace Go.Proofs.Ytelgefgphhebnaa
open Go Go.RowKit
set_option linter.unusedVariables false
set_option linter.unusedSimpArgs false
set_option maxRecDepth 100000 in
set_option maxHeartbeats 1600000 in
theorem eqRow_same (f g : Nat → Nat) (hfg : ∀ i, i < 6 → f i = g i) (w : World) : Calls Try.prog 78 #[.agg (zb 6 f), .agg (zb 6 g)] w fun e w' => e = .returned (.bool true) ∧ Below w.heap.size w w' := by
 rw [zbc (fun i hi => (hfg i hi).symm)]
 go_enter Try.func78, Try.ntmps78
 go_wp2_with fail
 clear hfg
 go_loopw [5] (fun i wr => ∃ k : Nat, k ≤ 6 ∧ i = .int .i64 (k : Int) ∧ Below w.heap.size w wr ∧ Blk wr w.heap.size 6 55 f ∧ Blk wr (w.heap.size + 1) 6 55 f) (fun i _ => 6 - (intOf i).toNat)
 case atStart =>
  refine ⟨0, by omega, rfl, ((Below.refl _ _).alloc (Nat.le_refl _) _).alloc (by simp) _, (Blk.new w _ _ _).alloc _, ?_⟩
  have := Blk.new (w.alloc (.cells (zb 6 f) 55)) 6 55 f; simpa using this
 case round =>
  obtain ⟨k, hk, rfl, hb, h0, h1⟩ := hrel
  by_cases hlt : k < 6
  · have c4 := h0.cell hlt
    have c5 := h1.cell hlt
    have hk0 : (0 : Int) ≤ (k : Int) := by omega
    have hk1 : (k : Int) < 6 := by omega
    have hne : ((f k : Int) != (f k : Int)) = false := by simp
    go_wp2_with fail
    go_quiet (fail)
    go_wp2_with fail
    go_roundw
    case rel => exact ⟨k + 1, by omega, by go_num, below_drewN' hb _, h0.drewN _, h1.drewN _⟩
    case measure => simp [intOf]; omega
  · go_wp2_with fail
    go_ret
    exact ⟨rfl, hb⟩

set_option maxRecDepth 100000 in
set_option maxHeartbeats 1600000 in
theorem eqSquare_same (F G : Nat → Nat → Nat) (hFG : ∀ i, i < 6 → ∀ j, j < 6 → F i j = G i j) (w : World) : Calls Try.prog 42 #[.agg (zb 36 (fl 6 F)), .agg (zb 36 (fl 6 G))] w fun e w' => e = .returned (.bool true) ∧ Below w.heap.size w w' := by
 have HE := Lib.hid (fun i (hi : i < 6) W => eqRow_same (F i) (G i) (hFG i hi) W)
 go_enter Try.func42, Try.ntmps42
 go_upto_region 1 with (fail)
 obtain ⟨W1, hwo⟩ : ∃ v : World, v = ((w.alloc (.cells (zb 36 (fl 6 F)) 57)).alloc (.cells (zb 36 (fl 6 G)) 57)) := ⟨_, rfl⟩
 have B0 : Blk W1 (w.heap.size) 36 57 (fl 6 F) := by subst hwo; have := ((Blk.new w 36 57 (fl 6 F)).alloc (.cells (zb 36 (fl 6 G)) 57)); simpa using this
 have B1 : Blk W1 (w.heap.size + 1) 36 57 (fl 6 G) := by subst hwo; have := (Blk.new (w.alloc (.cells (zb 36 (fl 6 F)) 57)) 36 57 (fl 6 G)); simpa using this
 have hb : Below w.heap.size w W1 := by subst hwo; exact (((Below.refl _ _).alloc (Nat.le_refl _) _).alloc (by simp) _)
 rw [← hwo]
 clear hwo
 go_wp2_with fail
 go_loopw [5] (fun c wr => ∃ j : Nat, c = .int .i64 (j : Int) ∧ j ≤ 6 ∧ Below w.heap.size w wr ∧ Blk wr (w.heap.size) 36 57 (fl 6 F) ∧ Blk wr (w.heap.size + 1) 36 57 (fl 6 G)) (fun c _ => 6 - (intOf c).toNat)
 case atStart => exact ⟨0, rfl, by omega, hb, B0, B1⟩
 case round =>
  clear hb B0 B1
  obtain ⟨j, rfl, hj8, hb, B0, B1⟩ := hrel
  by_cases hj : j < 6
  · have hjI : (j : Int) < 6 := by omega
    have HE2 := Lib.hid (HE.out j hj)
    go_upto_region 4 with (fail)
    refine zq Try.mixed (by kernel_rfl) (by kernel_rfl) (fun v => by (simp only [frL, Act.put, pA, pB, pC, Nat.reduceAdd, Nat.zero_add]; exact rfl))
     (fun L v W2 => Below wr.heap.size wr W2 ∧ VF L v [some (.int .i64 (j : Int)), some (.pointer (some ⟨w.heap.size, j * 6, none⟩)), some (.agg (zb 6 (F j))), some (.int .i64 (j : Int)), some (.pointer (some ⟨w.heap.size + 1, j * 6, none⟩)), some (.agg (zb 6 (G j))), some (.bool true), some (.bool false)]) ?_ ?_ ?_
    · intro v hv0
      exact ⟨(Below.refl _ wr).drew, VF.start⟩
    · refine (.cons rfl ?_ (.cons rfl ?_ (.cons rfl ?_ (.cons rfl ?_ (.cons rfl ?_ (.cons rfl ?_ (.cons rfl ?_ (.cons rfl ?_ (.nil _)))))))))
      all_goals intro L v W2 hd hn ⟨hY, V⟩ K hK
      · go_wp2_with fail
        exact hK _ (.int .i64 (j : Int)) _ (by simp only [Act.put, pA, pB, pC ]) ⟨hY, V.step 0 rfl⟩
      · have e0 := V.at (zdq hd 0 rfl) rfl
        go_wp2_with fail
        exact hK _ (.pointer (some ⟨w.heap.size, j * 6, none⟩)) _ (by simp only [Act.put, pA, pB, pC, e0]) ⟨hY, V.step 1 rfl⟩
      · have e1 := V.at (zdq hd 1 rfl) rfl
        refine wp_load_mid 55 _ rfl _ (j * 6) e1 _ _ (((B0.zw hY)).sq (i := j) (by omega)) Try.underlying55 rfl (by rw [zl]; exact Try.size55) ?_
        exact hK _ _ _ rfl ⟨hY, V.step 2 rfl⟩
      · go_wp2_with fail
        exact hK _ (.int .i64 (j : Int)) _ (by simp only [Act.put, pA, pB, pC ]) ⟨hY, V.step 3 rfl⟩
      · have e3 := V.at (zdq hd 3 rfl) rfl
        go_wp2_with fail
        exact hK _ (.pointer (some ⟨w.heap.size + 1, j * 6, none⟩)) _ (by simp only [Act.put, pA, pB, pC, e3]) ⟨hY, V.step 4 rfl⟩
      · have e4 := V.at (zdq hd 4 rfl) rfl
        refine wp_load_mid 55 _ rfl _ (j * 6) e4 _ _ (((B1.zw hY)).sq (i := j) (by omega)) Try.underlying55 rfl (by rw [zl]; exact Try.size55) ?_
        exact hK _ _ _ rfl ⟨hY, V.step 5 rfl⟩
      · have e2 := V.at (zdq hd 2 rfl) rfl
        have e5 := V.at (zdq hd 5 rfl) rfl
        go_wp2_with (go_at_call 78; refine (HE2.out _).mono ?_; rintro e wy ⟨rfl, hy⟩)
        exact hK _ (.bool true) _ (by simp only [Act.put, pA, pB, pC, e2, e5]) ⟨hY.trans (hy.mono hY.size), V.step 6 rfl⟩
      · have e6 := V.at (zdq hd 6 rfl) rfl
        go_wp2_with fail
        exact hK _ (.bool false) _ (by simp only [Act.put, pA, pB, pC, e6]) ⟨hY, V.step 7 rfl⟩
    · intro L v W2 hL ⟨hY, V⟩
      have e0 := V.at (hL 0 (by decide)) rfl
      have e1 := V.at (hL 1 (by decide)) rfl
      have e2 := V.at (hL 2 (by decide)) rfl
      have e3 := V.at (hL 3 (by decide)) rfl
      have e4 := V.at (hL 4 (by decide)) rfl
      have e5 := V.at (hL 5 (by decide)) rfl
      have e6 := V.at (hL 6 (by decide)) rfl
      have e7 := V.at (hL 7 (by decide)) rfl
      clear hL V
      replace B0 := B0.zw hY
      replace B1 := B1.zw hY
      replace hb := hb.trans (hY.mono hb.size)
      clear hY
      simp only [Exit.then, e0, e1, e2, e3, e4, e5, e6, e7]
      clear e0 e1 e2 e3 e4 e5 e6 e7
      go_wp2_with fail
      go_roundw
      case rel => exact ⟨j + 1, by go_num, by omega, hb, B0, B1⟩
      case measure => simp [intOf] <;> omega
  · have hjI : ¬ (j : Int) < 6 := by omega
    go_wp2_with fail
    go_ret
    exact ⟨rfl, hb⟩
set_option maxRecDepth 100000 in
set_option maxHeartbeats 1600000 in
theorem rowOfPoly_any (f : Nat → Nat) (w : World) : Calls Try.prog 123 #[.agg (zb 64 f)] w fun e w' => e = .returned (.agg (zb 6 f)) ∧ Below w.heap.size w w' := by
 have hsl : ∀ (b : Nat) (w : World), (Instr.sliceAt 28 (.pointer (some ⟨b, 0, none⟩)) none (some (.int .i64 6)) none).run Try.prog w = .ok (.slice (some ⟨b, 0, none⟩) 6 64) w := fun b w => by
  have hs := Try.size5
  simp only [Instr.sliceAt, Sem.run_bind, run_underlying Try.underlying28 w]
  simp [Instr.sliceBounds, Instr.sliceBound, Instr.sureAddr, asIntOf, sizeOf, typeInfo, Sem.run_bind, go_sem]
  cases hq : Try.prog.info? 5 with
  | none => rw [hq] at hs; cases hs
  | some i => rfl
 have har : ∀ (b : Nat) (w : World), (Instr.arrayAt 55 (.slice (some ⟨b, 0, none⟩) 6 64)).run Try.prog w = .ok (.pointer (some ⟨b, 0, none⟩)) w := fun b w => by
  simp [Instr.arrayAt, Sem.run_bind, run_underlying Try.underlying55 w]
 go_enter Try.func123, Try.ntmps123
 go_upto_region 1 with (fail)
 rw [← zero6]
 obtain ⟨W1, hwo⟩ : ∃ v : World, v = ((w.alloc (.cells (zb 64 (f)) 28)).alloc (.cells (zb 6 (fun _ => 0)) 55)) := ⟨_, rfl⟩
 have B0 : Blk W1 (w.heap.size) 64 28 (f) := by subst hwo; have := ((Blk.new w 64 28 (f)).alloc (.cells (zb 6 (fun _ => 0)) 55)); simpa using this
 have B1 : Blk W1 (w.heap.size + 1) 6 55 (fun _ => 0) := by subst hwo; have := (Blk.new (w.alloc (.cells (zb 64 (f)) 28)) 6 55 (fun _ => 0)); simpa using this
 have hb : Below w.heap.size w W1 := by subst hwo; exact (((Below.refl _ _).alloc (Nat.le_refl _) _).alloc (by simp) _)
 rw [← hwo]
 clear hwo
 have lt_B0 := B0.lt
 have lt_B1 := B1.lt
 go_wp2_with (first | rw [← z64] | rw [← zero6] | (refine wpList_load_mid rfl 55 (.tmp 4) rfl _ 0 rfl (bl 6 (f)) _ ((B0).mid (by omega) (fun k _ => by rw [Nat.zero_add])) Try.underlying55 rfl (by rw [zl]; exact Try.size55) ?_) | (refine zsr (.tmp 2) (.tmp 5) (f) B1 Try.size55 ?_; try simp only [Act.put]))
 obtain ⟨W2, hwo, hzQ⟩ : ∃ v : World, v = (W1.setRow (w.heap.size + 1) (zb 6 (f))) ∧ Blk v (w.heap.size) 64 28 (f) ∧ Blk v (w.heap.size + 1) 6 55 (f) ∧ Below w.heap.size w v := ⟨_, rfl, (B0.rowOther (by omega)), (B1.row (f)), (zr hb (by omega) _)⟩
 rw [← hwo]
 clear hwo B0 B1 hb
 obtain ⟨B0, B1, hb⟩ := hzQ
 try simp only [Act.put, pA, pB, pC]
 refine bodyPost_ret (results_any rfl _ _ _ 6 _ _ rfl B1 _ Try.underlying55 rfl Try.size55) rfl ⟨rfl, hb⟩
attribute [local irreducible] deg resP prd
set_option maxRecDepth 100000 in
set_option maxHeartbeats 1600000 in
theorem refuseUnless_ok (w : World) : Calls Try.prog 72 #[.bool true] w fun e w' => e = .returned (.tuple #[]) ∧ w = w' := by
 go_enter Try.func72, Try.ntmps72
 go_wp2_with fail
 first | exact bodyPost_end0 rfl rfl ⟨rfl, rfl⟩ | exact bodyPost_end (results_none rfl _ _ _) rfl ⟨rfl, rfl⟩
set_option maxRecDepth 100000 in
set_option maxHeartbeats 1600000 in
theorem refuseUnless_no (w : World) : Calls Try.prog 72 #[.bool false] w fun e w' => e = .panicked [{ v := .iface 130 (.int .i64 1), recovered := false }] ∧ w = w' := by
 go_enter Try.func72, Try.ntmps72
 go_wp2_with fail
 exact ⟨rfl, rfl, rfl⟩
attribute [local irreducible] okA monUp monB
set_option maxRecDepth 100000 in
set_option maxHeartbeats 1600000 in
theorem door_caughtS (b : Nat) (x : Int) (w : World) (hb : One w b 2 (.int .i64 x)) :
 CallsD Try.prog 120 #[.pointer (some ⟨b, 0, none⟩)] (.panicking ({ v := Value.iface 130 (.int .i64 1), recovered := false } :: [])) w fun e u' w' =>
  e = .returned (.tuple #[]) ∧ u' = .panicking ({ v := Value.iface 130 (.int .i64 1), recovered := true } :: []) ∧ w' = w.setCell ⟨b, 0, none⟩ (.int .i64 1) := by
 have hta : ∀ w : World, (Instr.typeAssert (.iface 130 (.int .i64 1)) 20 130 false).run Try.prog w = .ok (.int .i64 1) w := fun _ => by kernel_rfl
 have hc := hb.cell
 have hz := hb.frozen 0
 refine callsD_of_wpS Try.func120 rfl fun c₀ cs hu => ?_
 apply wpS_seq
 apply wpS_region
 simp [wpOpsS, go_sem, recoverD, hu, Try.ntmps120, Exit.thenS]
 refine wpS_of_wp ?_
 show Code.wp _ _ _ { tmps := #[.pointer (some ⟨b, 0, none⟩), Value.iface 130 (.int .i64 1), Value.iface 130 (.int .i64 1), undef, undef, undef, undef], defers := [] } _
 go_wp2_with fail
 cases c₀
 simp_all [bodyPostS, results, Try.results120]
set_option maxRecDepth 100000 in
set_option maxHeartbeats 1600000 in
theorem door_idleS (b : Nat) (w : World) :
 CallsD Try.prog 120 #[.pointer (some ⟨b, 0, none⟩)] .returning w fun e u' w' => e = .returned (.tuple #[]) ∧ u' = .returning ∧ w' = w := by
 refine callsD_of_wpS Try.func120 rfl fun c₀ cs hu => ?_
 apply wpS_seq
 apply wpS_region
 simp [wpOpsS, go_sem, recoverD, hu, Try.ntmps120, Exit.thenS]
 refine wpS_of_wp ?_
 show Code.wp _ _ _ { tmps := #[.pointer (some ⟨b, 0, none⟩), .nilIface, .nilIface, undef, undef, undef, undef], defers := [] } _
 go_wp2_with fail
 cases c₀
 simp_all [bodyPostS, results, Try.results120]
theorem results_anyc {P : Program} {fn : Func} {p q : Tmp} {ty ty2 : TypeId} (h : fn.results = #[.cell p ty, .cell q ty2]) (tmps : Array Value) (w : World) (b n : Nat) (t : TypeId) (f : Nat → Nat)
 (hp : tmps.getD p undef = .pointer (some ⟨b, 0, none⟩)) (hb : Blk w b n t f) (d : TypeDesc) (hu : P.underlying ty = some d) (hd : (match d with | .struct _ | .array _ _ => true | _ => false) = true) (hi : (P.info? ty).map (·.size) = some n) (b2 : Nat) (t2 : TypeId) (v : Value)
 (hq : tmps.getD q undef = .pointer (some ⟨b2, 0, none⟩)) (hb2 : One w b2 t2 v) (k : IntKind) (hu2 : P.underlying ty2 = some (.int k)) :
 (results fn tmps).run P w = .ok (.tuple #[.agg (zb n f), v]) w := by
 have hp' : tmps[p]?.getD undef = .pointer (some ⟨b, 0, none⟩) := by simpa using hp
 have hq' : tmps[q]?.getD undef = .pointer (some ⟨b2, 0, none⟩) := by simpa using hq
 have hc := hb2.cell
 have hagg : (isAgg ty2).run P w = .ok false w := by
  unfold isAgg
  rw [Sem.run_bind, run_underlying hu2 w]
  rfl
 have hl : (loadVar ty2 ⟨b2, 0, none⟩).run P w = .ok v w := by
  simp [loadVar, Sem.run_bind, hagg, go_sem, hc]
 simp [results, h, hp', hq', asAddr, run_loadVar_any w b n t ty f hb d hu hd hi, hl]
end Go.Proofs.Ytelgefgphhebnaa
end
section
namespace Go.Proofs.Ytelgefgphhebnaa
open Go Go.RowKit
set_option linter.unusedVariables false
set_option linter.unusedSimpArgs false
attribute [local irreducible] deg irB monUp monB okA
/-- p and m are a field -/
noncomputable def flV (p : Int) (f : Nat → Nat) : Bool := okA p f && (monUp 4 f && irB p.toNat f)
theorem flV_1 {p : Int} {f : Nat → Nat} (h : okA p f = false) : flV p f = false := by unfold flV; rw [h]; rfl
theorem flV_2 {p : Int} {f : Nat → Nat} (h : monUp 4 f = false) : flV p f = false := by unfold flV; rw [h]; simp
theorem flV_3 {n : Nat} {f : Nat → Nat} (h : okA (n : Int) f = true) (h2 : monUp 4 f = true) : flV (n : Int) f = irB n f := by unfold flV; rw [h, h2]; rfl
theorem irV_up {p : Nat} {f : Nat → Nat} (h : monUp 4 f = true) : irV p f = irB p f := by
 have h2 : monUp 12 f = true := by
  rw [monUp_B] at h ⊢
  simp only [Bool.and_eq_true, decide_eq_true_eq] at h ⊢
  exact ⟨h.1, by omega⟩
 unfold irV; rw [h2]; rfl
theorem okA_nat {p : Int} {f : Nat → Nat} (h : okA p f = true) : ∃ n : Nat, p = (n : Int) ∧ (n = 2 ∨ n = 3 ∨ n = 5 ∨ n = 7) ∧ ∀ k, k < 64 → f k < n := by
 obtain ⟨n, hn, n2, n7⟩ := okP_nat (okA_p h)
 refine ⟨n, hn, ?_, fun k hk => ?_⟩
 · rcases okP_cases (okA_p h) with e | e | e | e <;> omega
 · have := okA_lt h hk; omega
set_option maxRecDepth 100000 in
set_option maxHeartbeats 800000 in
theorem impl_IsField_any (p : Int) (f : Nat → Nat) (hf : byte f) (w : World) :
 Calls Try.prog 97 #[.int .i64 p, .agg (zb 64 f)] w fun e w' => e = .returned (.bool (flV p f)) ∧ Below w.heap.size w w' := by
 go_enter Try.func97, Try.ntmps97
 go_upto_region 1 with (fail)
 obtain ⟨W1, hwo⟩ : ∃ v : World, v = (w.alloc (.cells (zb 64 (f)) 28)) := ⟨_, rfl⟩
 have B0 : Blk W1 (w.heap.size) 64 28 (f) := by subst hwo; have := (Blk.new w 64 28 (f)); simpa using this
 have hb : Below w.heap.size w W1 := by subst hwo; exact ((Below.refl _ _).alloc (Nat.le_refl _) _)
 rw [← hwo]
 clear hwo
 cases ho : okA p f with
 | false =>
  have HV := Lib.hid (flV_1 ho)
  go_wp2_with (first | (refine zla (.tmp 3) B0 Try.underlying28 Try.size28 ?_) | (go_at_call 136; refine (IsPoly_any _ f hf _).mono ?_; rintro e W2 ⟨rfl, hW2⟩; replace B0 := B0.zw hW2; replace hb := (hb).trans (hW2.mono (hb).size); try rw [ho]))
  go_ret
  exact ⟨by rw [HV.out]; rfl, hb⟩
 | true =>
  obtain ⟨n, rfl, hpr, lf⟩ := okA_nat ho
  cases hm : monUp 4 f with
  | false =>
   have HV := Lib.hid (flV_2 (p := (n : Int)) hm)
   go_wp2_with (first | (refine zla (.tmp 3) B0 Try.underlying28 Try.size28 ?_) | (go_at_call 136; refine (IsPoly_any _ f hf _).mono ?_; rintro e W2 ⟨rfl, hW2⟩; replace B0 := B0.zw hW2; replace hb := (hb).trans (hW2.mono (hb).size); try rw [ho]) | (refine zlg rfl 28 (.tmp 3) rfl _ rfl 64 28 _ (B0) _ Try.underlying28 rfl Try.size28 ?_) | (go_at_call 137; refine (isMonicUpTo_any 4 f hf _ (by decide) (by decide)).mono ?_; rintro e W3 ⟨rfl, hW3⟩; replace B0 := B0.zw hW3; replace hb := (hb).trans (hW3.mono (hb).size); try rw [hm]))
   go_ret
   exact ⟨by rw [HV.out]; rfl, hb⟩
  | true =>
   have HV := Lib.hid (flV_3 ho hm)
   have HI := Lib.hid (fun W => isIrreducible_any n f W hpr lf)
   rw [irV_up hm] at HI
   go_wp2_with (first | (refine zla (.tmp 3) B0 Try.underlying28 Try.size28 ?_) | (go_at_call 136; refine (IsPoly_any _ f hf _).mono ?_; rintro e W2 ⟨rfl, hW2⟩; replace B0 := B0.zw hW2; replace hb := (hb).trans (hW2.mono (hb).size); try rw [ho]) | (refine zlg rfl 28 (.tmp 3) rfl _ rfl 64 28 _ (B0) _ Try.underlying28 rfl Try.size28 ?_) | (go_at_call 137; refine (isMonicUpTo_any 4 f hf _ (by decide) (by decide)).mono ?_; rintro e W3 ⟨rfl, hW3⟩; replace B0 := B0.zw hW3; replace hb := (hb).trans (hW3.mono (hb).size); try rw [hm]) | (refine zlg rfl 28 (.tmp 3) rfl _ rfl 64 28 _ (B0) _ Try.underlying28 rfl Try.size28 ?_) | (go_at_call 138; refine (HI.out _).mono ?_; rintro e W4 ⟨rfl, hW4⟩; replace B0 := B0.zw hW4; replace hb := (hb).trans (hW4.mono (hb).size)))
   go_ret
   exact ⟨by rw [HV.out]; rfl, hb⟩
set_option maxRecDepth 100000 in
set_option maxHeartbeats 800000 in
theorem l03Field_any (p : Int) (f : Nat → Nat) (hf : byte f) (w : World) :
 Calls Try.prog 94 #[.int .i64 p, .agg (zb 64 f)] w fun e w' => e = .returned (.bool (flV p f)) ∧ Below w.heap.size w w' := by
 go_enter Try.func94, Try.ntmps94
 go_upto_region 1 with (fail)
 obtain ⟨W1, hwo⟩ : ∃ v : World, v = (w.alloc (.cells (zb 64 (f)) 28)) := ⟨_, rfl⟩
 have B0 : Blk W1 (w.heap.size) 64 28 (f) := by subst hwo; have := (Blk.new w 64 28 (f)); simpa using this
 have hb : Below w.heap.size w W1 := by subst hwo; exact ((Below.refl _ _).alloc (Nat.le_refl _) _)
 rw [← hwo]
 clear hwo
 cases ho : okA p f with
 | false =>
  have HV := Lib.hid (flV_1 ho)
  go_wp2_with (first | (refine zla (.tmp 3) B0 Try.underlying28 Try.size28 ?_) | (go_at_call 133; refine (l01Is_any _ f hf _).mono ?_; rintro e W2 ⟨rfl, hW2⟩; replace B0 := B0.zw hW2; replace hb := (hb).trans (hW2.mono (hb).size); try rw [ho]))
  go_ret
  exact ⟨by rw [HV.out]; rfl, hb⟩
 | true =>
  obtain ⟨n, rfl, hpr, lf⟩ := okA_nat ho
  have hmB := monUp_B (c := 4) (f := f)
  cases hm : monB f with
  | false =>
   have HV := Lib.hid (flV_2 (p := (n : Int)) (by rw [hmB, hm]; rfl))
   clear hmB
   go_wp2_with (first | (refine zla (.tmp 3) B0 Try.underlying28 Try.size28 ?_) | (go_at_call 133; refine (l01Is_any _ f hf _).mono ?_; rintro e W2 ⟨rfl, hW2⟩; replace B0 := B0.zw hW2; replace hb := (hb).trans (hW2.mono (hb).size); try rw [ho]) | (refine zlg rfl 28 (.tmp 3) rfl _ rfl 64 28 _ (B0) _ Try.underlying28 rfl Try.size28 ?_) | (go_at_call 134; refine (l01Monic_any f hf _).mono ?_; rintro e W3 ⟨rfl, hW3⟩; replace B0 := B0.zw hW3; replace hb := (hb).trans (hW3.mono (hb).size); try rw [hm]))
   go_ret
   exact ⟨by rw [HV.out]; rfl, hb⟩
  | true =>
   by_cases hr : 1 ≤ deg f ∧ deg f ≤ 4
   · have HV := Lib.hid (flV_3 ho (by rw [hmB, hm]; simp; omega))
     have hmm := hm
     unfold monB at hmm
     simp only [decide_eq_true_eq] at hmm
     obtain ⟨d, hd⟩ : ∃ d : Nat, deg f = (d : Int) := ⟨(deg f).toNat, by omega⟩
     have hmon : mon f d := ⟨hd, by have := hmm.2; rwa [hd, Int.toNat_natCast] at this⟩
     have HI := Lib.hid (fun W => l01Irreducible_any n f d W hpr lf hmon (by omega))
     clear hmm hmon hmB hd
     go_wp2_with (first | (refine zla (.tmp 3) B0 Try.underlying28 Try.size28 ?_) | (go_at_call 133; refine (l01Is_any _ f hf _).mono ?_; rintro e W2 ⟨rfl, hW2⟩; replace B0 := B0.zw hW2; replace hb := (hb).trans (hW2.mono (hb).size); try rw [ho]) | (refine zlg rfl 28 (.tmp 3) rfl _ rfl 64 28 _ (B0) _ Try.underlying28 rfl Try.size28 ?_) | (go_at_call 134; refine (l01Monic_any f hf _).mono ?_; rintro e W3 ⟨rfl, hW3⟩; replace B0 := B0.zw hW3; replace hb := (hb).trans (hW3.mono (hb).size); try rw [hm]) | (refine zlg rfl 28 (.tmp 3) rfl _ rfl 64 28 _ (B0) _ Try.underlying28 rfl Try.size28 ?_) | (go_at_call 106; refine (l01Deg_any f _).mono ?_; rintro e W4 ⟨rfl, hW4⟩; replace B0 := B0.zw hW4; replace hb := (hb).trans (hW4.mono (hb).size)) | (go_at_call 103; refine (l01In_any _ _ _ _).mono ?_; rintro e wS ⟨rfl, rfl⟩; rw [show decide ((1 : Int) ≤ deg f ∧ deg f ≤ 4) = true by simp; omega]) | (refine zlg rfl 28 (.tmp 3) rfl _ rfl 64 28 _ (B0) _ Try.underlying28 rfl Try.size28 ?_) | (go_at_call 135; refine (HI.out _).mono ?_; rintro e W5 ⟨rfl, hW5⟩; replace B0 := B0.zw hW5; replace hb := (hb).trans (hW5.mono (hb).size)))
     go_ret
     exact ⟨by rw [HV.out]; rfl, hb⟩
   · have HV := Lib.hid (flV_2 (p := (n : Int)) (by rw [hmB, hm]; simp; omega))
     clear hmB
     go_wp2_with (first | (refine zla (.tmp 3) B0 Try.underlying28 Try.size28 ?_) | (go_at_call 133; refine (l01Is_any _ f hf _).mono ?_; rintro e W2 ⟨rfl, hW2⟩; replace B0 := B0.zw hW2; replace hb := (hb).trans (hW2.mono (hb).size); try rw [ho]) | (refine zlg rfl 28 (.tmp 3) rfl _ rfl 64 28 _ (B0) _ Try.underlying28 rfl Try.size28 ?_) | (go_at_call 134; refine (l01Monic_any f hf _).mono ?_; rintro e W3 ⟨rfl, hW3⟩; replace B0 := B0.zw hW3; replace hb := (hb).trans (hW3.mono (hb).size); try rw [hm]) | (refine zlg rfl 28 (.tmp 3) rfl _ rfl 64 28 _ (B0) _ Try.underlying28 rfl Try.size28 ?_) | (go_at_call 106; refine (l01Deg_any f _).mono ?_; rintro e W4 ⟨rfl, hW4⟩; replace B0 := B0.zw hW4; replace hb := (hb).trans (hW4.mono (hb).size)) | (go_at_call 103; refine (l01In_any _ _ _ _).mono ?_; rintro e wS ⟨rfl, rfl⟩; rw [show decide ((1 : Int) ≤ deg f ∧ deg f ≤ 4) = false by simp; omega]))
     go_ret
     exact ⟨by rw [HV.out]; rfl, hb⟩
end Go.Proofs.Ytelgefgphhebnaa
end
