/-
  What the rows of this claim rest on: arrays of bytes, walks of the functions, plain mathematics.
-/
import Derived.Test.YteloknnooebabaaZa5
import Derived.Handy
import Derived.Laws.MakeOwn
section
namespace Go.Proofs.Yteloknnooebabaa
open Go.RowKit
set_option linter.unusedVariables false
set_option linter.unusedSimpArgs false
attribute [local irreducible] deg invN dS qS stp stpr quoP resP oneP dvo
theorem dvo_yes {p f : Nat} {m a : Nat → Nat} (h : deg (resP p a m) < 0) : dvo p m (f + 1) a = ((dvo p m f (quoP p a m)).1 + 1, (dvo p m f (quoP p a m)).2) := by rw [dvo, if_pos h]
theorem dvo_stop {p f : Nat} {m a : Nat → Nat} (h : ¬ deg (resP p a m) < 0) : dvo p m (f + 1) a = (0, a) := by rw [dvo, if_neg h]
set_option maxRecDepth 100000 in
set_option maxHeartbeats 1600000 in
theorem dividedOut_any (p : Nat) (f m : Nat → Nat) (d : Nat) (w : World) (hpr : p = 2 ∨ p = 3 ∨ p = 5 ∨ p = 7) (lf : ∀ k, k < 64 → f k < p) (lm : ∀ k, k < 64 → m k < p) (hmon : mon m d) (hd1 : 1 ≤ d) (h0 : 0 ≤ deg f) :
 Calls Try.prog 233 #[.int .i64 (p : Int), .agg (zb 64 f), .agg (zb 64 m)] w fun e w' => e = .returned (.tuple #[.int .i64 ((dvo p m 64 f).1 : Int), .agg (zb 64 (dvo p m 64 f).2)]) ∧ Below w.heap.size w w' := by
 have p0 : 0 < p := by omega
 obtain ⟨fb1, fb2⟩ := zdb f
 have HLM := Lib.hid lm
 have HMON := Lib.hid hmon
 have hm0 : 0 ≤ deg m := by rw [hmon.1]; omega
 clear hmon
 have HLF := Lib.hid lf
 clear lf lm
 go_enter Try.func233, Try.ntmps233
 go_upto_region 1 with (fail)
 rw [← z64]
 obtain ⟨W1, hwo⟩ : ∃ v : World, v = (((w.alloc (.cells (zb 64 (f)) 24)).alloc (.cells (zb 64 (m)) 24)).alloc (.cells (zb 64 fun _ => 0) 24)) := ⟨_, rfl⟩
 have B0 : Blk W1 (w.heap.size) 64 24 (f) := by subst hwo; have := (((Blk.new w 64 24 (f)).alloc (.cells (zb 64 (m)) 24)).alloc (.cells (zb 64 fun _ => 0) 24)); simpa using this
 have B1 : Blk W1 (w.heap.size + 1) 64 24 (m) := by subst hwo; have := ((Blk.new (w.alloc (.cells (zb 64 (f)) 24)) 64 24 (m)).alloc (.cells (zb 64 fun _ => 0) 24)); simpa using this
 have B2 : Blk W1 (w.heap.size + 1 + 1) 64 24 (fun _ => 0) := by subst hwo; have := (Blk.new ((w.alloc (.cells (zb 64 (f)) 24)).alloc (.cells (zb 64 (m)) 24)) 64 24 (fun _ => 0)); simpa using this
 have hb : Below w.heap.size w W1 := by subst hwo; exact ((((Below.refl _ _).alloc (Nat.le_refl _) _).alloc (by simp) _).alloc (by simp; omega) _)
 rw [← hwo]
 clear hwo
 go_wp2_with fail
 go_loopw [8] (fun i wr => ∃ (fu i0 : Nat) (X : Nat → Nat), i0 + fu = 64 ∧ i = .int .i64 (i0 : Int) ∧ Hid (dvo p m 64 f = ((dvo p m fu X).1 + i0, (dvo p m fu X).2)) ∧ Hid (∀ k, k < 64 → X k < p) ∧ 0 ≤ deg X ∧ deg X < (fu : Int) ∧ Below w.heap.size w wr ∧ Blk wr (w.heap.size) 64 24 X ∧ Blk wr (w.heap.size + 1) 64 24 m ∧ Blk wr (w.heap.size + 1 + 1) 64 24 (fun _ => 0)) (fun i _ => 65 - (intOf i).toNat)
 case atStart => exact ⟨64, 0, f, rfl, rfl, Lib.hid rfl, HLF, h0, by omega, hb, B0, B1, B2⟩
 case round =>
  clear hb B0 B1 B2
  obtain ⟨fu, i0, X, hfu, rfl, hE, hX, hX0, hXf, hb, B0, B1, B2⟩ := hrel
  obtain ⟨fu, rfl⟩ : ∃ t, fu = t + 1 := ⟨fu - 1, by omega⟩
  have HQR := Lib.hid (fun W => quotientAndRest_any p X m W hpr hX.out HLM.out hm0)
  have i64 : i0 ≤ 63 := by omega
  have HFU := Lib.hid hfu
  clear hfu
  have lt_B0 := B0.lt
  have lt_B1 := B1.lt
  have lt_B2 := B2.lt
  go_upto_region 4 with (first | rw [← z64] | (refine zla (.tmp 4) B0 Try.underlying24 Try.size24 ?_) | (refine zla (.tmp 5) B1 Try.underlying24 Try.size24 ?_) | (go_at_call 136; refine (HQR.out _).mono ?_; rintro e W2 ⟨rfl, hW2⟩; replace B0 := B0.zw hW2; replace B1 := B1.zw hW2; replace B2 := B2.zw hW2; replace hb := (hb).trans (hW2.mono (hb).size)) | (refine wpList_store_blk rfl 24 (.tmp 9) (.tmp 18) rfl _ 64 (quoP p X m) rfl rfl 24 _ (((Blk.new W2 64 24 (fun _ => 0)).alloc (.cells (zb 64 fun _ => 0) 24))) Try.size24 ?_; try simp only [Act.put]) | (refine wpList_store_blk rfl 24 (.tmp 10) (.tmp 19) rfl _ 64 (resP p X m) rfl rfl 24 _ (((show Blk ((W2.alloc (.cells (zb 64 fun _ => 0) 24)).alloc (.cells (zb 64 fun _ => 0) 24)) (W2.heap.size + 1) 64 24 (fun _ => 0) by have := Blk.new (W2.alloc (.cells (zb 64 fun _ => 0) 24)) 64 24 (fun _ => 0); simpa using this).rowOther (by omega))) Try.size24 ?_; try simp only [Act.put]))
  have lt_B0 := B0.lt
  have lt_B1 := B1.lt
  have lt_B2 := B2.lt
  have lhb := hb.size
  obtain ⟨W3, hwo, hzQ⟩ : ∃ v : World, v = ((((W2.alloc (.cells (zb 64 fun _ => 0) 24)).alloc (.cells (zb 64 fun _ => 0) 24)).setRow (W2.heap.size) (zb 64 (quoP p X m))).setRow (W2.heap.size + 1) (zb 64 (resP p X m))) ∧ Blk v (w.heap.size) 64 24 (X) ∧ Blk v (w.heap.size + 1) 64 24 (m) ∧ Blk v (w.heap.size + 1 + 1) 64 24 (fun _ => 0) ∧ Blk v (W2.heap.size) 64 24 (quoP p X m) ∧ Blk v (W2.heap.size + 1) 64 24 (resP p X m) ∧ Below w.heap.size w v := ⟨_, rfl, ((((B0.alloc (.cells (zb 64 fun _ => 0) 24)).alloc (.cells (zb 64 fun _ => 0) 24)).rowOther (by omega)).rowOther (by omega)), ((((B1.alloc (.cells (zb 64 fun _ => 0) 24)).alloc (.cells (zb 64 fun _ => 0) 24)).rowOther (by omega)).rowOther (by omega)), ((((B2.alloc (.cells (zb 64 fun _ => 0) 24)).alloc (.cells (zb 64 fun _ => 0) 24)).rowOther (by omega)).rowOther (by omega)), ((((Blk.new W2 64 24 (fun _ => 0)).alloc (.cells (zb 64 fun _ => 0) 24)).row (quoP p X m)).rowOther (by omega)), (((show Blk ((W2.alloc (.cells (zb 64 fun _ => 0) 24)).alloc (.cells (zb 64 fun _ => 0) 24)) (W2.heap.size + 1) 64 24 (fun _ => 0) by have := Blk.new (W2.alloc (.cells (zb 64 fun _ => 0) 24)) 64 24 (fun _ => 0); simpa using this).rowOther (by omega)).row (resP p X m)), (zr (zr ((hb.alloc (by have := hb.size; simp; omega) (.cells (zb 64 fun _ => 0) 24)).alloc (by have := hb.size; simp; omega) (.cells (zb 64 fun _ => 0) 24)) (by omega) _) (by omega) _)⟩
  rw [← hwo]
  clear hwo B0 B1 B2 hb
  obtain ⟨B0, B1, B2, B3, B4, hb⟩ := hzQ
  obtain ⟨N1, hNN⟩ : ∃ n : Nat, n = W2.heap.size := ⟨_, rfl⟩
  rw [← hNN] at lt_B0 lt_B1 lt_B2 lhb B3 B4 ⊢
  clear hNN
  have zN1_0 := lt_B0
  have zN1_1 := lt_B1
  have zN1_2 := lt_B2
  have zN1 := lhb
  clear lt_B0 lt_B1 lt_B2 lhb
  try simp only [Act.put, pA, pB, pC]
  clear HQR
  by_cases hz : deg (resP p X m) < 0
  · have HV := Lib.hid (show dvo p m 64 f = ((dvo p m fu (quoP p X m)).1 + (i0 + 1), (dvo p m fu (quoP p X m)).2) by
     rw [hE.out, dvo_yes hz]; congr 1; omega)
    have hdv := (res_zero_iff hpr hX.out HLM.out hm0).1 hz
    have hqd := (quo_exact hpr hX.out HLM.out HMON.out hX0 hdv).2
    have hq0 : 0 ≤ deg (quoP p X m) := by
     by_cases hq : 0 ≤ deg (quoP p X m)
     · exact hq
     · exfalso
       obtain ⟨hc, _⟩ := quo_exact hpr hX.out HLM.out HMON.out hX0 hdv
       rw [lz_neg (by omega : deg (quoP p X m) < 0), zS_mz] at hc
       have hX00 : ∀ k, k < 64 → X k = 0 := fun k hk => by
        have h2 := lz_inj hX.out (g := fun _ => 0) (fun _ _ => p0) (cg_trans hc (cg_eq (lz_neg (f := fun _ => 0) (by rw [deg_neg_iff]; intros; rfl)).symm)) k hk
        exact h2
       have := deg_neg_iff.2 hX00
       omega
    clear hE
    have hgd := Try.noGuard24
    have heq := fun W => zeb (P := Try.prog) W 9998 24 5 64 (resP p X m) (fun _ => 0) Try.underlying24 Try.underlying5 Try.size5
    rw [eqN_zero, show decide (deg (resP p X m) < 0) = true by simp [hz]] at heq
    simp only [z64] at heq
    go_upto_region 6 with (first | (refine zla (.tmp 10) B4 Try.underlying24 Try.size24 ?_))
    clear heq hgd hz hdv
    have lt_B0 := B0.lt
    have lt_B1 := B1.lt
    have lt_B2 := B2.lt
    have lt_B3 := B3.lt
    have lt_B4 := B4.lt
    go_upto_region 2 with (first | rw [← z64] | (refine zla (.tmp 9) B3 Try.underlying24 Try.size24 ?_) | (refine zsr (.tmp 4) (.tmp 25) (quoP p X m) B0 Try.size24 ?_; try simp only [Act.put]))
    obtain ⟨W4, hwo, hzQ⟩ : ∃ v : World, v = (W3.setRow (w.heap.size) (zb 64 (quoP p X m))) ∧ Blk v (w.heap.size) 64 24 (quoP p X m) ∧ Blk v (w.heap.size + 1) 64 24 (m) ∧ Blk v (w.heap.size + 1 + 1) 64 24 (fun _ => 0) ∧ Blk v (N1) 64 24 (quoP p X m) ∧ Blk v (N1 + 1) 64 24 (resP p X m) ∧ Below w.heap.size w v := ⟨_, rfl, (B0.row (quoP p X m)), (B1.rowOther (by omega)), (B2.rowOther (by omega)), (B3.rowOther (by omega)), (B4.rowOther (by omega)), (zr hb (by omega) _)⟩
    rw [← hwo]
    clear hwo B0 B1 B2 B3 B4 hb
    obtain ⟨B0, B1, B2, B3, B4, hb⟩ := hzQ
    try simp only [Act.put, pA, pB, pC]
    go_wp2_with fail
    go_roundw
    case rel => exact ⟨fu, i0 + 1, quoP p X m, by have := HFU.out; omega, by go_num, HV, Lib.hid (fun k _ => quoP_lt p0 k), hq0, by omega, hb, B0, B1, B2⟩
    case measure => simp [intOf] <;> omega
  · have HV := Lib.hid (show dvo p m 64 f = (i0, X) by rw [hE.out, dvo_stop hz]; simp)
    clear hE
    have hgd := Try.noGuard24
    have heq := fun W => zeb (P := Try.prog) W 9998 24 5 64 (resP p X m) (fun _ => 0) Try.underlying24 Try.underlying5 Try.size5
    rw [eqN_zero, show decide (deg (resP p X m) < 0) = false by simp [hz]] at heq
    simp only [z64] at heq
    go_upto_region 5 with (first | (refine zla (.tmp 10) B4 Try.underlying24 Try.size24 ?_))
    clear heq hgd hz
    have lt_B0 : (w.heap.size) < W3.heap.size := B0.lt
    have lt_B1 : (w.heap.size + 1) < W3.heap.size := B1.lt
    have lt_B2 : (w.heap.size + 1 + 1) < W3.heap.size := B2.lt
    have lt_B3 : (N1) < W3.heap.size := B3.lt
    have lt_B4 : (N1 + 1) < W3.heap.size := B4.lt
    have hbase : w.heap.size ≤ W3.heap.size := hb.size
    refine zq Try.mixed (by kernel_rfl) (by kernel_rfl) (fun v => by (simp only [frL, Act.put, pA, pB, pC, Nat.reduceAdd, Nat.zero_add]; exact rfl))
     (fun L v W4 => Below w.heap.size w W4 ∧ W3.heap.size ≤ W4.heap.size ∧ Blk W4 (w.heap.size) 64 24 (X) ∧ Blk W4 (w.heap.size + 1) 64 24 (m) ∧ (∃ g, Blk W4 (w.heap.size + 1 + 1) 64 24 (g)) ∧ (L 3 = false → Blk W4 (w.heap.size + 1 + 1) 64 24 (fun _ => 0)) ∧ (L 3 = true → Blk W4 (w.heap.size + 1 + 1) 64 24 (X)) ∧ Blk W4 (N1) 64 24 (quoP p X m) ∧ Blk W4 (N1 + 1) 64 24 (resP p X m) ∧ (L 0 = true → v 0 = (.int .i64 (i0 : Int))) ∧ (L 1 = true → v 1 = (.agg (zb 64 (X)))) ∧ (L 2 = true → v 2 = (.int .i64 (i0 : Int)))) ?_ ?_ ?_
    · intro v hv0
      exact ⟨hb.drew, Nat.le_refl _, B0.drew, B1.drew, ⟨_, B2.drew⟩, (fun _ => B2.drew), (fun h => by cases h), B3.drew, B4.drew, (fun h => by cases h), (fun h => by cases h), (fun h => by cases h)⟩
    · refine (.cons rfl ?_ (.cons rfl ?_ (.cons rfl ?_ (.cons rfl ?_ (.nil _)))))
      all_goals intro L v W4 hd hn ⟨hB, hz, s0, s1, x2, q2, n2, s3, s4, h0, h1, h2⟩ K hK
      · go_wp2_with fail
        exact hK _ (.int .i64 (i0 : Int)) _ (by simp only [Act.put, pA, pB, pC ]) ⟨hB, hz, s0, s1, x2, q2, n2, s3, s4, (fun _ => rfl), h1, h2⟩
      · refine zlc s0 Try.underlying24 Try.size24 ?_
        exact hK _ _ _ rfl ⟨hB, hz, s0, s1, x2, q2, n2, s3, s4, h0, (fun _ => rfl), h2⟩
      · have e0 := h0 (zdq hd 0 rfl)
        go_wp2_with fail
        exact hK _ (.int .i64 (i0 : Int)) _ (by simp only [Act.put, pA, pB, pC, e0]) ⟨hB, hz, s0, s1, x2, q2, n2, s3, s4, h0, h1, (fun _ => rfl)⟩
      · have e1 := h1 (zdq hd 1 rfl)
        obtain ⟨gz, hk⟩ := x2
        refine zsb 24 _ _ rfl _ 64 (X) rfl e1 24 gz hk Try.size24 ?_
        exact hK _ undef _ rfl ⟨zr hB (by omega) _, (by simpa [World.setRow] using hz), (s0).rowOther (by omega), (s1).rowOther (by omega), ⟨_, hk.row _⟩, (fun h => absurd h (by simp [setL])), (fun _ => hk.row _), (s3).rowOther (by omega), (s4).rowOther (by omega), h0, h1, h2⟩
    · intro L v W4 hL ⟨hB, hz, s0, s1, x2, q2, n2, s3, s4, h0, h1, h2⟩
      have r2 := n2 (hL 3 (by decide))
      have e0 := h0 (hL 0 (by decide))
      have e1 := h1 (hL 1 (by decide))
      have e2 := h2 (hL 2 (by decide))
      clear hL x2 q2 n2 h0 h1 h2
      simp only [Exit.then, e0, e1, e2]
      clear e0 e1 e2
      replace B0 := s0
      clear s0
      replace B1 := s1
      clear s1
      replace B2 := r2
      clear r2
      replace B3 := s3
      clear s3
      replace B4 := s4
      clear s4
      replace hb := hB
      clear hB
      clear hbase hz lt_B0 lt_B1 lt_B2 lt_B3 lt_B4
      go_wp2_with fail
      refine bodyPost_ret (results_tb rfl _ _ _ 64 24 5 _ rfl B2 Try.underlying24 Try.size24) rfl ⟨by rw [HV.out]; rfl, hb⟩
end Go.Proofs.Yteloknnooebabaa
namespace Go.Proofs.Yteloknnooebabaa
open Go.RowKit
set_option linter.unusedVariables false
attribute [local irreducible] deg invN quoP resP
theorem pwz_pow (f : Nat → Int) (a : Nat) : ∀ b, pwz (pwz f a) b = pwz f (a * b)
 | 0 => by rw [Nat.mul_zero]; rfl
 | b + 1 => by
  show mz (pwz (pwz f a) b) (pwz f a) = _
  rw [pwz_pow f a b, ← pwz_add, Nat.mul_succ]
/-- the polynomial T -/
def TP : Nat → Nat := fun k => if k = 1 then 1 else 0
theorem TP_lt {p : Nat} (hp : 2 ≤ p) (k : Nat) : TP k < p := by unfold TP; split <;> omega
theorem lz_TP : lz TP = TS := by
 funext k; unfold lz TS
 by_cases hk : k < 64
 · rw [cut_in _ hk]; unfold TP; split <;> rfl
 · rw [zcz _ (by omega), if_neg (by omega)]; rfl
theorem rm_dv {p : Nat} {m c f g : Nat → Int} (h : rm p m f g) (hc : dv p c m) : rm p c f g := by
 obtain ⟨q, hq, hqm⟩ := h
 have h1 : dv p c (mz q m) := dv_mul hq hc
 obtain ⟨q2, hq2, h2⟩ := dv_ex.1 h1
 exact ⟨q2, hq2, cg_trans hqm h2⟩
theorem dv_iff_rm {p : Nat} {c f g : Nat → Int} : dv p c (sz f g) ↔ rm p c f g := by
 constructor
 · intro h; obtain ⟨q, hq, h2⟩ := dv_ex.1 h; exact ⟨q, hq, h2⟩
 · rintro ⟨q, hq, h2⟩; exact dv_ex.2 ⟨q, hq, h2⟩
theorem frob_next {p n : Nat} {X F : Nat → Nat} (hp : p = 2 ∨ p = 3 ∨ p = 5 ∨ p = 7) (hX : ∀ k, k < 64 → X k < p) (h0 : 0 ≤ deg X) (hF : ∀ k, k < 64 → F k < p) (h : rm p (lz X) (lz F) (pwz TS (p ^ n))) :
 rm p (lz X) (lz (pmP p F p X)) (pwz TS (p ^ (n + 1))) := by
 obtain ⟨_, _, h3⟩ := pmP_spec (k := p) hp hF hX h0 (Nat.lt_of_le_of_lt (by omega : p ≤ 7) (by decide))
 refine rm_trans h3 ?_
 have := rm_pwz (fin_lz F) (fin_pwz fin_TS _) h p
 rwa [pwz_pow, ← Nat.pow_succ] at this
/-- the common divisor of a stage -/
theorem stageC {p n : Nat} {X F : Nat → Nat} (hp : p = 2 ∨ p = 3 ∨ p = 5 ∨ p = 7) (hX : ∀ k, k < 64 → X k < p) (h0 : 0 ≤ deg X) (hF : ∀ k, k < 64 → F k < p) (h : rm p (lz X) (lz F) (pwz TS (p ^ n))) :
 (∀ k, bzD p X (subP p F TP) k < p) ∧ (∃ d, mon (bzD p X (subP p F TP)) d) ∧ ∀ c, dv p c (lz (bzD p X (subP p F TP))) ↔ (dv p c (lz X) ∧ dv p c (FS p n)) := by
 have p0 : 0 < p := by omega
 obtain ⟨b1, b2, _, b4⟩ := bz_all hp hX (fun k _ => subP_lt p0 k) (.inl h0)
 refine ⟨b1, b2, fun c => ?_⟩
 rw [b4 c]
 constructor
 · rintro ⟨h1, h2⟩
   refine ⟨h1, ?_⟩
   have h3 : dv p c (sz (lz F) TS) := (dv_congr (cg_trans (subP_cg (fun k _ => TP_lt (by omega) k)) (cg_eq (by rw [lz_TP]; funext k; unfold az cz sz; omega)))).1 h2
   have h4 := dv_iff_rm.1 h3
   exact dv_FS.2 (rm_trans (rm_symm (rm_dv h h1)) h4)
 · rintro ⟨h1, h2⟩
   refine ⟨h1, ?_⟩
   have h4 : rm p c (lz F) TS := rm_trans (rm_dv h h1) (dv_FS.1 h2)
   exact (dv_congr (cg_trans (subP_cg (fun k _ => TP_lt (by omega) k)) (cg_eq (by rw [lz_TP]; funext k; unfold az cz sz; omega)))).2 (dv_iff_rm.2 h4)
theorem foI_snoc {p x : Nat} : ∀ (pre : List Nat) (a : Nat → Nat), foI p (pre ++ [x]) a = ((foI p pre a).1 ++ [(x, (dvo p (ofN p x) 64 (foI p pre a).2).1)], (dvo p (ofN p x) 64 (foI p pre a).2).2)
 | [], a => rfl
 | N :: pre, a => by
  rw [List.cons_append, foI, foI_snoc pre, foI]
  rfl
theorem quo_nz {p d : Nat} {a m : Nat → Nat} (hp : p = 2 ∨ p = 3 ∨ p = 5 ∨ p = 7) (ha : ∀ k, k < 64 → a k < p) (hmp : ∀ k, k < 64 → m k < p) (hm : mon m d) (h0 : 0 ≤ deg a) (hz : deg (resP p a m) < 0) : 0 ≤ deg (quoP p a m) ∧ deg (quoP p a m) + (d : Int) = deg a := by
 have p0 : 0 < p := by omega
 have hdv := (res_zero_iff hp ha hmp (by rw [hm.1]; omega)).1 hz
 obtain ⟨hc, hd⟩ := quo_exact hp ha hmp hm h0 hdv
 refine ⟨?_, hd⟩
 by_cases hq : 0 ≤ deg (quoP p a m)
 · exact hq
 · exfalso
   rw [lz_neg (by omega : deg (quoP p a m) < 0), zS_mz] at hc
   have hX00 : ∀ k, k < 64 → a k = 0 := fun k hk =>
    lz_inj ha (g := fun _ => 0) (fun _ _ => p0) (cg_trans hc (cg_eq (lz_neg (f := fun _ => 0) (by rw [deg_neg_iff]; intros; rfl)).symm)) k hk
   have := deg_neg_iff.2 hX00
   omega
theorem dvo_ok {p d : Nat} {m : Nat → Nat} (hp : p = 2 ∨ p = 3 ∨ p = 5 ∨ p = 7) (hmp : ∀ k, k < 64 → m k < p) (hm : mon m d) : ∀ (f : Nat) (a : Nat → Nat), (∀ k, k < 64 → a k < p) → 0 ≤ deg a → (∀ k, k < 64 → (dvo p m f a).2 k < p) ∧ 0 ≤ deg (dvo p m f a).2 ∧ deg (dvo p m f a).2 ≤ deg a ∧ (dvo p m f a).1 ≤ f
 | 0, a, ha, h0 => ⟨ha, h0, by show deg a ≤ deg a; omega, Nat.le_refl _⟩
 | f + 1, a, ha, h0 => by
  by_cases hz : deg (resP p a m) < 0
  · rw [dvo, if_pos hz]
    obtain ⟨q1, q2⟩ := quo_nz hp ha hmp hm h0 hz
    obtain ⟨r1, r2, r3, r4⟩ := dvo_ok hp hmp hm f (quoP p a m) (fun k _ => quoP_lt (by omega) k) q1
    exact ⟨r1, r2, by show deg (dvo p m f (quoP p a m)).2 ≤ deg a; omega, by show (dvo p m f (quoP p a m)).1 + 1 ≤ f + 1; omega⟩
  · rw [dvo, if_neg hz]
    exact ⟨ha, h0, by show deg a ≤ deg a; omega, by show 0 ≤ f + 1; omega⟩
theorem foI_ok {p n : Nat} (hp : p = 2 ∨ p = 3 ∨ p = 5 ∨ p = 7) (hn : n < 64) : ∀ (ms : List Nat) (a : Nat → Nat), okL p n ms → (∀ k, k < 64 → a k < p) → 0 ≤ deg a → (∀ k, k < 64 → (foI p ms a).2 k < p) ∧ 0 ≤ deg (foI p ms a).2 ∧ deg (foI p ms a).2 ≤ deg a
 | [], a, _, ha, h0 => ⟨ha, h0, by show deg a ≤ deg a; omega⟩
 | N :: ms, a, hok, ha, h0 => by
  have hm := mon_ofN (by omega : 2 ≤ p) hn (hok N (by simp))
  obtain ⟨r1, r2, r3, _⟩ := dvo_ok (m := ofN p N) hp (fun k _ => ofN_lt (by omega) N k) hm 64 a ha h0
  obtain ⟨s1, s2, s3⟩ := foI_ok hp hn ms (dvo p (ofN p N) 64 a).2 (fun M hM => hok M (by simp [hM])) r1 r2
  exact ⟨s1, s2, by show deg (foI p ms (dvo p (ofN p N) 64 a).2).2 ≤ deg a; omega⟩
/-- one stage, all told -/
theorem stage_all {p n fu : Nat} {X F : Nat → Nat} (hp : p = 2 ∨ p = 3 ∨ p = 5 ∨ p = 7) (hn : 1 ≤ n) (hn2 : n < 64) (hX : ∀ k, k < 64 → X k < p) (h1 : 0 < deg X) (hl : lowf p n X) (hF : ∀ k, k < 64 → F k < p) (h : rm p (lz X) (lz F) (pwz TS (p ^ n))) :
 okL p n (eqf p n (monL p n) (bzD p X (subP p F TP))) ∧
 run p (fu + 1) n X = (foI p (eqf p n (monL p n) (bzD p X (subP p F TP))) X).1 ++ run p fu (n + 1) (foI p (eqf p n (monL p n) (bzD p X (subP p F TP))) X).2 ∧
 lowf p (n + 1) (foI p (eqf p n (monL p n) (bzD p X (subP p F TP))) X).2 ∧
 rm p (lz (foI p (eqf p n (monL p n) (bzD p X (subP p F TP))) X).2) (lz F) (pwz TS (p ^ n)) := by
 obtain ⟨c1, c2, c3⟩ := stageC hp hX (by omega) hF h
 obtain ⟨e1, e2⟩ := stage hp hn hn2 hX (by omega) hl c1 c2 c3
 obtain ⟨s1, s2, s3, s4, s5⟩ := foR_spec hp hn hn2 (monL p n) X (fun _ h => h) hX (by omega) hl
 refine ⟨e2, ?_, ?_, ?_⟩
 · rw [e1, run_s (by omega)]
 · rw [e1]; exact lowf_next (by omega) hl s4 s5
 · rw [e1]; exact rm_dv h s4
end Go.Proofs.Yteloknnooebabaa
namespace Go.Proofs.Yteloknnooebabaa
open Go Go.RowKit
set_option linter.unusedVariables false
set_option linter.unusedSimpArgs false
attribute [local irreducible] deg invN dS qS stp stpr quoP resP oneP eqS ofN dvo pmP eqf foI run bzD bzU bzW subP lowf monL TP
/-- the cells of a factor -/
def facC (f : Nat → Nat) (k : Nat) : List Value := bl 64 f ++ [.int .i64 (k : Int)]
theorem facC_len (f : Nat → Nat) (k : Nat) : (facC f k).length = 65 := by simp [facC, bl]
theorem facC_one (f : Nat → Nat) (k : Nat) : ∀ u ∈ facC f k, u.oneCell' = true := by
 intro u hu
 unfold facC at hu
 rcases List.mem_append.1 hu with h | h
 · exact bl_one u h
 · rw [List.mem_singleton] at h; rw [h]; rfl
theorem facC_all (f : Nat → Nat) (k : Nat) : (facC f k).toArray.all (·.oneCell') = true := Array.all_eq_true_iff_forall_mem.2 fun u hu => facC_one f k u (by simpa using hu)
theorem facC_at (f : Nat → Nat) (k : Nat) : (facC f k).toArray[64]? = some (.int .i64 (k : Int)) := by simp [facC, bl]
theorem facC_set (f : Nat → Nat) (k j : Nat) : (facC f k).toArray.setIfInBounds 64 (.int .i64 (j : Int)) = (facC f j).toArray := by
 unfold facC
 rw [List.setIfInBounds_toArray]
 congr 1
 rw [List.set_append_right _ _ (by rw [zl]; exact Nat.le_refl _)]
 simp [bl]
theorem facC_zero : (facC (fun _ => 0) 0).toArray = Try.zeroCells186 := by unfold facC bl; kernel_rfl
theorem built_T : Try.prog.built 24 [(0, .int .u8 0), (1, .int .u8 1)] = some (zb 64 TP) := by unfold zb bl; kernel_rfl
theorem built_fac (f : Nat → Nat) : Try.prog.built 186 [(0, .agg (zb 64 f))] = some (facC f 0).toArray := by unfold facC zb bl; kernel_rfl
theorem Try.infoFac : (Try.prog.info? 186).map (fun i => (i.zero, i.size, i.bytes)) = some (some (.agg (facC (fun _ => 0) 0).toArray), 65, 72) := by kernel_rfl
theorem Try.size186 : (Try.prog.info? 186).map (·.size) = some 65 := by kernel_rfl
theorem Try.elemFac : (Try.prog.info? 186).map (fun i => (i.size, i.zero.isSome)) = some (65, true) := by kernel_rfl
def facRows (p : Nat) (L : List (Nat × Nat)) : List (List Value) := L.map fun x => facC (ofN p x.1) x.2
theorem facRows_snoc (p : Nat) (L : List (Nat × Nat)) (x : Nat × Nat) : facRows p (L ++ [x]) = facRows p L ++ [facC (ofN p x.1) x.2] := by simp [facRows]
theorem facRows_len (p : Nat) (L : List (Nat × Nat)) : (facRows p L).length = L.length := by simp [facRows]
/-- the heap has at least n blocks -/
def SzG (n : Nat) (W : World) : Prop := n ≤ W.heap.size
theorem SzG.lt {n : Nat} {W : World} (h : SzG n W) : n ≤ W.heap.size := h
theorem SzG.below {n B : Nat} {W W' : World} (h : SzG n W) (hb : Below B W W') (_ : n ≤ W.heap.size) : SzG n W' := Nat.le_trans h hb.size
theorem SzG.zw {n : Nat} {W W' : World} (h : SzG n W) (hb : Below W.heap.size W W') : SzG n W' := SzG.below h hb (SzG.lt h)
theorem SzG.alloc {n : Nat} {W : World} (h : SzG n W) (o : Obj) : SzG n (W.alloc o) := h.below (zal _ _) h
theorem SzG.drew {n : Nat} {W : World} (h : SzG n W) : SzG n W.drew := h
theorem SzG.rowOther {n k : Nat} {W : World} {cs : Array Value} (h : SzG n W) (_ : 0 ≤ k) : SzG n (W.setRow k cs) := by unfold SzG at *; simpa [World.setRow] using h
theorem SzG.setOther {n : Nat} {W : World} {a : Addr} {v : Value} (h : SzG n W) (_ : 0 ≤ a.block) : SzG n (W.setCell a v) := by unfold SzG at *; simpa using h
/-- what factorsOf hands back -/
def FaF (p : Nat) (f : Nat → Nat) (w : World) (e : Ending) (w' : World) : Prop := ∃ v, e = .returned v ∧ SlL w' w.heap.size 186 65 v (facRows p (run p 64 1 f)) ∧ Below w.heap.size w w'
theorem eqf_len {p n : Nat} (ms : List Nat) (a : Nat → Nat) : (eqf p n ms a).length ≤ ms.length + 1 := by
 rw [eqf_eqS, List.length_append]
 have := eqS_len (p := p) (n := n) ms a
 split <;> simp <;> omega
theorem foI_take {p j x : Nat} {M : List Nat} {a : Nat → Nat} (h : M[j]? = some x) : foI p (M.take (j + 1)) a = ((foI p (M.take j) a).1 ++ [(x, (dvo p (ofN p x) 64 (foI p (M.take j) a).2).1)], (dvo p (ofN p x) 64 (foI p (M.take j) a).2).2) := by
 have e : M.take (j + 1) = M.take j ++ [x] := by
  rw [List.take_add_one, h]; rfl
 rw [e, foI_snoc]
set_option maxRecDepth 100000 in
set_option maxHeartbeats 12800000 in
theorem factorsOf_any (p : Nat) (f : Nat → Nat) (w : World) (hpr : p = 2 ∨ p = 3 ∨ p = 5 ∨ p = 7) (lf : ∀ k, k < 64 → f k < p) (h0 : 0 ≤ deg f) (h12 : deg f ≤ 12) :
 Calls Try.prog 211 #[.int .i64 (p : Int), .agg (zb 64 f)] w (FaF p f w) := by
 have p2 : 2 ≤ p := by omega
 have p7 : p ≤ 7 := by omega
 have p0 : 0 < p := by omega
 have HLF := Lib.hid lf
 have HTP := Lib.hid (TP_lt p2)
 clear lf
 go_enter Try.func211, Try.ntmps211
 go_upto_region 1 with (fail)
 obtain ⟨W1, hwo⟩ : ∃ v : World, v = (w.alloc (.cells (zb 64 (f)) 24)) := ⟨_, rfl⟩
 have B0 : Blk W1 (w.heap.size) 64 24 (f) := by subst hwo; have := (Blk.new w 64 24 (f)); simpa using this
 have hb : Below w.heap.size w W1 := by subst hwo; exact ((Below.refl _ _).alloc (Nat.le_refl _) _)
 rw [← hwo]
 clear hwo
 go_upto_region 2 with (fail)
 have lt_B0 := B0.lt
 go_upto_region 3 with (first | rw [← z64] | (refine zbo rfl 24 _ rfl (zb 64 TP) (by rw [Array.toList_map]; exact built_T) ?_) | (refine wpList_store_blk rfl 24 (.tmp 6) (.tmp 15) rfl _ 64 (TP) rfl rfl 24 _ ((Blk.new W1 64 24 (fun _ => 0))) Try.size24 ?_; try simp only [Act.put]))
 have lt_B0 := B0.lt
 have lhb := hb.size
 obtain ⟨W2, hwo, hzQ⟩ : ∃ v : World, v = ((W1.alloc (.cells (zb 64 fun _ => 0) 24)).setRow (W1.heap.size) (zb 64 (TP))) ∧ Blk v (w.heap.size) 64 24 (f) ∧ Blk v (W1.heap.size) 64 24 (TP) ∧ Below w.heap.size w v := ⟨_, rfl, ((B0.alloc (.cells (zb 64 fun _ => 0) 24)).rowOther (by omega)), ((Blk.new W1 64 24 (fun _ => 0)).row (TP)), (zr (hb.alloc (by have := hb.size; simp; omega) (.cells (zb 64 fun _ => 0) 24)) (by omega) _)⟩
 rw [← hwo]
 clear hwo B0 hb
 obtain ⟨B0, B1, hb⟩ := hzQ
 obtain ⟨N1, hNN⟩ : ∃ n : Nat, n = W1.heap.size := ⟨_, rfl⟩
 rw [← hNN] at lt_B0 lhb B1 ⊢
 clear hNN
 have zN1_0 := lt_B0
 have zN1 := lhb
 clear lt_B0 lhb
 try simp only [Act.put, pA, pB, pC]
 have lt_B0 := B0.lt
 have lt_B1 := B1.lt
 go_upto_region 4 with (first | rw [← z64] | (refine zla (.tmp 6) B1 Try.underlying24 Try.size24 ?_) | (refine wpList_store_blk rfl 24 (.tmp 7) (.tmp 16) rfl _ 64 (TP) rfl rfl 24 _ ((Blk.new W2 64 24 (fun _ => 0))) Try.size24 ?_; try simp only [Act.put]))
 have lt_B0 := B0.lt
 have lt_B1 := B1.lt
 have lhb := hb.size
 obtain ⟨W3, hwo, hzQ⟩ : ∃ v : World, v = ((W2.alloc (.cells (zb 64 fun _ => 0) 24)).setRow (W2.heap.size) (zb 64 (TP))) ∧ Blk v (w.heap.size) 64 24 (f) ∧ Blk v (N1) 64 24 (TP) ∧ Blk v (W2.heap.size) 64 24 (TP) ∧ Below w.heap.size w v := ⟨_, rfl, ((B0.alloc (.cells (zb 64 fun _ => 0) 24)).rowOther (by omega)), ((B1.alloc (.cells (zb 64 fun _ => 0) 24)).rowOther (by omega)), ((Blk.new W2 64 24 (fun _ => 0)).row (TP)), (zr (hb.alloc (by have := hb.size; simp; omega) (.cells (zb 64 fun _ => 0) 24)) (by omega) _)⟩
 rw [← hwo]
 clear hwo B0 B1 hb
 obtain ⟨B0, B1, B2, hb⟩ := hzQ
 obtain ⟨N2, hNN⟩ : ∃ n : Nat, n = W2.heap.size := ⟨_, rfl⟩
 rw [← hNN] at lt_B0 lt_B1 lhb B2 ⊢
 clear hNN
 have zN2_0 := lt_B0
 have zN2_1 := lt_B1
 have zN2 := lhb
 clear lt_B0 lt_B1 lhb
 try simp only [Act.put, pA, pB, pC]
 go_wp2_with fail
 obtain ⟨base, hbase0⟩ : ∃ n, n = W3.heap.size := ⟨_, rfl⟩
 have yb_0 : (w.heap.size) < base := by rw [hbase0]; exact B0.lt
 have yb_1 : (N1) < base := by rw [hbase0]; exact B1.lt
 have yb_2 : (N2) < base := by rw [hbase0]; exact B2.lt
 have ybw : w.heap.size ≤ base := by rw [hbase0]; exact hb.size
 have hS0 : SlL W3 base 186 65 (.slice none 0 0) (facRows p []) := SlL.nil _ _ (by omega)
 clear hbase0
 go_loopw [5, 8] (fun s5 i wr => ∃ (fu n : Nat) (X Fr : Nat → Nat) (LL : List (Nat × Nat)) (lst : Value), lst = s5 ∧ n + fu = 64 ∧ i = .int .i64 ((n : Int) + 1) ∧ Hid (run p 64 1 f = LL ++ run p fu (n + 1) X) ∧ Hid (∀ k, k < 64 → X k < p) ∧ 0 ≤ deg X ∧ deg X ≤ 12 ∧ Hid (lowf p (n + 1) X) ∧ Hid (∀ k, k < 64 → Fr k < p) ∧ Hid (rm p (lz X) (lz Fr) (pwz TS (p ^ n))) ∧ LL.length ≤ n * 13841287202 ∧ Below w.heap.size w wr ∧ Blk wr (w.heap.size) 64 24 X ∧ Blk wr (N1) 64 24 TP ∧ Blk wr (N2) 64 24 Fr ∧ SlL wr base 186 65 lst (facRows p LL)) (fun _ i _ => 80 - (intOf i).toNat)
 case atStart => exact ⟨64, 0, f, TP, [], _, rfl, rfl, rfl, Lib.hid rfl, HLF, h0, h12, Lib.hid (lowf_one f), Lib.hid (fun k _ => HTP.out k), Lib.hid (by rw [lz_TP, Nat.pow_zero, show pwz TS 1 = TS from mz_one TS]; exact rm_refl _ _ _), by simp, hb, B0, B1, B2, hS0⟩
 case round =>
  clear hb hS0 B0 B1 B2
  obtain ⟨fu, n, X, Fr, LL, lst, rfl, hfu, rfl, hE, hX, hX0, hX12, hlow, hFr, hrm, hLL, hb, B0, B1, B2, hS⟩ := hrel
  have B3 := hS.top
  have B4 : SzG wr.heap.size wr := Nat.le_refl _
  clear hS
  have HFU := Lib.hid hfu
  clear hfu
  by_cases hd : deg X ≤ 0
  · have HV := Lib.hid (show run p 64 1 f = LL by rw [hE.out, run_z hd, List.append_nil])
    have hd0 : ¬ 0 < deg X := by omega
    clear hE hd
    go_upto_region 16 with (first | (refine zla (.tmp 3) B0 Try.underlying24 Try.size24 ?_) | (go_at_call 150; refine (degree_any X _).mono ?_; rintro e W4 ⟨rfl, hW4⟩; replace B0 := B0.zw hW4; replace B1 := B1.zw hW4; replace B2 := B2.zw hW4; replace B3 := B3.zw hW4; replace B4 := B4.zw hW4; replace hb := (hb).trans (hW4.mono (hb).size)))
    go_wp2_with fail
    go_ret
    exact ⟨lst, rfl, by rw [HV.out]; exact B3.1.base ybw, hb⟩
  · have hd0 : 0 < deg X := by omega
    clear hd
    have hn12 : (n : Int) + 1 ≤ deg X := low_deg hpr hX.out (by omega) hlow.out
    have hn11 : n ≤ 11 := by omega
    obtain ⟨fu, rfl⟩ : ∃ t, fu = t + 1 := ⟨fu - 1, by have := HFU.out; omega⟩
    have HPM := Lib.hid (fun W => powerModulo_any p Fr p X W hpr hFr.out hX.out hX0 (by omega))
    have HDF := Lib.hid (show ∀ W, Calls Try.prog 135 #[.int .i64 (p : Int), .agg (zb 64 (pmP p Fr p X)), .agg (zb 64 TP)] W fun e w' => e = .returned (.agg (zb 64 (subP p (pmP p Fr p X) TP))) ∧ Below W.heap.size W w' from fun W => differenceS_any p (pmP p Fr p X) TP W p2 p7 (pmP_spec hpr hFr.out hX.out hX0 (Nat.lt_of_le_of_lt p7 (by decide))).1 (fun k _ => HTP.out k))
    have HBZ := Lib.hid (fun W => bezout_any p X (subP p (pmP p Fr p X) TP) W hpr hX.out (fun k _ => subP_lt p0 k) (.inl hX0))
    have HF2 := Lib.hid (pmP_spec hpr hFr.out hX.out hX0 (Nat.lt_of_le_of_lt p7 (by decide))).1
    have HR2 := Lib.hid (frob_next hpr hX.out hX0 hFr.out hrm.out)
    obtain ⟨M, hM⟩ : ∃ M, M = eqf p (n + 1) (monL p (n + 1)) (bzD p X (subP p (pmP p Fr p X) TP)) := ⟨_, rfl⟩
    have HST := Lib.hid (show okL p (n + 1) M ∧ run p (fu + 1) (n + 1) X = (foI p M X).1 ++ run p fu (n + 1 + 1) (foI p M X).2 ∧ lowf p (n + 1 + 1) (foI p M X).2 ∧ rm p (lz (foI p M X).2) (lz (pmP p Fr p X)) (pwz TS (p ^ (n + 1))) by rw [hM]; exact stage_all hpr (by omega) (by omega) hX.out hd0 hlow.out HF2.out HR2.out)
    have HEQ := Lib.hid (show ∀ W, Calls Try.prog 232 #[.int .i64 (p : Int), .agg (zb 64 (bzD p X (subP p (pmP p Fr p X) TP))), .int .i64 ((n + 1 : Nat) : Int)] W fun e w' => ∃ v, e = .returned v ∧ SlL w' W.heap.size 24 64 v (polRows p M) ∧ Below W.heap.size W w' by
     rw [hM]; exact fun W => equalFactors_any p (n + 1) _ W hpr (by omega) (by omega) (fun k _ => (stageC hpr hX.out hX0 HF2.out HR2.out).1 k))
    have hMl : M.length ≤ 13841287202 := by
     rw [hM]
     have h1 := eqf_len (p := p) (n := n + 1) (monL p (n + 1)) (bzD p X (subP p (pmP p Fr p X) TP))
     have h2 : (monL p (n + 1)).length = p ^ (n + 1) := by unfold monL; simp
     have h3 := mon_bound p7 (by omega : n + 1 ≤ 12)
     omega
    have HM := Lib.hid hM
    have HC6 := Lib.hid (fun k => (stageC hpr hX.out hX0 HF2.out HR2.out).1 k)
    clear hM hrm hlow
    go_upto_region 7 with (first | (refine zla (.tmp 3) B0 Try.underlying24 Try.size24 ?_) | (go_at_call 150; refine (degree_any X _).mono ?_; rintro e W4 ⟨rfl, hW4⟩; replace B0 := B0.zw hW4; replace B1 := B1.zw hW4; replace B2 := B2.zw hW4; replace B3 := B3.zw hW4; replace B4 := B4.zw hW4; replace hb := (hb).trans (hW4.mono (hb).size)))
    have lt_B0 := B0.lt
    have lt_B1 := B1.lt
    have lt_B2 := B2.lt
    have lt_B3 := B3.lt
    have lt_B4 := B4.lt
    go_upto_region 8 with (first | rw [← z64] | (refine zla (.tmp 7) B2 Try.underlying24 Try.size24 ?_) | (refine zla (.tmp 3) B0 Try.underlying24 Try.size24 ?_) | (go_at_call 231; refine (HPM.out _).mono ?_; rintro e W5 ⟨rfl, hW5⟩; replace B0 := B0.zw hW5; replace B1 := B1.zw hW5; replace B2 := B2.zw hW5; replace B3 := B3.zw hW5; replace B4 := B4.zw hW5; replace hb := (hb).trans (hW5.mono (hb).size)) | (refine zsr (.tmp 7) (.tmp 26) (pmP p Fr p X) B2 Try.size24 ?_; try simp only [Act.put]))
    obtain ⟨W6, hwo, hzQ⟩ : ∃ v : World, v = (W5.setRow (N2) (zb 64 (pmP p Fr p X))) ∧ Blk v (w.heap.size) 64 24 (X) ∧ Blk v (N1) 64 24 (TP) ∧ Blk v (N2) 64 24 (pmP p Fr p X) ∧ SlT v base wr.heap.size 186 65 lst (facRows p LL) ∧ SzG wr.heap.size v ∧ Below w.heap.size w v := ⟨_, rfl, (B0.rowOther (by omega)), (B1.rowOther (by omega)), (B2.row (pmP p Fr p X)), (B3.rowOther (by omega)), (B4.rowOther (by omega)), (zr hb (by omega) _)⟩
    rw [← hwo]
    clear hwo B0 B1 B2 B3 B4 hb
    obtain ⟨B0, B1, B2, B3, B4, hb⟩ := hzQ
    try simp only [Act.put, pA, pB, pC]
    have lt_B0 : (w.heap.size) < W6.heap.size := B0.lt
    have lt_B1 : (N1) < W6.heap.size := B1.lt
    have lt_B2 : (N2) < W6.heap.size := B2.lt
    have lt_B3 : (base) ≤ W6.heap.size := B3.lt
    have lt_B4 : (wr.heap.size) ≤ W6.heap.size := B4.lt
    have hbase : w.heap.size ≤ W6.heap.size := hb.size
    refine zq Try.mixed (by kernel_rfl) (by kernel_rfl) (fun v => by (simp only [frL, Act.put, pA, pB, pC, Nat.reduceAdd, Nat.zero_add]; exact rfl))
     (fun L v W7 => Below w.heap.size w W7 ∧ W6.heap.size ≤ W7.heap.size ∧ Blk W7 (w.heap.size) 64 24 (X) ∧ Blk W7 (N1) 64 24 (TP) ∧ Blk W7 (N2) 64 24 (pmP p Fr p X) ∧ SlT W7 base wr.heap.size 186 65 lst (facRows p LL) ∧ SzG wr.heap.size W7 ∧ (L 0 = true → v 0 = (.int .i64 (p : Int))) ∧ (L 1 = true → v 1 = (.agg (zb 64 (X)))) ∧ (L 2 = true → v 2 = (.int .i64 (p : Int))) ∧ (L 3 = true → v 3 = (.agg (zb 64 (pmP p Fr p X)))) ∧ (L 4 = true → v 4 = (.agg (zb 64 (TP)))) ∧ (L 5 = true → v 5 = (.agg (zb 64 (subP p (pmP p Fr p X) TP)))) ∧ (L 6 = true → v 6 = (.tuple #[(.agg (zb 64 (bzD p X (subP p (pmP p Fr p X) TP)))), (.agg (zb 64 (bzU p X (subP p (pmP p Fr p X) TP)))), (.agg (zb 64 (bzW p X (subP p (pmP p Fr p X) TP))))])) ∧ (L 7 = true → v 7 = (.tuple #[(.agg (zb 64 (bzD p X (subP p (pmP p Fr p X) TP)))), (.agg (zb 64 (bzU p X (subP p (pmP p Fr p X) TP)))), (.agg (zb 64 (bzW p X (subP p (pmP p Fr p X) TP))))])) ∧ (L 8 = true → v 8 = (.agg (zb 64 (bzD p X (subP p (pmP p Fr p X) TP))))) ∧ (L 9 = true → v 9 = (.agg (zb 64 (bzU p X (subP p (pmP p Fr p X) TP))))) ∧ (L 10 = true → v 10 = (.agg (zb 64 (bzW p X (subP p (pmP p Fr p X) TP))))) ∧ (L 11 = true → AF (v 11) W7 W6.heap.size 64 24) ∧ (L 12 = true → AF (v 12) W7 W6.heap.size 64 24) ∧ (L 13 = true → AF (v 13) W7 W6.heap.size 64 24) ∧ (L 14 = true → PF (v 11) W7 W6.heap.size 64 24 (bzD p X (subP p (pmP p Fr p X) TP))) ∧ (L 15 = true → PF (v 12) W7 W6.heap.size 64 24 (bzU p X (subP p (pmP p Fr p X) TP))) ∧ (L 16 = true → PF (v 13) W7 W6.heap.size 64 24 (bzW p X (subP p (pmP p Fr p X) TP))) ∧ (L 11 = true → L 12 = true → v 11 ≠ v 12) ∧ (L 11 = true → L 13 = true → v 11 ≠ v 13) ∧ (L 12 = true → L 13 = true → v 12 ≠ v 13)) ?_ ?_ ?_
    · intro v hv0
      exact ⟨hb.drew, Nat.le_refl _, B0.drew, B1.drew, B2.drew, B3.drew, B4.drew, (fun h => by cases h), (fun h => by cases h), (fun h => by cases h), (fun h => by cases h), (fun h => by cases h), (fun h => by cases h), (fun h => by cases h), (fun h => by cases h), (fun h => by cases h), (fun h => by cases h), (fun h => by cases h), (fun h => by cases h), (fun h => by cases h), (fun h => by cases h), (fun h => by cases h), (fun h => by cases h), (fun h => by cases h), (fun h => by cases h), (fun h => by cases h), (fun h => by cases h)⟩
    · refine (.cons rfl ?_ (.cons rfl ?_ (.cons rfl ?_ (.cons rfl ?_ (.cons rfl ?_ (.cons rfl ?_ (.cons rfl ?_ (.cons rfl ?_ (.cons rfl ?_ (.cons rfl ?_ (.cons rfl ?_ (.cons rfl ?_ (.cons rfl ?_ (.cons rfl ?_ (.cons rfl ?_ (.cons rfl ?_ (.cons rfl ?_ (.nil _))))))))))))))))))
      all_goals intro L v W7 hd hn ⟨hB, hz, s0, s1, s2, s3, s4, h0, h1, h2, h3, h4, h5, h6, h7, h8, h9, h10, h11, h12, h13, h14, h15, h16, d11_12, d11_13, d12_13⟩ K hK
      · go_wp2_with fail
        exact hK _ (.int .i64 (p : Int)) _ (by simp only [Act.put, pA, pB, pC ]) ⟨hB, hz, s0, s1, s2, s3, s4, (fun _ => rfl), h1, h2, h3, h4, h5, h6, h7, h8, h9, h10, h11, h12, h13, h14, h15, h16, d11_12, d11_13, d12_13⟩
      · refine zlc s0 Try.underlying24 Try.size24 ?_
        exact hK _ _ _ rfl ⟨hB, hz, s0, s1, s2, s3, s4, h0, (fun _ => rfl), h2, h3, h4, h5, h6, h7, h8, h9, h10, h11, h12, h13, h14, h15, h16, d11_12, d11_13, d12_13⟩
      · go_wp2_with fail
        exact hK _ (.int .i64 (p : Int)) _ (by simp only [Act.put, pA, pB, pC ]) ⟨hB, hz, s0, s1, s2, s3, s4, h0, h1, (fun _ => rfl), h3, h4, h5, h6, h7, h8, h9, h10, h11, h12, h13, h14, h15, h16, d11_12, d11_13, d12_13⟩
      · refine zlc s2 Try.underlying24 Try.size24 ?_
        exact hK _ _ _ rfl ⟨hB, hz, s0, s1, s2, s3, s4, h0, h1, h2, (fun _ => rfl), h4, h5, h6, h7, h8, h9, h10, h11, h12, h13, h14, h15, h16, d11_12, d11_13, d12_13⟩
      · refine zlc s1 Try.underlying24 Try.size24 ?_
        exact hK _ _ _ rfl ⟨hB, hz, s0, s1, s2, s3, s4, h0, h1, h2, h3, (fun _ => rfl), h5, h6, h7, h8, h9, h10, h11, h12, h13, h14, h15, h16, d11_12, d11_13, d12_13⟩
      · have e2 := h2 (zdq hd 2 rfl)
        have e3 := h3 (zdq hd 3 rfl)
        have e4 := h4 (zdq hd 4 rfl)
        go_wp2_with (go_at_call 135; refine (HDF.out _).mono ?_; rintro e wy ⟨rfl, hy⟩)
        exact hK _ (.agg (zb 64 (subP p (pmP p Fr p X) TP))) _ (by simp only [Act.put, pA, pB, pC, e2, e3, e4]) ⟨hB.trans (hy.mono hB.size), (Nat.le_trans hz hy.size), s0.zw hy, s1.zw hy, s2.zw hy, s3.zw hy, s4.zw hy, h0, h1, h2, h3, h4, (fun _ => rfl), h6, h7, h8, h9, h10, (fun h => (h11 h).below hy), (fun h => (h12 h).below hy), (fun h => (h13 h).below hy), (fun h => (h14 h).below hy), (fun h => (h15 h).below hy), (fun h => (h16 h).below hy), d11_12, d11_13, d12_13⟩
      · have e0 := h0 (zdq hd 0 rfl)
        have e1 := h1 (zdq hd 1 rfl)
        have e5 := h5 (zdq hd 5 rfl)
        go_wp2_with (go_at_call 221; refine (HBZ.out _).mono ?_; rintro e wy ⟨rfl, hy⟩)
        exact hK _ (.tuple #[(.agg (zb 64 (bzD p X (subP p (pmP p Fr p X) TP)))), (.agg (zb 64 (bzU p X (subP p (pmP p Fr p X) TP)))), (.agg (zb 64 (bzW p X (subP p (pmP p Fr p X) TP))))]) _ (by simp only [Act.put, pA, pB, pC, e0, e1, e5]) ⟨hB.trans (hy.mono hB.size), (Nat.le_trans hz hy.size), s0.zw hy, s1.zw hy, s2.zw hy, s3.zw hy, s4.zw hy, h0, h1, h2, h3, h4, h5, (fun _ => rfl), h7, h8, h9, h10, (fun h => (h11 h).below hy), (fun h => (h12 h).below hy), (fun h => (h13 h).below hy), (fun h => (h14 h).below hy), (fun h => (h15 h).below hy), (fun h => (h16 h).below hy), d11_12, d11_13, d12_13⟩
      · have e6 := h6 (zdq hd 6 rfl)
        go_wp2_with fail
        exact hK _ (.tuple #[(.agg (zb 64 (bzD p X (subP p (pmP p Fr p X) TP)))), (.agg (zb 64 (bzU p X (subP p (pmP p Fr p X) TP)))), (.agg (zb 64 (bzW p X (subP p (pmP p Fr p X) TP))))]) _ (by simp only [Act.put, pA, pB, pC, e6]) ⟨hB, hz, s0, s1, s2, s3, s4, h0, h1, h2, h3, h4, h5, h6, (fun _ => rfl), h8, h9, h10, h11, h12, h13, h14, h15, h16, d11_12, d11_13, d12_13⟩
      · have e7 := h7 (zdq hd 7 rfl)
        go_wp2_with fail
        exact hK _ (.agg (zb 64 (bzD p X (subP p (pmP p Fr p X) TP)))) _ (by simp only [Act.put, pA, pB, pC, e7]) ⟨hB, hz, s0, s1, s2, s3, s4, h0, h1, h2, h3, h4, h5, h6, h7, (fun _ => rfl), h9, h10, h11, h12, h13, h14, h15, h16, d11_12, d11_13, d12_13⟩
      · have e7 := h7 (zdq hd 7 rfl)
        go_wp2_with fail
        exact hK _ (.agg (zb 64 (bzU p X (subP p (pmP p Fr p X) TP)))) _ (by simp only [Act.put, pA, pB, pC, e7]) ⟨hB, hz, s0, s1, s2, s3, s4, h0, h1, h2, h3, h4, h5, h6, h7, h8, (fun _ => rfl), h10, h11, h12, h13, h14, h15, h16, d11_12, d11_13, d12_13⟩
      · have e7 := h7 (zdq hd 7 rfl)
        go_wp2_with fail
        exact hK _ (.agg (zb 64 (bzW p X (subP p (pmP p Fr p X) TP)))) _ (by simp only [Act.put, pA, pB, pC, e7]) ⟨hB, hz, s0, s1, s2, s3, s4, h0, h1, h2, h3, h4, h5, h6, h7, h8, h9, (fun _ => rfl), h11, h12, h13, h14, h15, h16, d11_12, d11_13, d12_13⟩
      · go_wp2_with fail
        rw [← z64]
        exact hK _ (.pointer (some ⟨W7.heap.size, 0, none⟩)) _ (by simp only [Act.put, pA, pB, pC ]) ⟨hB.alloc hB.size _, (by simp; omega), (s0).alloc _, (s1).alloc _, (s2).alloc _, (s3).alloc _, (s4).alloc _, h0, h1, h2, h3, h4, h5, h6, h7, h8, h9, h10, (fun _ => (PF.new W7 64 24 _ hz).af), (fun h => (h12 h).below (zal _ _)), (fun h => (h13 h).below (zal _ _)), (fun h => absurd rfl (hn 14 _ rfl h ⟨11, .data⟩ (by simp) rfl)), (fun h => (h15 h).below (zal _ _)), (fun h => (h16 h).below (zal _ _)), (fun h g1 => Ne.symm ((h12 g1).ne_new)), (fun h g1 => Ne.symm ((h13 g1).ne_new)), d12_13⟩
      · go_wp2_with fail
        rw [← z64]
        exact hK _ (.pointer (some ⟨W7.heap.size, 0, none⟩)) _ (by simp only [Act.put, pA, pB, pC ]) ⟨hB.alloc hB.size _, (by simp; omega), (s0).alloc _, (s1).alloc _, (s2).alloc _, (s3).alloc _, (s4).alloc _, h0, h1, h2, h3, h4, h5, h6, h7, h8, h9, h10, (fun h => (h11 h).below (zal _ _)), (fun _ => (PF.new W7 64 24 _ hz).af), (fun h => (h13 h).below (zal _ _)), (fun h => (h14 h).below (zal _ _)), (fun h => absurd rfl (hn 15 _ rfl h ⟨12, .data⟩ (by simp) rfl)), (fun h => (h16 h).below (zal _ _)), (fun h g1 => (h11 h).ne_new), d11_13, (fun h g1 => Ne.symm ((h13 g1).ne_new))⟩
      · go_wp2_with fail
        rw [← z64]
        exact hK _ (.pointer (some ⟨W7.heap.size, 0, none⟩)) _ (by simp only [Act.put, pA, pB, pC ]) ⟨hB.alloc hB.size _, (by simp; omega), (s0).alloc _, (s1).alloc _, (s2).alloc _, (s3).alloc _, (s4).alloc _, h0, h1, h2, h3, h4, h5, h6, h7, h8, h9, h10, (fun h => (h11 h).below (zal _ _)), (fun h => (h12 h).below (zal _ _)), (fun _ => (PF.new W7 64 24 _ hz).af), (fun h => (h14 h).below (zal _ _)), (fun h => (h15 h).below (zal _ _)), (fun h => absurd rfl (hn 16 _ rfl h ⟨13, .data⟩ (by simp) rfl)), d11_12, (fun h g1 => (h11 h).ne_new), (fun h g1 => (h12 h).ne_new)⟩
      · have e8 := h8 (zdq hd 8 rfl)
        obtain ⟨gz, b, ea, hN, hk⟩ := (h11 (zdq hd 11 rfl)).out
        refine zsb 24 _ _ rfl b 64 (bzD p X (subP p (pmP p Fr p X) TP)) ea e8 24 gz hk Try.size24 ?_
        exact hK _ undef _ rfl ⟨zr hB (Nat.le_trans hbase hN) _, (by simpa [World.setRow] using hz), (s0).rowOther (by omega), (s1).rowOther (by omega), (s2).rowOther (by omega), (s3).rowOther (by omega), (s4).rowOther (by omega), h0, h1, h2, h3, h4, h5, h6, h7, h8, h9, h10, (fun h => (h11 h).row hk), (fun h => (h12 h).row hk), (fun h => (h13 h).row hk), (fun _ => by rw [show updV v 14 undef 11 = v 11 from rfl, ea]; exact PF.row hk hN _), (fun h => (h15 h).rowOther (by rw [← ea]; exact (Ne.symm (d11_12 (zdq hd 11 rfl) (zdq hd 12 rfl))))), (fun h => (h16 h).rowOther (by rw [← ea]; exact (Ne.symm (d11_13 (zdq hd 11 rfl) (zdq hd 13 rfl))))), d11_12, d11_13, d12_13⟩
      · have e9 := h9 (zdq hd 9 rfl)
        obtain ⟨gz, b, ea, hN, hk⟩ := (h12 (zdq hd 12 rfl)).out
        refine zsb 24 _ _ rfl b 64 (bzU p X (subP p (pmP p Fr p X) TP)) ea e9 24 gz hk Try.size24 ?_
        exact hK _ undef _ rfl ⟨zr hB (Nat.le_trans hbase hN) _, (by simpa [World.setRow] using hz), (s0).rowOther (by omega), (s1).rowOther (by omega), (s2).rowOther (by omega), (s3).rowOther (by omega), (s4).rowOther (by omega), h0, h1, h2, h3, h4, h5, h6, h7, h8, h9, h10, (fun h => (h11 h).row hk), (fun h => (h12 h).row hk), (fun h => (h13 h).row hk), (fun h => (h14 h).rowOther (by rw [← ea]; exact (d11_12 (zdq hd 11 rfl) (zdq hd 12 rfl)))), (fun _ => by rw [show updV v 15 undef 12 = v 12 from rfl, ea]; exact PF.row hk hN _), (fun h => (h16 h).rowOther (by rw [← ea]; exact (Ne.symm (d12_13 (zdq hd 12 rfl) (zdq hd 13 rfl))))), d11_12, d11_13, d12_13⟩
      · have e10 := h10 (zdq hd 10 rfl)
        obtain ⟨gz, b, ea, hN, hk⟩ := (h13 (zdq hd 13 rfl)).out
        refine zsb 24 _ _ rfl b 64 (bzW p X (subP p (pmP p Fr p X) TP)) ea e10 24 gz hk Try.size24 ?_
        exact hK _ undef _ rfl ⟨zr hB (Nat.le_trans hbase hN) _, (by simpa [World.setRow] using hz), (s0).rowOther (by omega), (s1).rowOther (by omega), (s2).rowOther (by omega), (s3).rowOther (by omega), (s4).rowOther (by omega), h0, h1, h2, h3, h4, h5, h6, h7, h8, h9, h10, (fun h => (h11 h).row hk), (fun h => (h12 h).row hk), (fun h => (h13 h).row hk), (fun h => (h14 h).rowOther (by rw [← ea]; exact (d11_13 (zdq hd 11 rfl) (zdq hd 13 rfl)))), (fun h => (h15 h).rowOther (by rw [← ea]; exact (d12_13 (zdq hd 12 rfl) (zdq hd 13 rfl)))), (fun _ => by rw [show updV v 16 undef 13 = v 13 from rfl, ea]; exact PF.row hk hN _), d11_12, d11_13, d12_13⟩
    · intro L v W7 hL ⟨hB, hz, s0, s1, s2, s3, s4, h0, h1, h2, h3, h4, h5, h6, h7, h8, h9, h10, h11, h12, h13, h14, h15, h16, d11_12, d11_13, d12_13⟩
      have e0 := h0 (hL 0 (by decide))
      have e1 := h1 (hL 1 (by decide))
      have e2 := h2 (hL 2 (by decide))
      have e3 := h3 (hL 3 (by decide))
      have e4 := h4 (hL 4 (by decide))
      have e5 := h5 (hL 5 (by decide))
      have e6 := h6 (hL 6 (by decide))
      have e7 := h7 (hL 7 (by decide))
      have e8 := h8 (hL 8 (by decide))
      have e9 := h9 (hL 9 (by decide))
      have e10 := h10 (hL 10 (by decide))
      obtain ⟨k8_11, e11, hNk8_11, hk8_11⟩ := (h14 (hL 14 (by decide))).out
      obtain ⟨k8_12, e12, hNk8_12, hk8_12⟩ := (h15 (hL 15 (by decide))).out
      obtain ⟨k8_13, e13, hNk8_13, hk8_13⟩ := (h16 (hL 16 (by decide))).out
      have n11_12 := d11_12 (hL 11 (by decide)) (hL 12 (by decide))
      have n11_13 := d11_13 (hL 11 (by decide)) (hL 13 (by decide))
      have n12_13 := d12_13 (hL 12 (by decide)) (hL 13 (by decide))
      clear hL h0 h1 h2 h3 h4 h5 h6 h7 h8 h9 h10 h11 h12 h13 h14 h15 h16 d11_12 d11_13 d12_13
      rw [e11, e12] at n11_12
      have mk8_11_12 : k8_11 ≠ k8_12 := fun h => n11_12 (by rw [h])
      clear n11_12
      rw [e11, e13] at n11_13
      have mk8_11_13 : k8_11 ≠ k8_13 := fun h => n11_13 (by rw [h])
      clear n11_13
      rw [e12, e13] at n12_13
      have mk8_12_13 : k8_12 ≠ k8_13 := fun h => n12_13 (by rw [h])
      clear n12_13
      simp only [Exit.then, e0, e1, e2, e3, e4, e5, e6, e7, e8, e9, e10, e11, e12, e13]
      clear e0 e1 e2 e3 e4 e5 e6 e7 e8 e9 e10 e11 e12 e13
      replace B0 := s0
      clear s0
      replace B1 := s1
      clear s1
      replace B2 := s2
      clear s2
      replace B3 := s3
      clear s3
      replace B4 := s4
      clear s4
      replace hb := hB
      clear hB
      have B5 := hk8_11
      clear hk8_11
      have zk8_11_0 : w.heap.size < k8_11 := by omega
      have zk8_11_1 : N1 < k8_11 := by omega
      have zk8_11_2 : N2 < k8_11 := by omega
      have zk8_11_3 : base ≤ k8_11 := by omega
      have zk8_11_4 : wr.heap.size ≤ k8_11 := by omega
      have B6 := hk8_12
      clear hk8_12
      have zk8_12_0 : w.heap.size < k8_12 := by omega
      have zk8_12_1 : N1 < k8_12 := by omega
      have zk8_12_2 : N2 < k8_12 := by omega
      have zk8_12_3 : base ≤ k8_12 := by omega
      have zk8_12_4 : wr.heap.size ≤ k8_12 := by omega
      have B7 := hk8_13
      clear hk8_13
      have zk8_13_0 : w.heap.size < k8_13 := by omega
      have zk8_13_1 : N1 < k8_13 := by omega
      have zk8_13_2 : N2 < k8_13 := by omega
      have zk8_13_3 : base ≤ k8_13 := by omega
      have zk8_13_4 : wr.heap.size ≤ k8_13 := by omega
      clear hbase hz lt_B0 lt_B1 lt_B2 lt_B3 lt_B4
      go_upto_region 9 with (fail)
      clear HPM HDF HBZ
      have yb41 := B3.lt
      go_upto_block 2 with (first | (refine zla (.tmp 9) B5 Try.underlying24 Try.size24 ?_) | (go_at_call 232; refine (HEQ.out _).mono ?_; rintro e WE ⟨v41, rfl, hS41, hWE⟩; obtain ⟨ad, cap, hv41⟩ := hS41.form; rw [polRows_len] at hv41; subst hv41))
      replace B0 := B0.zw hWE
      replace B1 := B1.zw hWE
      replace B2 := B2.zw hWE
      replace B3 := B3.zw hWE
      replace B4 := B4.zw hWE
      replace B5 := B5.zw hWE
      replace B6 := B6.zw hWE
      replace B7 := B7.zw hWE
      have wsz := hWE.size
      replace hb := hb.trans (hWE.mono hb.size)
      clear hWE HEQ
      have HOK := Lib.hid (show okL p (n + 1) M from HST.out.1)
      go_wp2_with fail
      go_loopw [5, 43] (fun s5 i wr => ∃ (j : Nat) (Y : Nat → Nat) (LJ : List (Nat × Nat)) (lst2 : Value), lst2 = s5 ∧ j ≤ M.length ∧ i = .int .i64 (j : Int) ∧ Hid (foI p (M.take j) X = (LJ, Y)) ∧ LJ.length = j ∧ Hid (∀ k, k < 64 → Y k < p) ∧ 0 ≤ deg Y ∧ Below w.heap.size w wr ∧ Blk wr (w.heap.size) 64 24 Y ∧ Blk wr (N1) 64 24 TP ∧ Blk wr (N2) 64 24 (pmP p Fr p X) ∧ SlL wr base 186 65 lst2 (facRows p (LL ++ LJ)) ∧ SlL wr base 24 64 (.slice ad M.length cap) (polRows p M)) (fun _ i _ => M.length + 1 - (intOf i).toNat)
      case atStart => exact ⟨0, X, [], lst, rfl, Nat.zero_le _, rfl, Lib.hid (by rw [List.take_zero]; unfold foI; rfl), rfl, hX, hX0, hb, B0, B1, B2, (by rw [List.append_nil]; exact B3.1), hS41.base yb41⟩
      case round =>
       clear hb hS41 B0 B1 B2 B3 B4 B5 B6 B7
       obtain ⟨j, Y, LJ, lst2, rfl, hjM, rfl, hFO, hLJ, hY, hY0, hb, B0, B1, B2, hS, hS41⟩ := hrel
       by_cases hj : j < M.length
       · obtain ⟨x, hx⟩ : ∃ x, M[j]? = some x := ⟨_, List.getElem?_eq_getElem hj⟩
         obtain ⟨g, rfl⟩ := hS41.some (by rw [polRows_len]; omega)
         have hr := hS41.range (i := j) (c := bl 64 (ofN p x)) (by unfold polRows; rw [List.getElem?_map, hx]; rfl)
         have hxM := HOK.out x (List.mem_of_getElem? hx)
         have hmx := mon_ofN p2 (by omega : n + 1 < 64) hxM
         have HFT := Lib.hid (show foI p (M.take (j + 1)) X = (LJ ++ [(x, (dvo p (ofN p x) 64 Y).1)], (dvo p (ofN p x) 64 Y).2) by rw [foI_take hx, hFO.out])
         obtain ⟨d1, d2, d3, d4⟩ := dvo_ok (m := ofN p x) hpr (fun k _ => ofN_lt p0 x k) hmx 64 Y hY.out hY0
         have HDV := Lib.hid (fun W => dividedOut_any p Y (ofN p x) (n + 1) W hpr hY.out (fun k _ => ofN_lt p0 x k) hmx (by omega) hY0)
         have HD1 := Lib.hid d1
         have B8 := hS.top
         have B9 := hS41.top
         have B10 : SzG wr.heap.size wr := Nat.le_refl _
         have hjl : (j : Int) < (M.length : Int) := by omega
         obtain ⟨gl1, gl2, gl3⟩ := hS41.len
         clear d1 hmx hxM hx hFO hS hS41 gl1 gl2 gl3
         go_upto_region 11 with (fail)
         have lt_B0 := B0.lt
         have lt_B1 := B1.lt
         have lt_B2 := B2.lt
         have lt_B8 := B8.lt
         have lt_B9 := B9.lt
         have lt_B10 := B10.lt
         go_upto_region 12 with (first | rw [← z64] | (refine wpList_load_mid rfl 24 (.tmp 45) rfl g (j * 64) rfl (bl 64 (ofN p x)) _ hr Try.underlying24 rfl (by rw [zl]; exact Try.size24) ?_) | (refine wpList_store_blk rfl 24 (.tmp 13) (.tmp 46) rfl _ 64 (ofN p x) rfl rfl 24 _ ((Blk.new wr 64 24 (fun _ => 0))) Try.size24 ?_; try simp only [Act.put]))
         have lt_B0 := B0.lt
         have lt_B1 := B1.lt
         have lt_B2 := B2.lt
         have lt_B8 := B8.lt
         have lt_B9 := B9.lt
         have lt_B10 := B10.lt
         have lhb := hb.size
         obtain ⟨W8, hwo, hzQ⟩ : ∃ v : World, v = ((wr.alloc (.cells (zb 64 fun _ => 0) 24)).setRow (wr.heap.size) (zb 64 (ofN p x))) ∧ Blk v (w.heap.size) 64 24 (Y) ∧ Blk v (N1) 64 24 (TP) ∧ Blk v (N2) 64 24 (pmP p Fr p X) ∧ SlT v base wr.heap.size 186 65 lst2 (facRows p (LL ++ LJ)) ∧ SlT v base wr.heap.size 24 64 (.slice (some ⟨g, 0, none⟩) M.length cap) (polRows p M) ∧ SzG wr.heap.size v ∧ Blk v (wr.heap.size) 64 24 (ofN p x) ∧ Below w.heap.size w v := ⟨_, rfl, ((B0.alloc (.cells (zb 64 fun _ => 0) 24)).rowOther (by omega)), ((B1.alloc (.cells (zb 64 fun _ => 0) 24)).rowOther (by omega)), ((B2.alloc (.cells (zb 64 fun _ => 0) 24)).rowOther (by omega)), ((B8.alloc (.cells (zb 64 fun _ => 0) 24)).rowOther (by omega)), ((B9.alloc (.cells (zb 64 fun _ => 0) 24)).rowOther (by omega)), ((B10.alloc (.cells (zb 64 fun _ => 0) 24)).rowOther (by omega)), ((Blk.new wr 64 24 (fun _ => 0)).row (ofN p x)), (zr (hb.alloc (by have := hb.size; simp; omega) (.cells (zb 64 fun _ => 0) 24)) (by omega) _)⟩
         rw [← hwo]
         clear hwo B0 B1 B10 B2 B8 B9 hb
         obtain ⟨B0, B1, B2, B8, B9, B10, B11, hb⟩ := hzQ
         obtain ⟨N3, hNN⟩ : ∃ n : Nat, n = wr.heap.size := ⟨_, rfl⟩
         rw [← hNN] at lt_B0 lt_B1 lt_B2 lt_B8 lt_B9 lt_B10 lhb B11 ⊢
         clear hNN
         have zN3_0 := lt_B0
         have zN3_1 := lt_B1
         have zN3_2 := lt_B2
         have zN3_8 := lt_B8
         have zN3_9 := lt_B9
         have zN3_10 := lt_B10
         have zN3 := lhb
         clear lt_B0 lt_B1 lt_B2 lt_B8 lt_B9 lt_B10 lhb
         try simp only [Act.put, pA, pB, pC]
         clear hr
         have lt_B0 := B0.lt
         have lt_B1 := B1.lt
         have lt_B2 := B2.lt
         have lt_B8 := B8.lt
         have lt_B9 := B9.lt
         have lt_B10 := B10.lt
         have lt_B11 := B11.lt
         go_upto_region 13 with (first | rw [← z64] | rw [← facC_zero] | (refine zla (.tmp 13) B11 Try.underlying24 Try.size24 ?_) | (refine zbo rfl 186 _ rfl (facC (ofN p x) 0).toArray (by rw [Array.toList_map]; exact built_fac _) ?_) | (refine wpList_store_rowv rfl 186 (.tmp 14) (.tmp 48) rfl _ rfl (facC (ofN p x) 0).toArray rfl 186 _ ((Row.new W8 186 (facC (fun _ => 0) 0).toArray)) 65 Try.size186 (by simp [facC_len]) (by simp [facC_len]) (facC_all _ _) ?_; try simp only [Act.put]))
         have lt_B0 := B0.lt
         have lt_B1 := B1.lt
         have lt_B2 := B2.lt
         have lt_B8 := B8.lt
         have lt_B9 := B9.lt
         have lt_B10 := B10.lt
         have lt_B11 := B11.lt
         have lhb := hb.size
         obtain ⟨W9, hwo, hzQ⟩ : ∃ v : World, v = ((W8.alloc (.cells (facC (fun _ => 0) 0).toArray 186)).setRow (W8.heap.size) (facC (ofN p x) 0).toArray) ∧ Blk v (w.heap.size) 64 24 (Y) ∧ Blk v (N1) 64 24 (TP) ∧ Blk v (N2) 64 24 (pmP p Fr p X) ∧ SlT v base wr.heap.size 186 65 lst2 (facRows p (LL ++ LJ)) ∧ SlT v base wr.heap.size 24 64 (.slice (some ⟨g, 0, none⟩) M.length cap) (polRows p M) ∧ SzG wr.heap.size v ∧ Blk v (N3) 64 24 (ofN p x) ∧ Row v (W8.heap.size) 186 (facC (ofN p x) 0).toArray ∧ Below w.heap.size w v := ⟨_, rfl, ((B0.alloc (.cells (facC (fun _ => 0) 0).toArray 186)).rowOther (by omega)), ((B1.alloc (.cells (facC (fun _ => 0) 0).toArray 186)).rowOther (by omega)), ((B2.alloc (.cells (facC (fun _ => 0) 0).toArray 186)).rowOther (by omega)), ((B8.alloc (.cells (facC (fun _ => 0) 0).toArray 186)).rowOther (by omega)), ((B9.alloc (.cells (facC (fun _ => 0) 0).toArray 186)).rowOther (by omega)), ((B10.alloc (.cells (facC (fun _ => 0) 0).toArray 186)).rowOther (by omega)), ((B11.alloc (.cells (facC (fun _ => 0) 0).toArray 186)).rowOther (by omega)), ((Row.new W8 186 (facC (fun _ => 0) 0).toArray).row (facC (ofN p x) 0).toArray), (zr (hb.alloc (by have := hb.size; simp; omega) (.cells (facC (fun _ => 0) 0).toArray 186)) (by omega) _)⟩
         rw [← hwo]
         clear hwo B0 B1 B10 B11 B2 B8 B9 hb
         obtain ⟨B0, B1, B2, B8, B9, B10, B11, B12, hb⟩ := hzQ
         obtain ⟨N4, hNN⟩ : ∃ n : Nat, n = W8.heap.size := ⟨_, rfl⟩
         rw [← hNN] at lt_B0 lt_B1 lt_B2 lt_B8 lt_B9 lt_B10 lt_B11 lhb B12 ⊢
         clear hNN
         have zN4_0 := lt_B0
         have zN4_1 := lt_B1
         have zN4_2 := lt_B2
         have zN4_8 := lt_B8
         have zN4_9 := lt_B9
         have zN4_10 := lt_B10
         have zN4_11 := lt_B11
         have zN4 := lhb
         clear lt_B0 lt_B1 lt_B2 lt_B8 lt_B9 lt_B10 lt_B11 lhb
         try simp only [Act.put, pA, pB, pC]
         have lt_B0 := B0.lt
         have lt_B1 := B1.lt
         have lt_B2 := B2.lt
         have lt_B8 := B8.lt
         have lt_B9 := B9.lt
         have lt_B10 := B10.lt
         have lt_B11 := B11.lt
         have lt_B12 := B12.lt
         go_upto_region 14 with (first | rw [← z64] | (refine zla (.tmp 3) B0 Try.underlying24 Try.size24 ?_) | (refine zla (.tmp 13) B11 Try.underlying24 Try.size24 ?_) | (go_at_call 233; refine (HDV.out _).mono ?_; rintro e W10 ⟨rfl, hW10⟩; replace B0 := B0.zw hW10; replace B1 := B1.zw hW10; replace B2 := B2.zw hW10; replace B8 := B8.zw hW10; replace B9 := B9.zw hW10; replace B10 := B10.zw hW10; replace B11 := B11.zw hW10; replace B12 := B12.zw hW10; replace hb := (hb).trans (hW10.mono (hb).size); have cc := B12.cell (facC_at _ _); have zz := B12.frozen 64) | (refine wpList_store_blk rfl 24 (.tmp 3) (.tmp 55) rfl _ 64 ((dvo p (ofN p x) 64 Y).2) rfl rfl 24 _ ((B0.setOther (by dsimp only; omega))) Try.size24 ?_; try simp only [Act.put]))
         obtain ⟨W11, hwo, hzQ⟩ : ∃ v : World, v = ((W10.setCell ⟨N4, 64, none⟩ (.int .i64 (((dvo p (ofN p x) 64 Y).1 : Nat) : Int))).setRow (w.heap.size) (zb 64 ((dvo p (ofN p x) 64 Y).2))) ∧ Blk v (w.heap.size) 64 24 ((dvo p (ofN p x) 64 Y).2) ∧ Blk v (N1) 64 24 (TP) ∧ Blk v (N2) 64 24 (pmP p Fr p X) ∧ SlT v base wr.heap.size 186 65 lst2 (facRows p (LL ++ LJ)) ∧ SlT v base wr.heap.size 24 64 (.slice (some ⟨g, 0, none⟩) M.length cap) (polRows p M) ∧ SzG wr.heap.size v ∧ Blk v (N3) 64 24 (ofN p x) ∧ Row v (N4) 186 (facC (ofN p x) (dvo p (ofN p x) 64 Y).1).toArray ∧ Below w.heap.size w v := ⟨_, rfl, ((B0.setOther (by dsimp only; omega)).row ((dvo p (ofN p x) 64 Y).2)), ((B1.setOther (by dsimp only; omega)).rowOther (by omega)), ((B2.setOther (by dsimp only; omega)).rowOther (by omega)), ((B8.setOther (by dsimp only; omega)).rowOther (by omega)), ((B9.setOther (by dsimp only; omega)).rowOther (by omega)), ((B10.setOther (by dsimp only; omega)).rowOther (by omega)), ((B11.setOther (by dsimp only; omega)).rowOther (by omega)), ((show Row _ _ _ (facC (ofN p x) (dvo p (ofN p x) 64 Y).1).toArray by rw [← facC_set (ofN p x) 0 (dvo p (ofN p x) 64 Y).1]; exact (B12).set).rowOther (by omega)), (zr (hb.setCell (by show w.heap.size ≤ (N4); omega) _) (by omega) _)⟩
         rw [← hwo]
         clear hwo B0 B1 B10 B11 B12 B2 B8 B9 hb
         obtain ⟨B0, B1, B2, B8, B9, B10, B11, B12, hb⟩ := hzQ
         try simp only [Act.put, pA, pB, pC]
         try clear cc zz
         clear HDV
         have lu_0 := B0.lt
         have lu_1 := B1.lt
         have lu_2 := B2.lt
         have lu_8 := B8.lt
         have lu_9 := B9.lt
         have lu_10 := B10.lt
         have lu_11 := B11.lt
         have lu_12 := B12.lt
         go_wp2_with (first | (refine zlr rfl 186 (.tmp 14) rfl _ rfl 186 (facC (ofN p x) (dvo p (ofN p x) 64 Y).1).toArray B12 _ Try.underlying186 rfl 65 Try.size186 (by simp [facC_len]) ?_) | (refine wpList_build1 rfl 187 _ (facC (ofN p x) (dvo p (ofN p x) 64 Y).1) 65 rfl 186 Try.underlying187 Try.elemFac (by decide) (by decide) (facC_len _ _) rfl ?_; intro wa hps hba; have eB0 := B0.zw hba; have eB1 := B1.zw hba; have eB2 := B2.zw hba; have eB8 := B8.zw hba; have eB9 := B9.zw hba; have eB10 := B10.zw hba; have eB11 := B11.zw hba; have eB12 := B12.zw hba; have ehb := hb.trans (hba.mono hb.size)) | (at_builtin; refine wpList_append_sl _ rfl _ _ 187 rfl base 186 (.agg (facC (fun _ => 0) 0).toArray) 65 72 Try.underlying187 Try.infoFac (by simp [Value.cells, facC_len]) (by decide) lst2 _ rfl eB8.1 W11.heap.size (facC (ofN p x) (dvo p (ofN p x) 64 Y).1) rfl (facC_len _ _) hps.range (facC_one _ _) (by rw [facRows_len, List.length_append]; unfold maxLen; omega) (by rw [facRows_len, List.length_append]; omega) ?_; intro vp wp hSp hg1; have fB0 := eB0.grownO hg1 (eB8.1.own) (base := base) (by omega); have fB1 := eB1.grownO hg1 (eB8.1.own) (base := base) (by omega); have fB2 := eB2.grownO hg1 (eB8.1.own) (base := base) (by omega); have fB9 := eB9.1.grownE eB8.1 hg1 (by decide); have fhb := ehb.grown hg1 ehb.size (fun k e => Nat.le_trans ybw (eB8.1.own k e))))
         go_roundw
         case rel => exact ⟨j + 1, (dvo p (ofN p x) 64 Y).2, LJ ++ [(x, (dvo p (ofN p x) 64 Y).1)], vp, rfl, by omega, by go_num, HFT, by simp [hLJ], HD1, d2, fhb, fB0, fB1, fB2, (by rw [← List.append_assoc, facRows_snoc]; exact hSp), fB9⟩
         case measure => simp [intOf] <;> omega
       · have hjM2 : j = M.length := by omega
         have HFM := Lib.hid (show foI p M X = (LJ, Y) by rw [← hFO.out, hjM2, List.take_length])
         obtain ⟨t1, t2, t3, t4⟩ := HST.out
         rw [HFM.out] at t2 t3 t4
         have HRN := Lib.hid (show run p 64 1 f = (LL ++ LJ) ++ run p fu (n + 1 + 1) Y by rw [hE.out, t2, List.append_assoc])
         have HLW := Lib.hid t3
         have HRM := Lib.hid t4
         have hdY : deg Y ≤ 12 := by
          have := (foI_ok hpr (by omega : n + 1 < 64) M X t1 hX.out hX0).2.2
          rw [HFM.out] at this
          have h3 : deg Y ≤ deg X := this
          omega
         have hjn : ¬ (j : Int) < (M.length : Int) := by omega
         have hLb : (LL ++ LJ).length ≤ (n + 1) * 13841287202 := by rw [List.length_append]; omega
         clear t1 t2 t3 t4 hFO hE hj
         go_wp2_with fail
         go_roundw
         case rel => exact ⟨fu, n + 1, Y, pmP p Fr p X, LL ++ LJ, _, rfl, by have := HFU.out; omega, by go_num, HRN, hY, hY0, hdY, HLW, HF2, HRM, hLb, hb, B0, B1, B2, hS⟩
         case measure => simp [intOf] <;> omega
end Go.Proofs.Yteloknnooebabaa
namespace Go.Proofs.Yteloknnooebabaa
open Go.RowKit
section
variable {P : Program} {Q : Exit → Act → World → Prop}
/-- what is asked of operation i, wanted or not -/
def StepG (P : Program) (ops : Array Oper) (Q : Exit → Act → World → Prop) (F : (Nat → Value) → Act) (Ψ : (Nat → Bool) → (Nat → Value) → World → Prop) (i : Nat) (o : Oper) : Prop :=
 ∀ (L : Nat → Bool) (v : Nat → Value) (w : World), (∀ e, e ∈ o.after → Region.binds .any e = true → L e.on = true) →
  (∀ j p, ops[j]? = some p → L j = true → ∀ e, e ∈ p.after → Region.binds .any e = true → e.on ≠ i) → Ψ L v w →
  ∀ K : Act → World → Prop, (∀ a' y w', a' = (F v).put o.dst y → Ψ (setL L i) (updV v i y) w' → K a' w') →
   if Region.wanted o (yielded ops (F v).tmps) = true then Oper.wp P o (F v) w K Q else K ((F v).put o.dst undef) w
inductive StepsG (P : Program) (ops : Array Oper) (Q : Exit → Act → World → Prop) (F : (Nat → Value) → Act) (Ψ : (Nat → Bool) → (Nat → Value) → World → Prop) : List Oper → Nat → Prop
 | nil (k : Nat) : StepsG P ops Q F Ψ [] k
 | cons {o : Oper} {os : List Oper} {k : Nat} (h : StepG P ops Q F Ψ k o) (hs : StepsG P ops Q F Ψ os (k + 1)) : StepsG P ops Q F Ψ (o :: os) k
theorem stepsG_of {ops : Array Oper} {F : (Nat → Value) → Act} {Ψ : (Nat → Bool) → (Nat → Value) → World → Prop} : ∀ (os : List Oper) (k : Nat), StepsG P ops Q F Ψ os k → ∀ i o, os[i]? = some o → StepG P ops Q F Ψ (k + i) o
 | [], _, _, _, _, h => by simp at h
 | p :: os, k, hs, 0, o, h => by
  simp only [List.getElem?_cons_zero, Option.some.injEq] at h
  subst h
  cases hs with
  | cons h _ => exact h
 | p :: os, k, hs, i + 1, o, h => by
  cases hs with
  | cons _ hs =>
   have := stepsG_of os (k + 1) hs i o (by simpa using h)
   rwa [show k + 1 + i = k + (i + 1) by omega] at this
theorem wp_region_stepsG {os : List Oper} {id : Nat} {a0 : Act} {w : World} (hm : P.follows .mixedOrders = true) (hd : dstsOkL os = true) (he : edgesOk os.toArray = true)
 {F : (Nat → Value) → Act} (hF : ∀ v, frL a0 os 0 v = F v)
 (Ψ : (Nat → Bool) → (Nat → Value) → World → Prop) (h0 : ∀ v, (∀ i, v i = ((os[i]?.bind (·.dst)).map fun t => a0.tmps.getD t undef).getD undef) → Ψ (fun _ => false) v w.drew)
 (hstep : StepsG P os.toArray Q F Ψ os 0)
 (hend : ∀ L v w, (∀ i, i < os.length → L i = true) → Ψ L v w → Q .normal (F v) w) : (Code.region id os.toArray true).wp P Q a0 w := by
 refine wp_region_psi0 hm (by simpa using hd) he Ψ (fun v hv => h0 v (by simpa using hv)) (fun i o ho => ?_) (fun L v w hL hΨ => ?_)
 · have hs := stepsG_of _ _ hstep i o (by simpa using ho)
   rw [Nat.zero_add] at hs
   intro L v w h1 h2 h3 K hK
   have hf : fr a0 os.toArray v = F v := hF v
   rw [hf] at hK ⊢
   exact hs L v w h1 h2 h3 K hK
 · have hf : fr a0 os.toArray v = F v := hF v
   rw [hf]
   exact hend L v w (by simpa using hL) hΨ
end
end Go.Proofs.Yteloknnooebabaa
namespace Go.Proofs.Yteloknnooebabaa
open Go Go.RowKit
set_option linter.unusedVariables false
set_option linter.unusedSimpArgs false
attribute [local irreducible] deg invN dS qS stp stpr quoP resP oneP eqS ofN dvo pmP eqf foI run bzD bzU bzW subP lowf monL TP monUp monB
/-- irreducible -/
noncomputable def irB (p : Nat) (f : Nat → Nat) : Bool := @decide (∃ d, irr p (cut f) d) (Classical.propDecidable _)
theorem irB_iff {p : Nat} {f : Nat → Nat} : irB p f = true ↔ ∃ d, irr p (cut f) d := by
 unfold irB
 exact @decide_eq_true_iff _ (Classical.propDecidable _)
noncomputable def irV (p : Nat) (f : Nat → Nat) : Bool := monUp 12 f && irB p f
theorem cut_lt2 {p : Nat} {f : Nat → Nat} (hp : 0 < p) (lf : ∀ k, k < 64 → f k < p) (k : Nat) : cut f k < p := by
 by_cases hk : k < 64
 · rw [cut_in _ hk]; exact lf k hk
 · rw [zcz _ (by omega)]; exact hp
theorem monUp_cut (c : Int) (f : Nat → Nat) : monUp c (cut f) = monUp c f := by
 have hb := zdb f
 unfold monUp
 rw [deg_congr (f := cut f) (g := f) (fun k hk => cut_in f hk), cut_in f (by omega)]
theorem mon_cut {f : Nat → Nat} {d : Nat} (h : mon f d) : mon (cut f) d := by
 obtain ⟨d6, _, _⟩ := deg_top h.1
 exact ⟨(deg_congr (fun k hk => cut_in f hk)).trans h.1, by rw [cut_in f d6]; exact h.2⟩
theorem run_cut {p : Nat} {f : Nat → Nat} (hp : p = 2 ∨ p = 3 ∨ p = 5 ∨ p = 7) (lf : ∀ k, k < 64 → f k < p) (d : Nat) (hd : 1 ≤ d) (hm : mon f d) : ∃ x l, run p 64 1 (cut f) = x :: l ∧ (eqN 64 (ofN p x.1) f = irB p f) := by
 obtain ⟨x, l, h1, h2⟩ := head_irr hp (cut_lt2 (by omega) lf) hd (mon_cut hm)
 refine ⟨x, l, h1, ?_⟩
 rw [Bool.eq_iff_iff, eqN_iff, irB_iff]
 constructor
 · intro h
   exact ⟨d, h2.1 (fun k hk => by rw [cut_in f hk]; exact h k hk)⟩
 · rintro ⟨d2, hi⟩
   have : d2 = d := by
    have e1 := hi.2.1.1
    have e2 := (mon_cut hm).1
    rw [e1] at e2
    exact Int.ofNat.inj e2
   subst this
   intro k hk
   rw [← cut_in f hk]
   exact h2.2 hi k hk
/-- the pointer to a slice's first element -/
def PV (y z : Value) : Prop := ∃ g n cap, y = .slice (some ⟨g, 0, none⟩) n cap ∧ z = .pointer (some ⟨g, 0, none⟩)
def FV (p : Nat) (n0 : Nat) (x : Nat × Nat) (l : List (Nat × Nat)) (y : Value) (w : World) : Prop := SlL w n0 186 65 y (facRows p (x :: l))
theorem FV.below {p n0 : Nat} {x : Nat × Nat} {l : List (Nat × Nat)} {y : Value} {w w' : World} (h : FV p n0 x l y w) (hb : Below w.heap.size w w') : FV p n0 x l y w' := SlL.below h hb h.lt
set_option maxRecDepth 100000 in
set_option maxHeartbeats 3200000 in
theorem isIrreducible_any (p : Nat) (f : Nat → Nat) (w : World) (hpr : p = 2 ∨ p = 3 ∨ p = 5 ∨ p = 7) (lf : ∀ k, k < 64 → f k < p) :
 Calls Try.prog 133 #[.int .i64 (p : Int), .agg (zb 64 f)] w fun e w' => e = .returned (.bool (irV p f)) ∧ Below w.heap.size w w' := by
 have hbf : byte (cut f) := fun k => by have := cut_lt2 (p := p) (by omega) lf k; omega
 have HMU := Lib.hid (fun W => isMonicUpTo_any 12 (cut f) hbf W (by decide) (by decide))
 rw [monUp_cut, bcells_cut] at HMU
 go_enter Try.func133, Try.ntmps133
 go_upto_region 1 with (fail)
 obtain ⟨W1, hwo⟩ : ∃ v : World, v = (w.alloc (.cells (zb 64 (f)) 24)) := ⟨_, rfl⟩
 have B0 : Blk W1 (w.heap.size) 64 24 (f) := by subst hwo; have := (Blk.new w 64 24 (f)); simpa using this
 have hb : Below w.heap.size w W1 := by subst hwo; exact ((Below.refl _ _).alloc (Nat.le_refl _) _)
 rw [← hwo]
 clear hwo
 cases hmu : monUp 12 f with
 | false =>
  have HV := Lib.hid (show irV p f = false by unfold irV; rw [hmu]; rfl)
  have lt_B0 : (w.heap.size) < W1.heap.size := B0.lt
  refine wp_region_stepsG Try.mixed (by kernel_rfl) (by kernel_rfl) (fun v => by (simp only [frL, Act.put, pA, pB, pC, Nat.reduceAdd, Nat.zero_add]; exact rfl))
   (fun L v wx => Below w.heap.size w wx ∧ W1.heap.size ≤ wx.heap.size ∧ Blk wx (w.heap.size) 64 24 (f) ∧ (L 0 = true → v 0 = (.agg (zb 64 f))) ∧ (L 1 = true → v 1 = (.bool false)) ∧ (L 2 = true → v 2 = (.bool false)) ∧ (L 3 = true → v 3 = undef) ∧ (L 4 = true → v 4 = undef) ∧ (L 5 = true → v 5 = undef) ∧ (L 6 = true → v 6 = undef) ∧ (L 7 = true → v 7 = undef) ∧ (L 8 = true → v 8 = undef) ∧ (L 9 = true → v 9 = undef) ∧ (L 10 = true → v 10 = undef) ∧ (L 11 = true → v 11 = (.bool false)) ∧ (L 12 = true → v 12 = (.bool false))) ?_ ?_ ?_
  · intro v hv0
    exact ⟨hb.drew, Nat.le_refl _, B0.drew, (fun h => by cases h), (fun h => by cases h), (fun h => by cases h), (fun h => by cases h), (fun h => by cases h), (fun h => by cases h), (fun h => by cases h), (fun h => by cases h), (fun h => by cases h), (fun h => by cases h), (fun h => by cases h), (fun h => by cases h), (fun h => by cases h)⟩
  · refine (.cons ?_ (.cons ?_ (.cons ?_ (.cons ?_ (.cons ?_ (.cons ?_ (.cons ?_ (.cons ?_ (.cons ?_ (.cons ?_ (.cons ?_ (.cons ?_ (.cons ?_ (.nil _))))))))))))))
    · intro L v wx hd hn ⟨hB, hz, s0, h0, h1, h2, h3, h4, h5, h6, h7, h8, h9, h10, h11, h12⟩ K hK
      rw [if_pos (by simp [Region.wanted])]
      refine zlc s0 Try.underlying24 Try.size24 ?_
      exact hK _ _ _ rfl ⟨hB, hz, s0, (fun _ => rfl), h1, h2, h3, h4, h5, h6, h7, h8, h9, h10, h11, h12⟩
    · intro L v wx hd hn ⟨hB, hz, s0, h0, h1, h2, h3, h4, h5, h6, h7, h8, h9, h10, h11, h12⟩ K hK
      have e0 := h0 (zdq hd 0 rfl)
      rw [if_pos (by simp [Region.wanted])]
      go_wp2_with (go_at_call 132; refine (HMU.out _).mono ?_; rintro e wy ⟨rfl, hy⟩)
      exact hK _ (.bool false) _ (by simp only [Act.put, pA, pB, pC, e0]) ⟨hB.trans (hy.mono hB.size), (Nat.le_trans hz hy.size), s0.zw hy, h0, (fun _ => rfl), h2, h3, h4, h5, h6, h7, h8, h9, h10, h11, h12⟩
    · intro L v wx hd hn ⟨hB, hz, s0, h0, h1, h2, h3, h4, h5, h6, h7, h8, h9, h10, h11, h12⟩ K hK
      have e1 := h1 (zdq hd 1 rfl)
      rw [if_pos (by simp [Region.wanted])]
      go_wp2_with fail
      exact hK _ (.bool false) _ (by simp only [Act.put, pA, pB, pC, e1]) ⟨hB, hz, s0, h0, h1, (fun _ => rfl), h3, h4, h5, h6, h7, h8, h9, h10, h11, h12⟩
    · intro L v wx hd hn ⟨hB, hz, s0, h0, h1, h2, h3, h4, h5, h6, h7, h8, h9, h10, h11, h12⟩ K hK
      have e2 := h2 (zdq hd 2 rfl)
      rw [if_neg (by simp [Region.wanted, yielded, e2])]
      exact hK _ undef _ rfl ⟨hB, hz, s0, h0, h1, h2, (fun _ => rfl), h4, h5, h6, h7, h8, h9, h10, h11, h12⟩
    · intro L v wx hd hn ⟨hB, hz, s0, h0, h1, h2, h3, h4, h5, h6, h7, h8, h9, h10, h11, h12⟩ K hK
      have e2 := h2 (zdq hd 2 rfl)
      rw [if_neg (by simp [Region.wanted, yielded, e2])]
      exact hK _ undef _ rfl ⟨hB, hz, s0, h0, h1, h2, h3, (fun _ => rfl), h5, h6, h7, h8, h9, h10, h11, h12⟩
    · intro L v wx hd hn ⟨hB, hz, s0, h0, h1, h2, h3, h4, h5, h6, h7, h8, h9, h10, h11, h12⟩ K hK
      have e3 := h3 (zdq hd 3 rfl)
      have e4 := h4 (zdq hd 4 rfl)
      have e2 := h2 (zdq hd 2 rfl)
      rw [if_neg (by simp [Region.wanted, yielded, e2])]
      exact hK _ undef _ rfl ⟨hB, hz, s0, h0, h1, h2, h3, h4, (fun _ => rfl), h6, h7, h8, h9, h10, h11, h12⟩
    · intro L v wx hd hn ⟨hB, hz, s0, h0, h1, h2, h3, h4, h5, h6, h7, h8, h9, h10, h11, h12⟩ K hK
      have e5 := h5 (zdq hd 5 rfl)
      have e2 := h2 (zdq hd 2 rfl)
      rw [if_neg (by simp [Region.wanted, yielded, e2])]
      exact hK _ undef _ rfl ⟨hB, hz, s0, h0, h1, h2, h3, h4, h5, (fun _ => rfl), h7, h8, h9, h10, h11, h12⟩
    · intro L v wx hd hn ⟨hB, hz, s0, h0, h1, h2, h3, h4, h5, h6, h7, h8, h9, h10, h11, h12⟩ K hK
      have e6 := h6 (zdq hd 6 rfl)
      have e2 := h2 (zdq hd 2 rfl)
      rw [if_neg (by simp [Region.wanted, yielded, e2])]
      exact hK _ undef _ rfl ⟨hB, hz, s0, h0, h1, h2, h3, h4, h5, h6, (fun _ => rfl), h8, h9, h10, h11, h12⟩
    · intro L v wx hd hn ⟨hB, hz, s0, h0, h1, h2, h3, h4, h5, h6, h7, h8, h9, h10, h11, h12⟩ K hK
      have e7 := h7 (zdq hd 7 rfl)
      have e2 := h2 (zdq hd 2 rfl)
      rw [if_neg (by simp [Region.wanted, yielded, e2])]
      exact hK _ undef _ rfl ⟨hB, hz, s0, h0, h1, h2, h3, h4, h5, h6, h7, (fun _ => rfl), h9, h10, h11, h12⟩
    · intro L v wx hd hn ⟨hB, hz, s0, h0, h1, h2, h3, h4, h5, h6, h7, h8, h9, h10, h11, h12⟩ K hK
      have e2 := h2 (zdq hd 2 rfl)
      rw [if_neg (by simp [Region.wanted, yielded, e2])]
      exact hK _ undef _ rfl ⟨hB, hz, s0, h0, h1, h2, h3, h4, h5, h6, h7, h8, (fun _ => rfl), h10, h11, h12⟩
    · intro L v wx hd hn ⟨hB, hz, s0, h0, h1, h2, h3, h4, h5, h6, h7, h8, h9, h10, h11, h12⟩ K hK
      have e8 := h8 (zdq hd 8 rfl)
      have e9 := h9 (zdq hd 9 rfl)
      have e2 := h2 (zdq hd 2 rfl)
      rw [if_neg (by simp [Region.wanted, yielded, e2])]
      exact hK _ undef _ rfl ⟨hB, hz, s0, h0, h1, h2, h3, h4, h5, h6, h7, h8, h9, (fun _ => rfl), h11, h12⟩
    · intro L v wx hd hn ⟨hB, hz, s0, h0, h1, h2, h3, h4, h5, h6, h7, h8, h9, h10, h11, h12⟩ K hK
      have e2 := h2 (zdq hd 2 rfl)
      have e10 := h10 (zdq hd 10 rfl)
      rw [if_pos (by simp [Region.wanted])]
      go_wp2_with fail
      exact hK _ (.bool false) _ (by simp only [Act.put, pA, pB, pC, e2, e10]) ⟨hB, hz, s0, h0, h1, h2, h3, h4, h5, h6, h7, h8, h9, h10, (fun _ => rfl), h12⟩
    · intro L v wx hd hn ⟨hB, hz, s0, h0, h1, h2, h3, h4, h5, h6, h7, h8, h9, h10, h11, h12⟩ K hK
      have e11 := h11 (zdq hd 11 rfl)
      rw [if_pos (by simp [Region.wanted])]
      go_wp2_with fail
      exact hK _ (.bool false) _ (by simp only [Act.put, pA, pB, pC, e11]) ⟨hB, hz, s0, h0, h1, h2, h3, h4, h5, h6, h7, h8, h9, h10, h11, (fun _ => rfl)⟩
  · intro L v wx hL ⟨hB, hz, s0, h0, h1, h2, h3, h4, h5, h6, h7, h8, h9, h10, h11, h12⟩
    have e12 := h12 (hL 12 (by decide))
    simp only [Exit.then, e12]
    go_wp2_with fail
    go_ret
    exact ⟨by rw [HV.out]; rfl, hB⟩
 | true =>
  have HV := Lib.hid (show irV p f = irB p f by unfold irV; rw [hmu]; rfl)
  obtain ⟨d, hmon, hd1, hd2⟩ := mon_up hmu
  obtain ⟨x, l, hrun, hxe⟩ := run_cut hpr lf d hd1 hmon
  have HFA := Lib.hid (show ∀ W, Calls Try.prog 211 #[.int .i64 (p : Int), .agg (zb 64 f)] W fun e w' => ∃ v, e = .returned v ∧ SlL w' W.heap.size 186 65 v (facRows p (x :: l)) ∧ Below W.heap.size W w' by
   intro W
   have := factorsOf_any p (cut f) W hpr (fun k _ => cut_lt2 (by omega) lf k) (by rw [(mon_cut hmon).1]; omega) (by rw [(mon_cut hmon).1]; omega)
   unfold FaF at this
   rw [hrun, bcells_cut] at this
   exact this)
  have hgd := Try.noGuard24
  have heq := fun W => zeb (P := Try.prog) W 9998 24 5 64 (ofN p x.1) f Try.underlying24 Try.underlying5 Try.size5
  rw [hxe] at heq
  clear hrun hxe hmon hbf
  have lt_B0 : (w.heap.size) < W1.heap.size := B0.lt
  refine wp_region_stepsG Try.mixed (by kernel_rfl) (by kernel_rfl) (fun v => by (simp only [frL, Act.put, pA, pB, pC, Nat.reduceAdd, Nat.zero_add]; exact rfl))
   (fun L v wx => Below w.heap.size w wx ∧ W1.heap.size ≤ wx.heap.size ∧ Blk wx (w.heap.size) 64 24 (f) ∧ (L 0 = true → v 0 = (.agg (zb 64 f))) ∧ (L 1 = true → v 1 = (.bool true)) ∧ (L 2 = true → v 2 = (.bool true)) ∧ (L 3 = true → v 3 = (.int .i64 (p : Int))) ∧ (L 4 = true → v 4 = (.agg (zb 64 f))) ∧ (L 5 = true → FV p w.heap.size x l (v 5) wx) ∧ (L 6 = true → L 5 = true ∧ PV (v 5) (v 6)) ∧ (L 7 = true → L 6 = true ∧ L 5 = true ∧ PV (v 5) (v 7)) ∧ (L 8 = true → v 8 = (.agg (zb 64 (ofN p x.1)))) ∧ (L 9 = true → v 9 = (.agg (zb 64 f))) ∧ (L 10 = true → v 10 = (.bool (irB p f))) ∧ (L 11 = true → v 11 = (.bool (irB p f))) ∧ (L 12 = true → v 12 = (.bool (irB p f)))) ?_ ?_ ?_
  · intro v hv0
    exact ⟨hb.drew, Nat.le_refl _, B0.drew, (fun h => by cases h), (fun h => by cases h), (fun h => by cases h), (fun h => by cases h), (fun h => by cases h), (fun h => by cases h), (fun h => by cases h), (fun h => by cases h), (fun h => by cases h), (fun h => by cases h), (fun h => by cases h), (fun h => by cases h), (fun h => by cases h)⟩
  · refine (.cons ?_ (.cons ?_ (.cons ?_ (.cons ?_ (.cons ?_ (.cons ?_ (.cons ?_ (.cons ?_ (.cons ?_ (.cons ?_ (.cons ?_ (.cons ?_ (.cons ?_ (.nil _))))))))))))))
    · intro L v wx hd hn ⟨hB, hz, s0, h0, h1, h2, h3, h4, h5, h6, h7, h8, h9, h10, h11, h12⟩ K hK
      rw [if_pos (by simp [Region.wanted])]
      refine zlc s0 Try.underlying24 Try.size24 ?_
      exact hK _ _ _ rfl ⟨hB, hz, s0, (fun _ => rfl), h1, h2, h3, h4, h5, h6, h7, h8, h9, h10, h11, h12⟩
    · intro L v wx hd hn ⟨hB, hz, s0, h0, h1, h2, h3, h4, h5, h6, h7, h8, h9, h10, h11, h12⟩ K hK
      have e0 := h0 (zdq hd 0 rfl)
      rw [if_pos (by simp [Region.wanted])]
      go_wp2_with (go_at_call 132; refine (HMU.out _).mono ?_; rintro e wy ⟨rfl, hy⟩)
      exact hK _ (.bool true) _ (by simp only [Act.put, pA, pB, pC, e0]) ⟨hB.trans (hy.mono hB.size), (Nat.le_trans hz hy.size), s0.zw hy, h0, (fun _ => rfl), h2, h3, h4, (fun h => (h5 h).below hy), h6, h7, h8, h9, h10, h11, h12⟩
    · intro L v wx hd hn ⟨hB, hz, s0, h0, h1, h2, h3, h4, h5, h6, h7, h8, h9, h10, h11, h12⟩ K hK
      have e1 := h1 (zdq hd 1 rfl)
      rw [if_pos (by simp [Region.wanted])]
      go_wp2_with fail
      exact hK _ (.bool true) _ (by simp only [Act.put, pA, pB, pC, e1]) ⟨hB, hz, s0, h0, h1, (fun _ => rfl), h3, h4, h5, h6, h7, h8, h9, h10, h11, h12⟩
    · intro L v wx hd hn ⟨hB, hz, s0, h0, h1, h2, h3, h4, h5, h6, h7, h8, h9, h10, h11, h12⟩ K hK
      have e2 := h2 (zdq hd 2 rfl)
      rw [if_pos (by simp [Region.wanted, yielded, e2])]
      go_wp2_with fail
      exact hK _ (.int .i64 (p : Int)) _ (by simp only [Act.put, pA, pB, pC, e2]) ⟨hB, hz, s0, h0, h1, h2, (fun _ => rfl), h4, h5, h6, h7, h8, h9, h10, h11, h12⟩
    · intro L v wx hd hn ⟨hB, hz, s0, h0, h1, h2, h3, h4, h5, h6, h7, h8, h9, h10, h11, h12⟩ K hK
      have e2 := h2 (zdq hd 2 rfl)
      rw [if_pos (by simp [Region.wanted, yielded, e2])]
      refine zlc s0 Try.underlying24 Try.size24 ?_
      exact hK _ _ _ rfl ⟨hB, hz, s0, h0, h1, h2, h3, (fun _ => rfl), h5, h6, h7, h8, h9, h10, h11, h12⟩
    · intro L v wx hd hn ⟨hB, hz, s0, h0, h1, h2, h3, h4, h5, h6, h7, h8, h9, h10, h11, h12⟩ K hK
      have e3 := h3 (zdq hd 3 rfl)
      have e4 := h4 (zdq hd 4 rfl)
      have e2 := h2 (zdq hd 2 rfl)
      rw [if_pos (by simp [Region.wanted, yielded, e2])]
      go_wp2_with (go_at_call 211; refine (HFA.out _).mono ?_; rintro e wy ⟨y5, rfl, hS5, hy⟩)
      have hFV : FV p w.heap.size x l y5 wy := hS5.base hB.size
      exact hK _ y5 _ (by simp only [Act.put, pA, pB, pC, e3, e4, e2]) ⟨hB.trans (hy.mono hB.size), (Nat.le_trans hz hy.size), s0.zw hy, h0, h1, h2, h3, h4, (fun _ => hFV), (fun h => absurd rfl (hn 6 _ rfl h ⟨5, .data⟩ (by simp) rfl)), (fun h => absurd rfl (hn 6 _ rfl (h7 h).1 ⟨5, .data⟩ (by simp) rfl)), h8, h9, h10, h11, h12⟩
    · intro L v wx hd hn ⟨hB, hz, s0, h0, h1, h2, h3, h4, h5, h6, h7, h8, h9, h10, h11, h12⟩ K hK
      have e2 := h2 (zdq hd 2 rfl)
      rw [if_pos (by simp [Region.wanted, yielded, e2])]
      have L5 := (zdq hd 5 rfl)
      obtain ⟨n5, c5, e5⟩ : ∃ g cap, v 5 = .slice (some ⟨g, 0, none⟩) (l.length + 1) cap := by
       have hf := h5 L5
       unfold FV at hf
       rcases hf.shape with ⟨_, h2⟩ | ⟨g, cap, h2⟩
       · simp [facRows] at h2
       · exact ⟨g, cap, by rw [h2, facRows_len]; rfl⟩
      have hPV : PV (v 5) (.pointer (some ⟨n5, 0, none⟩)) := ⟨n5, _, c5, e5, rfl⟩
      go_wp2_with fail
      exact hK _ (.pointer (some ⟨n5, 0, none⟩)) _ (by simp only [Act.put, pA, pB, pC, e2, e5]) ⟨hB, hz, s0, h0, h1, h2, h3, h4, h5, (fun _ => ⟨L5, hPV⟩), (fun h => absurd rfl (hn 7 _ rfl h ⟨6, .data⟩ (by simp) rfl)), h8, h9, h10, h11, h12⟩
    · intro L v wx hd hn ⟨hB, hz, s0, h0, h1, h2, h3, h4, h5, h6, h7, h8, h9, h10, h11, h12⟩ K hK
      have e2 := h2 (zdq hd 2 rfl)
      rw [if_pos (by simp [Region.wanted, yielded, e2])]
      have L6 := (zdq hd 6 rfl)
      obtain ⟨L5, n5, m5, c5, e5, e6⟩ := h6 L6
      have hPV : PV (v 5) (.pointer (some ⟨n5, 0, none⟩)) := ⟨n5, m5, c5, e5, rfl⟩
      go_wp2_with fail
      exact hK _ (.pointer (some ⟨n5, 0, none⟩)) _ (by simp only [Act.put, pA, pB, pC, e2, e5, e6]) ⟨hB, hz, s0, h0, h1, h2, h3, h4, h5, h6, (fun _ => ⟨L6, L5, hPV⟩), h8, h9, h10, h11, h12⟩
    · intro L v wx hd hn ⟨hB, hz, s0, h0, h1, h2, h3, h4, h5, h6, h7, h8, h9, h10, h11, h12⟩ K hK
      have e2 := h2 (zdq hd 2 rfl)
      rw [if_pos (by simp [Region.wanted, yielded, e2])]
      obtain ⟨L6, L5, n5, m5, c5, e5, e7⟩ := h7 (zdq hd 7 rfl)
      have hf := h5 L5
      unfold FV at hf
      rw [e5] at hf
      have hr := (hf.range (i := 0) (c := facC (ofN p x.1) x.2) rfl)
      rw [Nat.zero_mul] at hr
      have hr2 : wx.rangeAt n5 0 (bl 64 (ofN p x.1)) := fun j u hu => hr j u (by unfold facC; rw [List.getElem?_append_left (List.getElem?_eq_some_iff.1 hu).1]; exact hu)
      refine wp_load_mid 24 _ rfl _ 0 e7 _ _ hr2 Try.underlying24 rfl (by rw [zl]; exact Try.size24) ?_
      exact hK _ _ _ rfl ⟨hB, hz, s0, h0, h1, h2, h3, h4, h5, h6, h7, (fun _ => rfl), h9, h10, h11, h12⟩
    · intro L v wx hd hn ⟨hB, hz, s0, h0, h1, h2, h3, h4, h5, h6, h7, h8, h9, h10, h11, h12⟩ K hK
      have e2 := h2 (zdq hd 2 rfl)
      rw [if_pos (by simp [Region.wanted, yielded, e2])]
      refine zlc s0 Try.underlying24 Try.size24 ?_
      exact hK _ _ _ rfl ⟨hB, hz, s0, h0, h1, h2, h3, h4, h5, h6, h7, h8, (fun _ => rfl), h10, h11, h12⟩
    · intro L v wx hd hn ⟨hB, hz, s0, h0, h1, h2, h3, h4, h5, h6, h7, h8, h9, h10, h11, h12⟩ K hK
      have e8 := h8 (zdq hd 8 rfl)
      have e9 := h9 (zdq hd 9 rfl)
      have e2 := h2 (zdq hd 2 rfl)
      rw [if_pos (by simp [Region.wanted, yielded, e2])]
      go_wp2_with fail
      exact hK _ (.bool (irB p f)) _ (by simp only [Act.put, pA, pB, pC, e8, e9, e2]) ⟨hB, hz, s0, h0, h1, h2, h3, h4, h5, h6, h7, h8, h9, (fun _ => rfl), h11, h12⟩
    · intro L v wx hd hn ⟨hB, hz, s0, h0, h1, h2, h3, h4, h5, h6, h7, h8, h9, h10, h11, h12⟩ K hK
      have e2 := h2 (zdq hd 2 rfl)
      have e10 := h10 (zdq hd 10 rfl)
      rw [if_pos (by simp [Region.wanted])]
      go_wp2_with fail
      exact hK _ (.bool (irB p f)) _ (by simp only [Act.put, pA, pB, pC, e2, e10]) ⟨hB, hz, s0, h0, h1, h2, h3, h4, h5, h6, h7, h8, h9, h10, (fun _ => rfl), h12⟩
    · intro L v wx hd hn ⟨hB, hz, s0, h0, h1, h2, h3, h4, h5, h6, h7, h8, h9, h10, h11, h12⟩ K hK
      have e11 := h11 (zdq hd 11 rfl)
      rw [if_pos (by simp [Region.wanted])]
      go_wp2_with fail
      exact hK _ (.bool (irB p f)) _ (by simp only [Act.put, pA, pB, pC, e11]) ⟨hB, hz, s0, h0, h1, h2, h3, h4, h5, h6, h7, h8, h9, h10, h11, (fun _ => rfl)⟩
  · intro L v wx hL ⟨hB, hz, s0, h0, h1, h2, h3, h4, h5, h6, h7, h8, h9, h10, h11, h12⟩
    have e12 := h12 (hL 12 (by decide))
    simp only [Exit.then, e12]
    go_wp2_with fail
    go_ret
    exact ⟨by rw [HV.out]; rfl, hB⟩
end Go.Proofs.Yteloknnooebabaa
namespace Go.Proofs.Yteloknnooebabaa
open Go Go.RowKit
set_option linter.unusedVariables false
set_option linter.unusedSimpArgs false
theorem addK_subP {p : Nat} {f g : Nat → Nat} (hp : 0 < p) (hg : ∀ i, i < 64 → g i < p) : ∀ i, i < 64 → addK p f g (-1) i = subP p f g i := fun i hi => addK_neg hp hg hi
attribute [local irreducible] deg invN dS qS stp stpr quoP resP oneP eqS ofN dvo pmP eqf foI run bzD bzU bzW subP addK lowf monL TP monUp monB
set_option maxRecDepth 100000 in
theorem l01T_any (w : World) : Calls Try.prog 208 #[] w fun e w' => e = .returned (.agg (zb 64 TP)) ∧ Below w.heap.size w w' := by
 go_enter Try.func208, Try.ntmps208
 go_upto_region 1 with (fail)
 rw [← z64]
 have b0 := Blk.new w 64 24 (fun _ => 0)
 go_wp2_with (first | (refine zbo rfl 24 _ rfl (zb 64 TP) (by rw [Array.toList_map]; exact built_T) ?_) | (refine wpList_store_blk rfl 24 _ _ rfl _ 64 TP rfl rfl 24 _ b0 Try.size24 ?_))
 refine bodyPost_ret (zrb rfl _ _ _ 64 24 5 _ rfl (b0.row _) Try.underlying24 Try.size24) rfl ⟨rfl, zr (zal _ _) (Nat.le_refl _) _⟩
/-- the Frobenius of T, again and again -/
def Fc (p : Nat) (f : Nat → Nat) : Nat → (Nat → Nat)
 | 0 => resP p TP f
 | j + 1 => pmP p (Fc p f j) p f
def Cc (p : Nat) (f : Nat → Nat) (j : Nat) : Nat → Nat := bzD p f (subP p (Fc p f j) TP)
theorem Fc_ok {p : Nat} {f : Nat → Nat} (hp : p = 2 ∨ p = 3 ∨ p = 5 ∨ p = 7) (lf : ∀ k, k < 64 → f k < p) (h0 : 0 ≤ deg f) : ∀ j, (∀ k, k < 64 → Fc p f j k < p) ∧ rm p (lz f) (lz (Fc p f j)) (pwz TS (p ^ j))
 | 0 => by
  refine ⟨fun k hk => resP_lt (by omega) (fun k _ => TP_lt (by omega) k) k hk, ?_⟩
  have := res_rm (a := TP) hp (fun k _ => TP_lt (by omega) k) lf h0
  rw [lz_TP] at this
  rw [Nat.pow_zero, show pwz TS 1 = TS from mz_one TS]
  exact rm_symm this
 | j + 1 => by
  obtain ⟨i1, i2⟩ := Fc_ok hp lf h0 j
  exact ⟨(pmP_spec hp i1 lf h0 (Nat.lt_of_le_of_lt (by omega : p ≤ 7) (by decide))).1, frob_next hp lf h0 i1 i2⟩
theorem irr_of {p d : Nat} {f : Nat → Nat} (hp : p = 2 ∨ p = 3 ∨ p = 5 ∨ p = 7) (lf : ∀ k, f k < p) (hm : mon f d) (hd : 1 ≤ d) : (∃ e, irr p f e) ↔ ∀ j, 1 ≤ j → 2 * j ≤ d → deg (Cc p f j) = 0 := by
 have h0 : 0 ≤ deg f := by rw [hm.1]; omega
 have := irr_test hp lf hd hm (Cc p f) (fun j _ _ => stageC hp (fun k _ => lf k) h0 (Fc_ok hp (fun k _ => lf k) h0 j).1 (Fc_ok hp (fun k _ => lf k) h0 j).2)
 rw [← this]
 constructor
 · rintro ⟨e, he⟩
   have e1 := he.2.1.1
   have e2 := hm.1
   rw [e1] at e2
   have : e = d := by omega
   subst this; exact he
 · exact fun h => ⟨d, h⟩
noncomputable def irC (p : Nat) (f : Nat → Nat) : Bool := @decide (∃ d, irr p f d) (Classical.propDecidable _)
theorem irC_true {p : Nat} {f : Nat → Nat} (h : ∃ d, irr p f d) : irC p f = true := by unfold irC; exact (@decide_eq_true_iff _ (Classical.propDecidable _)).2 h
theorem irC_false {p : Nat} {f : Nat → Nat} (h : ¬ ∃ d, irr p f d) : irC p f = false := by unfold irC; exact (@decide_eq_false_iff_not _ (Classical.propDecidable _)).2 h
set_option maxRecDepth 100000 in
set_option maxHeartbeats 3200000 in
theorem l01Irr_core (p : Nat) (f : Nat → Nat) (d : Nat) (w : World) (hpr : p = 2 ∨ p = 3 ∨ p = 5 ∨ p = 7) (laf : ∀ k, f k < p) (hmon : mon f d) (hd12 : d ≤ 12) :
 Calls Try.prog 125 #[.int .i64 (p : Int), .agg (zb 64 f)] w fun e w' => e = .returned (.bool (irC p f)) ∧ Below w.heap.size w w' := by
 have p2 : 2 ≤ p := by omega
 have p7 : p ≤ 7 := by omega
 have p0 : 0 < p := by omega
 have lf : ∀ k, k < 64 → f k < p := fun k _ => laf k
 have hdf := hmon.1
 have h0 : 0 ≤ deg f := by omega
 have HLF := Lib.hid lf
 have HD := Lib.hid hdf
 have HFK := Lib.hid (fun j => (Fc_ok hpr lf h0 j).1)
 have HMT := Lib.hid (fun W => l01Mod_any p TP f W hpr (fun k _ => TP_lt p2 k) lf h0)
 have HPM := Lib.hid (show ∀ j W, Calls Try.prog 100 #[.int .i64 (p : Int), .agg (zb 64 (Fc p f j)), .int .i64 (p : Int), .agg (zb 64 f)] W fun e w' => e = .returned (.agg (zb 64 (Fc p f (j + 1)))) ∧ Below W.heap.size W w' from fun j W => l01PowMod_any p (Fc p f j) p f W hpr (HFK.out j) lf h0 (by omega))
 have HSB := Lib.hid (show ∀ j W, Calls Try.prog 127 #[.int .i64 (p : Int), .agg (zb 64 (Fc p f j)), .agg (zb 64 TP), .int .i64 (-1)] W fun e w' => e = .returned (.agg (zb 64 (subP p (Fc p f j) TP))) ∧ Below W.heap.size W w' from fun j W => (by have := l01Add_any p (Fc p f j) TP (-1) W p2 p7 (by omega) (by omega) (HFK.out j) (fun k _ => TP_lt p2 k); rwa [zbc (g := subP p (Fc p f j) TP) (addK_subP p0 (fun k _ => TP_lt p2 k))] at this))
 have HGC := Lib.hid (show ∀ j W, Calls Try.prog 209 #[.int .i64 (p : Int), .agg (zb 64 f), .agg (zb 64 (subP p (Fc p f j) TP))] W fun e w' => e = .returned (.agg (zb 64 (Cc p f j))) ∧ Below W.heap.size W w' from fun j W => l01Gcd_any p f (subP p (Fc p f j) TP) W hpr lf (fun k _ => subP_lt p0 k) (fun h => absurd h.1 (by omega)))
 have HIR := Lib.hid (fun hd1 => irr_of hpr laf hmon hd1)
 have HNO := Lib.hid (show d = 0 → ¬ ∃ e, irr p f e from fun h0 ⟨e, he⟩ => by have e1 := he.2.1.1; have e2 := he.1; rw [hdf] at e1; omega)
 clear lf laf hmon hdf
 go_enter Try.func125, Try.ntmps125
 go_upto_region 1 with (fail)
 obtain ⟨W1, hwo⟩ : ∃ v : World, v = (w.alloc (.cells (zb 64 (f)) 24)) := ⟨_, rfl⟩
 have B0 : Blk W1 (w.heap.size) 64 24 (f) := by subst hwo; have := (Blk.new w 64 24 (f)); simpa using this
 have hb : Below w.heap.size w W1 := by subst hwo; exact ((Below.refl _ _).alloc (Nat.le_refl _) _)
 rw [← hwo]
 clear hwo
 have lt_B0 : (w.heap.size) < W1.heap.size := B0.lt
 have hbase : w.heap.size ≤ W1.heap.size := hb.size
 refine zq Try.mixed (by kernel_rfl) (by kernel_rfl) (fun v => by (simp only [frL, Act.put, pA, pB, pC, Nat.reduceAdd, Nat.zero_add]; exact rfl))
  (fun L v W2 => Below w.heap.size w W2 ∧ W1.heap.size ≤ W2.heap.size ∧ Blk W2 (w.heap.size) 64 24 (f) ∧ (L 0 = true → v 0 = (.agg (zb 64 (f)))) ∧ (L 1 = true → v 1 = (.int .i64 (deg f))) ∧ (L 2 = true → v 2 = (.int .i64 (p : Int))) ∧ (L 3 = true → v 3 = (.agg (zb 64 (TP)))) ∧ (L 4 = true → v 4 = (.agg (zb 64 (f)))) ∧ (L 5 = true → v 5 = (.agg (zb 64 (resP p TP f)))) ∧ (L 6 = true → AF (v 6) W2 W1.heap.size 64 24) ∧ (L 7 = true → v 7 = (.int .i64 (deg f))) ∧ (L 8 = true → PF (v 6) W2 W1.heap.size 64 24 (resP p TP f))) ?_ ?_ ?_
 · intro v hv0
   exact ⟨hb.drew, Nat.le_refl _, B0.drew, (fun h => by cases h), (fun h => by cases h), (fun h => by cases h), (fun h => by cases h), (fun h => by cases h), (fun h => by cases h), (fun h => by cases h), (fun h => by cases h), (fun h => by cases h)⟩
 · refine (.cons rfl ?_ (.cons rfl ?_ (.cons rfl ?_ (.cons rfl ?_ (.cons rfl ?_ (.cons rfl ?_ (.cons rfl ?_ (.cons rfl ?_ (.cons rfl ?_ (.nil _))))))))))
   all_goals intro L v W2 hd hn ⟨hB, hz, s0, h0, h1, h2, h3, h4, h5, h6, h7, h8⟩ K hK
   · refine zlc s0 Try.underlying24 Try.size24 ?_
     exact hK _ _ _ rfl ⟨hB, hz, s0, (fun _ => rfl), h1, h2, h3, h4, h5, h6, h7, h8⟩
   · have e0 := h0 (zdq hd 0 rfl)
     go_wp2_with (go_at_call 124; refine (l01Deg_any f _).mono ?_; rintro e wy ⟨rfl, hy⟩)
     exact hK _ (.int .i64 (deg f)) _ (by simp only [Act.put, pA, pB, pC, e0]) ⟨hB.trans (hy.mono hB.size), (Nat.le_trans hz hy.size), s0.zw hy, h0, (fun _ => rfl), h2, h3, h4, h5, (fun h => (h6 h).below hy), h7, (fun h => (h8 h).below hy)⟩
   · go_wp2_with fail
     exact hK _ (.int .i64 (p : Int)) _ (by simp only [Act.put, pA, pB, pC ]) ⟨hB, hz, s0, h0, h1, (fun _ => rfl), h3, h4, h5, h6, h7, h8⟩
   · go_wp2_with (go_at_call 208; refine (l01T_any _).mono ?_; rintro e wy ⟨rfl, hy⟩)
     exact hK _ (.agg (zb 64 (TP))) _ (by simp only [Act.put, pA, pB, pC ]) ⟨hB.trans (hy.mono hB.size), (Nat.le_trans hz hy.size), s0.zw hy, h0, h1, h2, (fun _ => rfl), h4, h5, (fun h => (h6 h).below hy), h7, (fun h => (h8 h).below hy)⟩
   · refine zlc s0 Try.underlying24 Try.size24 ?_
     exact hK _ _ _ rfl ⟨hB, hz, s0, h0, h1, h2, h3, (fun _ => rfl), h5, h6, h7, h8⟩
   · have e2 := h2 (zdq hd 2 rfl)
     have e3 := h3 (zdq hd 3 rfl)
     have e4 := h4 (zdq hd 4 rfl)
     go_wp2_with (go_at_call 129; refine (HMT.out _).mono ?_; rintro e wy ⟨rfl, hy⟩)
     exact hK _ (.agg (zb 64 (resP p TP f))) _ (by simp only [Act.put, pA, pB, pC, e2, e3, e4]) ⟨hB.trans (hy.mono hB.size), (Nat.le_trans hz hy.size), s0.zw hy, h0, h1, h2, h3, h4, (fun _ => rfl), (fun h => (h6 h).below hy), h7, (fun h => (h8 h).below hy)⟩
   · go_wp2_with fail
     rw [← z64]
     exact hK _ (.pointer (some ⟨W2.heap.size, 0, none⟩)) _ (by simp only [Act.put, pA, pB, pC ]) ⟨hB.alloc hB.size _, (by simp; omega), (s0).alloc _, h0, h1, h2, h3, h4, h5, (fun _ => (PF.new W2 64 24 _ hz).af), h7, (fun h => absurd rfl (hn 8 _ rfl h ⟨6, .data⟩ (by simp) rfl))⟩
   · have e1 := h1 (zdq hd 1 rfl)
     go_wp2_with fail
     exact hK _ (.int .i64 (deg f)) _ (by simp only [Act.put, pA, pB, pC, e1]) ⟨hB, hz, s0, h0, h1, h2, h3, h4, h5, h6, (fun _ => rfl), h8⟩
   · have e5 := h5 (zdq hd 5 rfl)
     obtain ⟨gz, b, ea, hN, hk⟩ := (h6 (zdq hd 6 rfl)).out
     refine zsb 24 _ _ rfl b 64 (resP p TP f) ea e5 24 gz hk Try.size24 ?_
     exact hK _ undef _ rfl ⟨zr hB (Nat.le_trans hbase hN) _, (by simpa [World.setRow] using hz), (s0).rowOther (by omega), h0, h1, h2, h3, h4, h5, (fun h => (h6 h).row hk), h7, (fun _ => by rw [show updV v 8 undef 6 = v 6 from rfl, ea]; exact PF.row hk hN _)⟩
 · intro L v W2 hL ⟨hB, hz, s0, h0, h1, h2, h3, h4, h5, h6, h7, h8⟩
   have e0 := h0 (hL 0 (by decide))
   have e1 := h1 (hL 1 (by decide))
   have e2 := h2 (hL 2 (by decide))
   have e3 := h3 (hL 3 (by decide))
   have e4 := h4 (hL 4 (by decide))
   have e5 := h5 (hL 5 (by decide))
   have e7 := h7 (hL 7 (by decide))
   obtain ⟨k1_6, e6, hNk1_6, hk1_6⟩ := (h8 (hL 8 (by decide))).out
   clear hL h0 h1 h2 h3 h4 h5 h6 h7 h8
   simp only [Exit.then, e0, e1, e2, e3, e4, e5, e7, e6]
   clear e0 e1 e2 e3 e4 e5 e7 e6
   replace B0 := s0
   clear s0
   replace hb := hB
   clear hB
   have B1 := hk1_6
   clear hk1_6
   have zk1_6_0 : w.heap.size < k1_6 := by omega
   clear hbase hz lt_B0
   rw [HD.out]
   by_cases hd0 : d = 0
   · have HV := Lib.hid (irC_false (HNO.out hd0))
     have hd1 : (d : Int) < 1 := by omega
     clear hd0
     go_upto_region 2 with (fail)
     go_wp2_with fail
     go_ret
     exact ⟨by rw [HV.out]; rfl, hb⟩
   · have hd1 : 1 ≤ (d : Int) := by omega
     have HIR2 := Lib.hid (HIR.out (by omega))
     clear hd0
     go_upto_region 4 with (fail)
     go_wp2_with fail
     go_loopw [7] (fun i wr => ∃ n : Nat, i = .int .i64 ((n : Int) + 1) ∧ n ≤ d ∧ Hid (∀ j, 1 ≤ j → j ≤ n → deg (Cc p f j) = 0) ∧ Below w.heap.size w wr ∧ Blk wr (w.heap.size) 64 24 f ∧ Blk wr (k1_6) 64 24 (Fc p f n)) (fun i _ => 80 - (intOf i).toNat)
     case atStart => exact ⟨0, rfl, Nat.zero_le _, Lib.hid (fun j h1 h2 => by omega), hb, B0, B1⟩
     case round =>
      clear hb B0 B1
      obtain ⟨n, rfl, hnd, hall, hb, B0, B1⟩ := hrel
      by_cases h2 : 2 * (n + 1) ≤ d
      · have h3 : 2 * ((n : Int) + 1) ≤ (d : Int) := by omega
        go_upto_region 7 with (fail)
        have lt_B0 := B0.lt
        have lt_B1 := B1.lt
        go_upto_region 8 with (first | rw [← z64] | (refine zla (.tmp 6) B1 Try.underlying24 Try.size24 ?_) | (refine zla (.tmp 3) B0 Try.underlying24 Try.size24 ?_) | (go_at_call 100; refine (HPM.out n _).mono ?_; rintro e W3 ⟨rfl, hW3⟩; replace B0 := B0.zw hW3; replace B1 := B1.zw hW3; replace hb := (hb).trans (hW3.mono (hb).size)) | (refine zsr (.tmp 6) (.tmp 26) (Fc p f (n + 1)) B1 Try.size24 ?_; try simp only [Act.put]))
        obtain ⟨W4, hwo, hzQ⟩ : ∃ v : World, v = (W3.setRow (k1_6) (zb 64 (Fc p f (n + 1)))) ∧ Blk v (w.heap.size) 64 24 (f) ∧ Blk v (k1_6) 64 24 (Fc p f (n + 1)) ∧ Below w.heap.size w v := ⟨_, rfl, (B0.rowOther (by omega)), (B1.row (Fc p f (n + 1))), (zr hb (by omega) _)⟩
        rw [← hwo]
        clear hwo B0 B1 hb
        obtain ⟨B0, B1, hb⟩ := hzQ
        try simp only [Act.put, pA, pB, pC]
        by_cases hz : deg (Cc p f (n + 1)) = 0
        · have hq : ((deg (Cc p f (n + 1))) != 0) = false := by rw [hz]; rfl
          have HA := Lib.hid (show ∀ j, 1 ≤ j → j ≤ n + 1 → deg (Cc p f j) = 0 from fun j j1 j2 => by by_cases e : j = n + 1; (subst e; exact hz); exact hall.out j j1 (by omega))
          clear hz hall
          have lt_B0 : (w.heap.size) < W4.heap.size := B0.lt
          have lt_B1 : (k1_6) < W4.heap.size := B1.lt
          have hbase : w.heap.size ≤ W4.heap.size := hb.size
          refine zq Try.mixed (by kernel_rfl) (by kernel_rfl) (fun v => by (simp only [frL, Act.put, pA, pB, pC, Nat.reduceAdd, Nat.zero_add]; exact rfl))
           (fun L v W5 => Below w.heap.size w W5 ∧ W4.heap.size ≤ W5.heap.size ∧ Blk W5 (w.heap.size) 64 24 (f) ∧ Blk W5 (k1_6) 64 24 (Fc p f (n + 1)) ∧ (L 0 = true → v 0 = (.int .i64 (p : Int))) ∧ (L 1 = true → v 1 = (.agg (zb 64 (f)))) ∧ (L 2 = true → v 2 = (.int .i64 (p : Int))) ∧ (L 3 = true → v 3 = (.agg (zb 64 (Fc p f (n + 1))))) ∧ (L 4 = true → v 4 = (.agg (zb 64 (TP)))) ∧ (L 5 = true → v 5 = (.agg (zb 64 (subP p (Fc p f (n + 1)) TP)))) ∧ (L 6 = true → v 6 = (.agg (zb 64 (Cc p f (n + 1))))) ∧ (L 7 = true → v 7 = (.int .i64 (deg (Cc p f (n + 1))))) ∧ (L 8 = true → v 8 = (.bool false))) ?_ ?_ ?_
          · intro v hv0
            exact ⟨hb.drew, Nat.le_refl _, B0.drew, B1.drew, (fun h => by cases h), (fun h => by cases h), (fun h => by cases h), (fun h => by cases h), (fun h => by cases h), (fun h => by cases h), (fun h => by cases h), (fun h => by cases h), (fun h => by cases h)⟩
          · refine (.cons rfl ?_ (.cons rfl ?_ (.cons rfl ?_ (.cons rfl ?_ (.cons rfl ?_ (.cons rfl ?_ (.cons rfl ?_ (.cons rfl ?_ (.cons rfl ?_ (.nil _))))))))))
            all_goals intro L v W5 hd hn ⟨hB, hz, s0, s1, h0, h1, h2, h3, h4, h5, h6, h7, h8⟩ K hK
            · go_wp2_with fail
              exact hK _ (.int .i64 (p : Int)) _ (by simp only [Act.put, pA, pB, pC ]) ⟨hB, hz, s0, s1, (fun _ => rfl), h1, h2, h3, h4, h5, h6, h7, h8⟩
            · refine zlc s0 Try.underlying24 Try.size24 ?_
              exact hK _ _ _ rfl ⟨hB, hz, s0, s1, h0, (fun _ => rfl), h2, h3, h4, h5, h6, h7, h8⟩
            · go_wp2_with fail
              exact hK _ (.int .i64 (p : Int)) _ (by simp only [Act.put, pA, pB, pC ]) ⟨hB, hz, s0, s1, h0, h1, (fun _ => rfl), h3, h4, h5, h6, h7, h8⟩
            · refine zlc s1 Try.underlying24 Try.size24 ?_
              exact hK _ _ _ rfl ⟨hB, hz, s0, s1, h0, h1, h2, (fun _ => rfl), h4, h5, h6, h7, h8⟩
            · go_wp2_with (go_at_call 208; refine (l01T_any _).mono ?_; rintro e wy ⟨rfl, hy⟩)
              exact hK _ (.agg (zb 64 (TP))) _ (by simp only [Act.put, pA, pB, pC ]) ⟨hB.trans (hy.mono hB.size), (Nat.le_trans hz hy.size), s0.zw hy, s1.zw hy, h0, h1, h2, h3, (fun _ => rfl), h5, h6, h7, h8⟩
            · have e2 := h2 (zdq hd 2 rfl)
              have e3 := h3 (zdq hd 3 rfl)
              have e4 := h4 (zdq hd 4 rfl)
              go_wp2_with (go_at_call 127; refine (HSB.out (n + 1) _).mono ?_; rintro e wy ⟨rfl, hy⟩)
              exact hK _ (.agg (zb 64 (subP p (Fc p f (n + 1)) TP))) _ (by simp only [Act.put, pA, pB, pC, e2, e3, e4]) ⟨hB.trans (hy.mono hB.size), (Nat.le_trans hz hy.size), s0.zw hy, s1.zw hy, h0, h1, h2, h3, h4, (fun _ => rfl), h6, h7, h8⟩
            · have e0 := h0 (zdq hd 0 rfl)
              have e1 := h1 (zdq hd 1 rfl)
              have e5 := h5 (zdq hd 5 rfl)
              go_wp2_with (go_at_call 209; refine (HGC.out (n + 1) _).mono ?_; rintro e wy ⟨rfl, hy⟩)
              exact hK _ (.agg (zb 64 (Cc p f (n + 1)))) _ (by simp only [Act.put, pA, pB, pC, e0, e1, e5]) ⟨hB.trans (hy.mono hB.size), (Nat.le_trans hz hy.size), s0.zw hy, s1.zw hy, h0, h1, h2, h3, h4, h5, (fun _ => rfl), h7, h8⟩
            · have e6 := h6 (zdq hd 6 rfl)
              go_wp2_with (go_at_call 124; refine (l01Deg_any (Cc p f (n + 1)) _).mono ?_; rintro e wy ⟨rfl, hy⟩)
              exact hK _ (.int .i64 (deg (Cc p f (n + 1)))) _ (by simp only [Act.put, pA, pB, pC, e6]) ⟨hB.trans (hy.mono hB.size), (Nat.le_trans hz hy.size), s0.zw hy, s1.zw hy, h0, h1, h2, h3, h4, h5, h6, (fun _ => rfl), h8⟩
            · have e7 := h7 (zdq hd 7 rfl)
              go_wp2_with fail
              exact hK _ (.bool false) _ (by simp only [Act.put, pA, pB, pC, e7]) ⟨hB, hz, s0, s1, h0, h1, h2, h3, h4, h5, h6, h7, (fun _ => rfl)⟩
          · intro L v W5 hL ⟨hB, hz, s0, s1, h0, h1, h2, h3, h4, h5, h6, h7, h8⟩
            have e0 := h0 (hL 0 (by decide))
            have e1 := h1 (hL 1 (by decide))
            have e2 := h2 (hL 2 (by decide))
            have e3 := h3 (hL 3 (by decide))
            have e4 := h4 (hL 4 (by decide))
            have e5 := h5 (hL 5 (by decide))
            have e6 := h6 (hL 6 (by decide))
            have e7 := h7 (hL 7 (by decide))
            have e8 := h8 (hL 8 (by decide))
            clear hL h0 h1 h2 h3 h4 h5 h6 h7 h8
            simp only [Exit.then, e0, e1, e2, e3, e4, e5, e6, e7, e8]
            clear e0 e1 e2 e3 e4 e5 e6 e7 e8
            replace B0 := s0
            clear s0
            replace B1 := s1
            clear s1
            replace hb := hB
            clear hB
            clear hbase hz lt_B0 lt_B1
            go_wp2_with fail
            go_roundw
            case rel => exact ⟨n + 1, by go_num, by omega, HA, hb, B0, B1⟩
            case measure => simp [intOf] <;> omega
        · have hq : ((deg (Cc p f (n + 1))) != 0) = true := bne_iff_ne.2 hz
          have HV := Lib.hid (irC_false (fun h => hz (HIR2.out.1 h (n + 1) (by omega) h2)))
          clear hz hall
          have lt_B0 : (w.heap.size) < W4.heap.size := B0.lt
          have lt_B1 : (k1_6) < W4.heap.size := B1.lt
          have hbase : w.heap.size ≤ W4.heap.size := hb.size
          refine zq Try.mixed (by kernel_rfl) (by kernel_rfl) (fun v => by (simp only [frL, Act.put, pA, pB, pC, Nat.reduceAdd, Nat.zero_add]; exact rfl))
           (fun L v W5 => Below w.heap.size w W5 ∧ W4.heap.size ≤ W5.heap.size ∧ Blk W5 (w.heap.size) 64 24 (f) ∧ Blk W5 (k1_6) 64 24 (Fc p f (n + 1)) ∧ (L 0 = true → v 0 = (.int .i64 (p : Int))) ∧ (L 1 = true → v 1 = (.agg (zb 64 (f)))) ∧ (L 2 = true → v 2 = (.int .i64 (p : Int))) ∧ (L 3 = true → v 3 = (.agg (zb 64 (Fc p f (n + 1))))) ∧ (L 4 = true → v 4 = (.agg (zb 64 (TP)))) ∧ (L 5 = true → v 5 = (.agg (zb 64 (subP p (Fc p f (n + 1)) TP)))) ∧ (L 6 = true → v 6 = (.agg (zb 64 (Cc p f (n + 1))))) ∧ (L 7 = true → v 7 = (.int .i64 (deg (Cc p f (n + 1))))) ∧ (L 8 = true → v 8 = (.bool true))) ?_ ?_ ?_
          · intro v hv0
            exact ⟨hb.drew, Nat.le_refl _, B0.drew, B1.drew, (fun h => by cases h), (fun h => by cases h), (fun h => by cases h), (fun h => by cases h), (fun h => by cases h), (fun h => by cases h), (fun h => by cases h), (fun h => by cases h), (fun h => by cases h)⟩
          · refine (.cons rfl ?_ (.cons rfl ?_ (.cons rfl ?_ (.cons rfl ?_ (.cons rfl ?_ (.cons rfl ?_ (.cons rfl ?_ (.cons rfl ?_ (.cons rfl ?_ (.nil _))))))))))
            all_goals intro L v W5 hd hn ⟨hB, hz, s0, s1, h0, h1, h2, h3, h4, h5, h6, h7, h8⟩ K hK
            · go_wp2_with fail
              exact hK _ (.int .i64 (p : Int)) _ (by simp only [Act.put, pA, pB, pC ]) ⟨hB, hz, s0, s1, (fun _ => rfl), h1, h2, h3, h4, h5, h6, h7, h8⟩
            · refine zlc s0 Try.underlying24 Try.size24 ?_
              exact hK _ _ _ rfl ⟨hB, hz, s0, s1, h0, (fun _ => rfl), h2, h3, h4, h5, h6, h7, h8⟩
            · go_wp2_with fail
              exact hK _ (.int .i64 (p : Int)) _ (by simp only [Act.put, pA, pB, pC ]) ⟨hB, hz, s0, s1, h0, h1, (fun _ => rfl), h3, h4, h5, h6, h7, h8⟩
            · refine zlc s1 Try.underlying24 Try.size24 ?_
              exact hK _ _ _ rfl ⟨hB, hz, s0, s1, h0, h1, h2, (fun _ => rfl), h4, h5, h6, h7, h8⟩
            · go_wp2_with (go_at_call 208; refine (l01T_any _).mono ?_; rintro e wy ⟨rfl, hy⟩)
              exact hK _ (.agg (zb 64 (TP))) _ (by simp only [Act.put, pA, pB, pC ]) ⟨hB.trans (hy.mono hB.size), (Nat.le_trans hz hy.size), s0.zw hy, s1.zw hy, h0, h1, h2, h3, (fun _ => rfl), h5, h6, h7, h8⟩
            · have e2 := h2 (zdq hd 2 rfl)
              have e3 := h3 (zdq hd 3 rfl)
              have e4 := h4 (zdq hd 4 rfl)
              go_wp2_with (go_at_call 127; refine (HSB.out (n + 1) _).mono ?_; rintro e wy ⟨rfl, hy⟩)
              exact hK _ (.agg (zb 64 (subP p (Fc p f (n + 1)) TP))) _ (by simp only [Act.put, pA, pB, pC, e2, e3, e4]) ⟨hB.trans (hy.mono hB.size), (Nat.le_trans hz hy.size), s0.zw hy, s1.zw hy, h0, h1, h2, h3, h4, (fun _ => rfl), h6, h7, h8⟩
            · have e0 := h0 (zdq hd 0 rfl)
              have e1 := h1 (zdq hd 1 rfl)
              have e5 := h5 (zdq hd 5 rfl)
              go_wp2_with (go_at_call 209; refine (HGC.out (n + 1) _).mono ?_; rintro e wy ⟨rfl, hy⟩)
              exact hK _ (.agg (zb 64 (Cc p f (n + 1)))) _ (by simp only [Act.put, pA, pB, pC, e0, e1, e5]) ⟨hB.trans (hy.mono hB.size), (Nat.le_trans hz hy.size), s0.zw hy, s1.zw hy, h0, h1, h2, h3, h4, h5, (fun _ => rfl), h7, h8⟩
            · have e6 := h6 (zdq hd 6 rfl)
              go_wp2_with (go_at_call 124; refine (l01Deg_any (Cc p f (n + 1)) _).mono ?_; rintro e wy ⟨rfl, hy⟩)
              exact hK _ (.int .i64 (deg (Cc p f (n + 1)))) _ (by simp only [Act.put, pA, pB, pC, e6]) ⟨hB.trans (hy.mono hB.size), (Nat.le_trans hz hy.size), s0.zw hy, s1.zw hy, h0, h1, h2, h3, h4, h5, h6, (fun _ => rfl), h8⟩
            · have e7 := h7 (zdq hd 7 rfl)
              go_wp2_with fail
              exact hK _ (.bool true) _ (by simp only [Act.put, pA, pB, pC, e7]) ⟨hB, hz, s0, s1, h0, h1, h2, h3, h4, h5, h6, h7, (fun _ => rfl)⟩
          · intro L v W5 hL ⟨hB, hz, s0, s1, h0, h1, h2, h3, h4, h5, h6, h7, h8⟩
            have e0 := h0 (hL 0 (by decide))
            have e1 := h1 (hL 1 (by decide))
            have e2 := h2 (hL 2 (by decide))
            have e3 := h3 (hL 3 (by decide))
            have e4 := h4 (hL 4 (by decide))
            have e5 := h5 (hL 5 (by decide))
            have e6 := h6 (hL 6 (by decide))
            have e7 := h7 (hL 7 (by decide))
            have e8 := h8 (hL 8 (by decide))
            clear hL h0 h1 h2 h3 h4 h5 h6 h7 h8
            simp only [Exit.then, e0, e1, e2, e3, e4, e5, e6, e7, e8]
            clear e0 e1 e2 e3 e4 e5 e6 e7 e8
            replace B0 := s0
            clear s0
            replace B1 := s1
            clear s1
            replace hb := hB
            clear hB
            clear hbase hz lt_B0 lt_B1
            go_wp2_with fail
            go_ret
            exact ⟨by rw [HV.out]; rfl, hb⟩
      · have h3 : ¬ 2 * ((n : Int) + 1) ≤ (d : Int) := by omega
        have HV := Lib.hid (irC_true (HIR2.out.2 (fun j j1 j2 => hall.out j j1 (by omega))))
        clear h2
        go_upto_region 10 with (fail)
        go_wp2_with fail
        go_ret
        exact ⟨by rw [HV.out]; rfl, hb⟩
theorem l01Irreducible_any (p : Nat) (f : Nat → Nat) (d : Nat) (w : World) (hpr : p = 2 ∨ p = 3 ∨ p = 5 ∨ p = 7) (lf : ∀ k, k < 64 → f k < p) (hmon : mon f d) (hd12 : d ≤ 12) :
 Calls Try.prog 125 #[.int .i64 (p : Int), .agg (zb 64 f)] w fun e w' => e = .returned (.bool (irB p f)) ∧ Below w.heap.size w w' := by
 have := l01Irr_core p (cut f) d w hpr (cut_lt2 (by omega) lf) (mon_cut hmon) hd12
 rw [bcells_cut] at this
 exact this
end Go.Proofs.Yteloknnooebabaa
end
section
namespace Go.Proofs.Yteloknnooebabaa
open Go Go.RowKit
set_option linter.unusedVariables false
/-- the blocks of w, those of S aside, are in w' as they were -/
def Kx (S : List Nat) (w w' : World) : Prop := w.heap.size ≤ w'.heap.size ∧ ∀ b, b < w.heap.size → b ∉ S → w'.heap[b]? = w.heap[b]?
theorem Kx.start (S : List Nat) (w : World) : Kx S w w.drew := ⟨Nat.le_refl _, fun _ _ _ => rfl⟩
theorem Kx.below {S : List Nat} {w w1 w2 : World} (h : Kx S w w1) (hy : Below w1.heap.size w1 w2) : Kx S w w2 :=
 ⟨Nat.le_trans h.1 hy.size, fun b hb hs => (hy.block b (Nat.lt_of_lt_of_le hb h.1)).trans (h.2 b hb hs)⟩
theorem Kx.alloc {S : List Nat} {w w1 : World} (h : Kx S w w1) (o : Obj) : Kx S w (w1.alloc o) := h.below (zal _ _)
theorem Kx.row {S : List Nat} {w w1 : World} (h : Kx S w w1) {s : Nat} (hs : s ∈ S) (cs : Array Value) : Kx S w (w1.setRow s cs) :=
 ⟨by simpa [World.setRow] using h.1, fun b hb hn => by rw [setRow_other _ _ _ _ (fun e => hn (by rw [e]; exact hs))]; exact h.2 b hb hn⟩
end Go.Proofs.Yteloknnooebabaa
end
section
namespace Go.Proofs.Yteloknnooebabaa
open Go Go.RowKit
set_option linter.unusedVariables false
/-- the degree among the rows below n -/
def skN (F : Nat → Nat → Nat) : Nat → Int
 | 0 => -1
 | n + 1 => if eqN 64 (F n) (fun _ => 0) = true then skN F n else (n : Int)
def skD (F : Nat → Nat → Nat) : Int := skN F 8
attribute [irreducible] skN
end Go.Proofs.Yteloknnooebabaa
end
section
set_option linter.unusedVariables false
namespace Go.Proofs.Yteloknnooebabaa
open Rg
/-- T^q in the place of T -/
def strP (q : Nat) (x : Nat → Nat) : Nat → Nat := fun k => if k % q = 0 then x (k / q) else 0
end Go.Proofs.Yteloknnooebabaa
end
section
namespace Go.Proofs.Yteloknnooebabaa
open Go Go.RowKit
set_option linter.unusedVariables false
set_option linter.unusedSimpArgs false
attribute [local irreducible] deg addK
/-- sums, row by row -/
def skA (p : Nat) (F G : Nat → Nat → Nat) (k : Int) : Nat → Nat → Nat := fun i => addK p (F i) (G i) k
attribute [local irreducible] skA
end Go.Proofs.Yteloknnooebabaa
end
section
namespace Go.Proofs.Yteloknnooebabaa
open Go Go.RowKit
set_option linter.unusedVariables false
set_option linter.unusedSimpArgs false
attribute [local irreducible] deg irB monUp monB okA
/-- p and m are a field -/
noncomputable def flV (p : Int) (f : Nat → Nat) : Bool := okA p f && (monUp 4 f && irB p.toNat f)
theorem flV_1 {p : Int} {f : Nat → Nat} (h : okA p f = false) : flV p f = false := by unfold flV; rw [h]; rfl
theorem flV_2 {p : Int} {f : Nat → Nat} (h : monUp 4 f = false) : flV p f = false := by unfold flV; rw [h]; simp
theorem flV_3 {n : Nat} {f : Nat → Nat} (h : okA (n : Int) f = true) (h2 : monUp 4 f = true) : flV (n : Int) f = irB n f := by unfold flV; rw [h, h2]; rfl
theorem irV_up {p : Nat} {f : Nat → Nat} (h : monUp 4 f = true) : irV p f = irB p f := by
 have h2 : monUp 12 f = true := by
  rw [monUp_B] at h ⊢
  simp only [Bool.and_eq_true, decide_eq_true_eq] at h ⊢
  exact ⟨h.1, by omega⟩
 unfold irV; rw [h2]; rfl
theorem okA_nat {p : Int} {f : Nat → Nat} (h : okA p f = true) : ∃ n : Nat, p = (n : Int) ∧ (n = 2 ∨ n = 3 ∨ n = 5 ∨ n = 7) ∧ ∀ k, k < 64 → f k < n := by
 obtain ⟨n, hn, n2, n7⟩ := okP_nat (okA_p h)
 refine ⟨n, hn, ?_, fun k hk => ?_⟩
 · rcases okP_cases (okA_p h) with e | e | e | e <;> omega
 · have := okA_lt h hk; omega
set_option maxRecDepth 100000 in
set_option maxHeartbeats 800000 in
theorem impl_IsField_any (p : Int) (f : Nat → Nat) (hf : byte f) (w : World) :
 Calls Try.prog 113 #[.int .i64 p, .agg (zb 64 f)] w fun e w' => e = .returned (.bool (flV p f)) ∧ Below w.heap.size w w' := by
 go_enter Try.func113, Try.ntmps113
 go_upto_region 1 with (fail)
 obtain ⟨W1, hwo⟩ : ∃ v : World, v = (w.alloc (.cells (zb 64 (f)) 24)) := ⟨_, rfl⟩
 have B0 : Blk W1 (w.heap.size) 64 24 (f) := by subst hwo; have := (Blk.new w 64 24 (f)); simpa using this
 have hb : Below w.heap.size w W1 := by subst hwo; exact ((Below.refl _ _).alloc (Nat.le_refl _) _)
 rw [← hwo]
 clear hwo
 cases ho : okA p f with
 | false =>
  have HV := Lib.hid (flV_1 ho)
  go_wp2_with (first | (refine zla (.tmp 3) B0 Try.underlying24 Try.size24 ?_) | (go_at_call 201; refine (IsPoly_any _ f hf _).mono ?_; rintro e W2 ⟨rfl, hW2⟩; replace B0 := B0.zw hW2; replace hb := (hb).trans (hW2.mono (hb).size); try rw [ho]))
  go_ret
  exact ⟨by rw [HV.out]; rfl, hb⟩
 | true =>
  obtain ⟨n, rfl, hpr, lf⟩ := okA_nat ho
  cases hm : monUp 4 f with
  | false =>
   have HV := Lib.hid (flV_2 (p := (n : Int)) hm)
   go_wp2_with (first | (refine zla (.tmp 3) B0 Try.underlying24 Try.size24 ?_) | (go_at_call 201; refine (IsPoly_any _ f hf _).mono ?_; rintro e W2 ⟨rfl, hW2⟩; replace B0 := B0.zw hW2; replace hb := (hb).trans (hW2.mono (hb).size); try rw [ho]) | (refine zlg rfl 24 (.tmp 3) rfl _ rfl 64 24 _ (B0) _ Try.underlying24 rfl Try.size24 ?_) | (go_at_call 132; refine (isMonicUpTo_any 4 f hf _ (by decide) (by decide)).mono ?_; rintro e W3 ⟨rfl, hW3⟩; replace B0 := B0.zw hW3; replace hb := (hb).trans (hW3.mono (hb).size); try rw [hm]))
   go_ret
   exact ⟨by rw [HV.out]; rfl, hb⟩
  | true =>
   have HV := Lib.hid (flV_3 ho hm)
   have HI := Lib.hid (fun W => isIrreducible_any n f W hpr lf)
   rw [irV_up hm] at HI
   go_wp2_with (first | (refine zla (.tmp 3) B0 Try.underlying24 Try.size24 ?_) | (go_at_call 201; refine (IsPoly_any _ f hf _).mono ?_; rintro e W2 ⟨rfl, hW2⟩; replace B0 := B0.zw hW2; replace hb := (hb).trans (hW2.mono (hb).size); try rw [ho]) | (refine zlg rfl 24 (.tmp 3) rfl _ rfl 64 24 _ (B0) _ Try.underlying24 rfl Try.size24 ?_) | (go_at_call 132; refine (isMonicUpTo_any 4 f hf _ (by decide) (by decide)).mono ?_; rintro e W3 ⟨rfl, hW3⟩; replace B0 := B0.zw hW3; replace hb := (hb).trans (hW3.mono (hb).size); try rw [hm]) | (refine zlg rfl 24 (.tmp 3) rfl _ rfl 64 24 _ (B0) _ Try.underlying24 rfl Try.size24 ?_) | (go_at_call 133; refine (HI.out _).mono ?_; rintro e W4 ⟨rfl, hW4⟩; replace B0 := B0.zw hW4; replace hb := (hb).trans (hW4.mono (hb).size)))
   go_ret
   exact ⟨by rw [HV.out]; rfl, hb⟩
end Go.Proofs.Yteloknnooebabaa
end
section
namespace Go.Proofs.Yteloknnooebabaa
open Rg
set_option linter.unusedVariables false
/-- the Frobenius -/
def frI (p : Nat) (m x : Nat → Nat) : Nat → Nat := resP p (strP p x) m
/-- taken n times -/
def frN (p : Nat) (m x : Nat → Nat) : Nat → (Nat → Nat)
 | 0 => x
 | n + 1 => frI p m (frN p m x n)
end Go.Proofs.Yteloknnooebabaa
end
section
namespace Go.Proofs.Yteloknnooebabaa
open Rg
set_option linter.unusedVariables false
/-- one row of the product -/
def tmJ (p : Nat) (m : Nat → Nat) (d : Nat) (F G : Nat → Nat → Nat) (i : Nat) (O : Nat → Nat → Nat) : Nat → (Nat → Nat → Nat)
 | 0 => O
 | j + 1 => updR (tmJ p m d F G i O j) (i + j) (addK p (tmJ p m d F G i O j (i + j)) (mmP p (F i) (frN p m (G j) (i % d)) m) 1)
/-- the rows below i -/
def tmR (p : Nat) (m : Nat → Nat) (d : Nat) (F G : Nat → Nat → Nat) (n : Nat) : Nat → (Nat → Nat → Nat)
 | 0 => fun _ _ => 0
 | i + 1 => tmJ p m d F G i (tmR p m d F G n i) n
def tmP (p : Nat) (m : Nat → Nat) (d : Nat) (F G : Nat → Nat → Nat) : Nat → Nat → Nat := tmR p m d F G (skD G + 1).toNat (skD F + 1).toNat
attribute [irreducible] tmJ tmR tmP
end Go.Proofs.Yteloknnooebabaa
end
section
namespace Go.Proofs.Yteloknnooebabaa
open Rg
set_option linter.unusedVariables false
/-- one coefficient -/
def sng (i : Nat) (a : Nat → Nat) : Nat → Nat → Nat := updR (fun _ _ => 0) i a
end Go.Proofs.Yteloknnooebabaa
end
section
namespace Go.Proofs.Yteloknnooebabaa
open Rg
set_option linter.unusedVariables false
/-- the next leading coefficient of a quotient -/
def dvA (p : Nat) (m : Nat → Nat) (d : Nat) (F G : Nat → Nat → Nat) : Nat → Nat :=
 mmP p (F (skD F).toNat) (bzU p (frN p m (G (skD G).toNat) (((skD F).toNat - (skD G).toNat) % d)) m) m
/-- the term of the quotient -/
def dvT (p : Nat) (m : Nat → Nat) (d : Nat) (F G : Nat → Nat → Nat) : Nat → Nat → Nat := sng ((skD F).toNat - (skD G).toNat) (dvA p m d F G)
/-- what is left -/
def dvF (p : Nat) (m : Nat → Nat) (d : Nat) (F G : Nat → Nat → Nat) : Nat → Nat → Nat := skA p F (tmP p m d (dvT p m d F G) G) (-1)
end Go.Proofs.Yteloknnooebabaa
end
section
namespace Go.Proofs.Yteloknnooebabaa
open Go Go.RowKit
set_option linter.unusedVariables false
/-- the address of a slice whose first A rows are F -/
def SlR (w : World) (a : Option Addr) (A : Nat) (F : Nat → Nat → Nat) : Prop :=
 A = 0 ∨ ∃ b n t, a = some ⟨b, 0, none⟩ ∧ A ≤ n ∧ Blk w b (n * 64) t (fl 64 F)
theorem SlR.has {w : World} {a : Option Addr} {A : Nat} {F : Nat → Nat → Nat} (h : SlR w a A F) (hA : 0 < A) : ∃ b n t, a = some ⟨b, 0, none⟩ ∧ A ≤ n ∧ Blk w b (n * 64) t (fl 64 F) := by
 rcases h with h | h
 · omega
 · exact h
theorem SlR.of {w : World} {b n A : Nat} {t : TypeId} {F : Nat → Nat → Nat} (h : Blk w b (n * 64) t (fl 64 F)) (hA : A ≤ n) : SlR w (some ⟨b, 0, none⟩) A F := .inr ⟨b, n, t, rfl, hA, h⟩
theorem SlR.nil (w : World) (F : Nat → Nat → Nat) : SlR w none 0 F := .inl rfl
theorem SlR.below {w w' : World} {a : Option Addr} {A : Nat} {F : Nat → Nat → Nat} (h : SlR w a A F) (hb : Below w.heap.size w w') : SlR w' a A F := by
 rcases h with h | ⟨b, n, t, e, hA, h⟩
 · exact .inl h
 · exact .inr ⟨b, n, t, e, hA, h.zw hb⟩
attribute [irreducible] SlR
end Go.Proofs.Yteloknnooebabaa
end
section
namespace Go.Proofs.Yteloknnooebabaa
open Go Go.RowKit
set_option linter.unusedVariables false
section
variable {P : Program}
theorem wp_load_rowc {o : Oper} {a : Act} {w : World} {K : Act → World → Prop} {Q : Exit → Act → World → Prop} (ty : TypeId) (x : Operand) (ho : o.op = .load ty x)
 (b i : Nat) (hx : a.eval x = .pointer (some ⟨b, i, none⟩)) (t : TypeId) (cs : Array Value) (hb : Row w b t cs) (v : Value) (hi : cs[i]? = some v) (d : TypeDesc)
 (hu : P.underlying ty = some d) (hd : (match d with | .struct _ | .array _ _ => true | _ => false) = false) (h : K (a.put o.dst v) w) : o.wp P a w K Q := by
 have hc := hb.cell hi
 have hagg : (isAgg ty).run P w = .ok false w := by
  unfold isAgg
  rw [Sem.run_bind, run_underlying hu w]
  cases d <;> simp_all
 unfold Oper.wp execOp
 simp only [ho, hx, Instr.loadAt, Instr.sureAddr, Sem.run_bind, Sem.run_pure, Result.andThen_ok, loadVar, hagg, Bool.false_eq_true, if_false, Sem.run_ite, run_load, hc]
 exact h
theorem wpList_load_rowc {ops : Array Oper} {rest : List Oper} {o : Oper} {a : Act} {w : World} {Q : Exit → Act → World → Prop} (hgd : o.guard = none) (ty : TypeId) (x : Operand) (ho : o.op = .load ty x)
 (b i : Nat) (hx : a.eval x = .pointer (some ⟨b, i, none⟩)) (t : TypeId) (cs : Array Value) (hb : Row w b t cs) (v : Value) (hi : cs[i]? = some v) (d : TypeDesc)
 (hu : P.underlying ty = some d) (hd : (match d with | .struct _ | .array _ _ => true | _ => false) = false) (h : wpList P ops Q rest (a.put o.dst v) w) : wpList P ops Q (o :: rest) a w :=
 wpList_plain hgd fun _ hK => wp_load_rowc ty x ho b i hx t cs hb v hi d hu hd (hK _ _ h)
end
end Go.Proofs.Yteloknnooebabaa
end
section
namespace Go.Proofs.Yteloknnooebabaa
open Go Go.RowKit
set_option linter.unusedVariables false
theorem drC_at (p : Int) (m G D : Nat → Nat) : (drC p m G D).toArray[0]? = some (.int .i64 p) := by simp [drC]
theorem drC_all (p : Int) (m G D : Nat → Nat) : (drC p m G D).toArray.all (·.oneCell') = true := Array.all_eq_true_iff_forall_mem.2 fun u hu => by
 have hu' : u ∈ drC p m G D := by simpa using hu
 unfold drC at hu'
 have key : ∀ g : Nat → Nat, u ∈ bl 64 g → u.oneCell' = true := fun g h => by
  unfold bl at h
  obtain ⟨i, _, rfl⟩ := List.mem_map.1 h
  rfl
 rcases List.mem_cons.1 hu' with h | h
 · subst h; rfl
 · rcases List.mem_append.1 h with h | h
   · exact key m h
   · rcases List.mem_append.1 h with h | h
     · exact key G h
     · exact key D h
theorem range_part {w : World} {b : Nat} {t : TypeId} {pre c post : List Value} (h : Row w b t (pre ++ (c ++ post)).toArray) : w.rangeAt b pre.length c := by
 intro j v hv
 have := h.range (pre.length + j) v (by
  have hj : j < c.length := (List.getElem?_eq_some_iff.1 hv).1
  rw [List.getElem?_append_right (by omega), Nat.add_sub_cancel_left, List.getElem?_append_left hj]; exact hv)
 rwa [Nat.zero_add] at this
theorem Row.drm {w : World} {b : Nat} {t : TypeId} {p : Int} {m G D : Nat → Nat} (h : Row w b t (drC p m G D).toArray) : w.rangeAt b 1 (bl 64 m) := range_part (pre := [.int .i64 p]) (c := bl 64 m) (post := bl 64 G ++ bl 64 D) h
theorem Row.drg {w : World} {b : Nat} {t : TypeId} {p : Int} {m G D : Nat → Nat} (h : Row w b t (drC p m G D).toArray) : w.rangeAt b 65 (bl 64 G) := by
 have := range_part (w := w) (b := b) (t := t) (pre := .int .i64 p :: bl 64 m) (c := bl 64 G) (post := bl 64 D) (by simpa [drC] using h)
 rwa [List.length_cons, zl] at this
theorem Row.drd {w : World} {b : Nat} {t : TypeId} {p : Int} {m G D : Nat → Nat} (h : Row w b t (drC p m G D).toArray) : w.rangeAt b 129 (bl 64 D) := by
 have := range_part (w := w) (b := b) (t := t) (pre := .int .i64 p :: (bl 64 m ++ bl 64 G)) (c := bl 64 D) (post := []) (by simpa [drC] using h)
 rw [List.length_cons, List.length_append, zl, zl] at this; exact this
theorem Try.size58 : (Try.prog.info? 58).map (·.size) = some 193 := by kernel_rfl
end Go.Proofs.Yteloknnooebabaa
end
section
namespace Go.Proofs.Yteloknnooebabaa
open Go Go.RowKit
set_option linter.unusedVariables false
set_option linter.unusedSimpArgs false
attribute [local irreducible] deg irB monUp monB okA frN mmP
theorem flV_fld {p : Int} {m : Nat → Nat} (h1 : flV p m = true) : ∃ n : Nat, p = (n : Int) ∧ (n = 2 ∨ n = 3 ∨ n = 5 ∨ n = 7) ∧ (∀ k, k < 64 → m k < n) ∧ ∃ d, mon m d ∧ 1 ≤ d ∧ d ≤ 4 := by
 have ho : okA p m = true := by
  cases ho : okA p m with
  | true => rfl
  | false => rw [flV_1 ho] at h1; cases h1
 have hm : monUp 4 m = true := by
  cases hm : monUp 4 m with
  | true => rfl
  | false => rw [flV_2 hm] at h1; cases h1
 obtain ⟨n, hn, hpr, hl⟩ := okA_nat ho
 obtain ⟨d, a1, a2, a3⟩ := mon_up hm
 exact ⟨n, hn, hpr, hl, d, a1, a2, by omega⟩
end Go.Proofs.Yteloknnooebabaa
end
section
namespace Go.Proofs.Yteloknnooebabaa
open Rg
set_option linter.unusedVariables false
/-- long division: T the next term, N what is left, g the degree of the divisor -/
def gdR (p : Nat) (T N : (Nat → Nat → Nat) → (Nat → Nat → Nat)) (g : Int) : Nat → (Nat → Nat → Nat) → (Nat → Nat → Nat) → (Nat → Nat → Nat) × (Nat → Nat → Nat)
 | 0, Q, F => (Q, F)
 | fu + 1, Q, F => if skD F < g then (Q, F) else gdR p T N g fu (skA p Q (T F) 1) (N F)
/-- quotient and rest from the right -/
def dq (p : Nat) (m : Nat → Nat) (d : Nat) (F G : Nat → Nat → Nat) : (Nat → Nat → Nat) × (Nat → Nat → Nat) := gdR p (fun F => dvT p m d F G) (fun F => dvF p m d F G) (skD G) 8 (fun _ _ => 0) F
def eD (p : Nat) (m : Nat → Nat) (d : Nat) : Nat → (Nat → Nat → Nat) → (Nat → Nat → Nat) → (Nat → Nat → Nat)
 | 0, A, B => A
 | n + 1, A, B => if skD B < 0 then A else eD p m d n B (dq p m d A B).2
attribute [irreducible] gdR dq eD
end Go.Proofs.Yteloknnooebabaa
end
section
namespace Go.Proofs.Yteloknnooebabaa
open Go Go.RowKit
set_option linter.unusedVariables false
set_option linter.unusedSimpArgs false
attribute [local irreducible] deg irB monUp monB okA frN mmP pmP bzU
attribute [local irreducible] drC
set_option maxRecDepth 100000 in
set_option maxHeartbeats 1600000 in
theorem eqDrinfeld_same (p : Int) (m G D : Nat → Nat) (w : World) :
 Calls Try.prog 69 #[(.agg (drC p m G D).toArray), (.agg (drC p m G D).toArray)] w fun e w' => e = .returned (.bool true) ∧ Below w.heap.size w w' := by
 have hne : ((p) != (p)) = false := by simp
 go_enter Try.func69, Try.ntmps69
 go_upto_region 1 with (fail)
 obtain ⟨W1, hwo⟩ : ∃ v : World, v = ((w.alloc (.cells (drC p m G D).toArray 58)).alloc (.cells (drC p m G D).toArray 58)) := ⟨_, rfl⟩
 have B0 : Row W1 (w.heap.size) 58 (drC p m G D).toArray := by subst hwo; have := ((Row.new w 58 (drC p m G D).toArray).alloc (.cells (drC p m G D).toArray 58)); simpa using this
 have B1 : Row W1 (w.heap.size + 1) 58 (drC p m G D).toArray := by subst hwo; have := (Row.new (w.alloc (.cells (drC p m G D).toArray 58)) 58 (drC p m G D).toArray); simpa using this
 have hb : Below w.heap.size w W1 := by subst hwo; exact (((Below.refl _ _).alloc (Nat.le_refl _) _).alloc (by simp) _)
 rw [← hwo]
 clear hwo
 go_upto_region 3 with (first | (refine wpList_load_rowc rfl 2 (.tmp 5) rfl _ 0 rfl 58 _ (B0) (.int .i64 p) (drC_at _ _ _ _) _ Try.underlying2 rfl ?_) | (refine wpList_load_rowc rfl 2 (.tmp 7) rfl _ 0 rfl 58 _ (B1) (.int .i64 p) (drC_at _ _ _ _) _ Try.underlying2 rfl ?_))
 go_upto_region 5 with (first | (refine wpList_load_mid rfl 24 (.tmp 10) rfl _ 1 rfl (bl 64 m) _ (B0.drm) Try.underlying24 rfl (by rw [zl]; exact Try.size24) ?_) | (refine wpList_load_mid rfl 24 (.tmp 12) rfl _ 1 rfl (bl 64 m) _ (B1.drm) Try.underlying24 rfl (by rw [zl]; exact Try.size24) ?_) | (go_at_call 49; refine (eqPoly_same _ _ (fun _ _ => rfl) _).mono ?_; rintro e W2 ⟨rfl, hW2⟩; replace B0 := B0.zw hW2; replace B1 := B1.zw hW2; replace hb := (hb).trans (hW2.mono (hb).size)))
 go_upto_region 7 with (first | (refine wpList_load_mid rfl 24 (.tmp 16) rfl _ 65 rfl (bl 64 G) _ (B0.drg) Try.underlying24 rfl (by rw [zl]; exact Try.size24) ?_) | (refine wpList_load_mid rfl 24 (.tmp 18) rfl _ 65 rfl (bl 64 G) _ (B1.drg) Try.underlying24 rfl (by rw [zl]; exact Try.size24) ?_) | (go_at_call 49; refine (eqPoly_same _ _ (fun _ _ => rfl) _).mono ?_; rintro e W3 ⟨rfl, hW3⟩; replace B0 := B0.zw hW3; replace B1 := B1.zw hW3; replace hb := (hb).trans (hW3.mono (hb).size)))
 go_upto_region 9 with (first | (refine wpList_load_mid rfl 24 (.tmp 22) rfl _ 129 rfl (bl 64 D) _ (B0.drd) Try.underlying24 rfl (by rw [zl]; exact Try.size24) ?_) | (refine wpList_load_mid rfl 24 (.tmp 24) rfl _ 129 rfl (bl 64 D) _ (B1.drd) Try.underlying24 rfl (by rw [zl]; exact Try.size24) ?_) | (go_at_call 49; refine (eqPoly_same _ _ (fun _ _ => rfl) _).mono ?_; rintro e W4 ⟨rfl, hW4⟩; replace B0 := B0.zw hW4; replace B1 := B1.zw hW4; replace hb := (hb).trans (hW4.mono (hb).size)))
 go_wp2_with fail
 go_ret
 exact ⟨rfl, hb⟩
end Go.Proofs.Yteloknnooebabaa
end
section
namespace Go.Proofs.Yteloknnooebabaa
open Go Go.RowKit
set_option linter.unusedVariables false
set_option linter.unusedSimpArgs false
attribute [local irreducible] deg invN dS qS stp stpr quoP resP oneP ofN dvo spI spO run lowf monL finL facRows
theorem slL_empty (w : World) (e : TypeId) (size : Nat) {base : Nat} (h : base ≤ w.heap.size) : SlL (w.alloc (.cells #[] e)) base e size (.slice (some ⟨w.heap.size, 0, none⟩) 0 0) [] := by
 delta SlL
 refine ⟨?_, ?_, ?_⟩
 · simp; omega
 · intro c hc; cases hc
 · exact ⟨by simp, .inr ⟨w.heap.size, 0, #[], rfl, h, heap_alloc_last w _, Nat.le_refl _, Nat.zero_le _, by simp, by simp⟩⟩
set_option maxRecDepth 100000 in
set_option maxHeartbeats 12800000 in
theorem l01Count_any (p n : Nat) (w : World) (hp1 : 2 ≤ p) (hp2 : p ≤ 7) (hn : n ≤ 12) :
 Calls Try.prog 163 #[.int .i64 (p : Int), .int .i64 (n : Int)] w fun e w' => e = .returned (.int .i64 ((p ^ n : Nat) : Int)) ∧ w = w' := by
 go_enter Try.func163, Try.ntmps163
 go_wp2_with fail
 go_loopw [5, 1] (fun x i wr => ∃ k j X : Nat, k + j = n ∧ X = p ^ k ∧ x = .int .i64 (X : Int) ∧ i = .int .i64 (j : Int) ∧ wr = w) (fun _ i _ => (intOf i).toNat)
 case atStart => exact ⟨0, n, 1, by omega, rfl, rfl, rfl, rfl⟩
 case round =>
  obtain ⟨k, j, X, hk, hX, rfl, rfl, rfl⟩ := hrel
  have hb := mon_bound hp2 (by omega : k ≤ 12)
  rw [← hX] at hb
  have hX12 : (X : Int) ≤ 1000000000000 := by omega
  have HK := Lib.hid hk
  have hj20 : j ≤ 20 := by omega
  clear hk
  by_cases hlt : 0 < j
  · have hm : ((X * p : Nat) : Int) ≤ 13841287201 * 7 := by
     have : X * p ≤ 13841287201 * 7 := Nat.mul_le_mul hb hp2
     omega
    have hm2 : 0 ≤ ((X * p : Nat) : Int) := by omega
    rw [Int.natCast_mul] at hm hm2
    have HX := Lib.hid hX; clear hX
    go_wp2_with fail
    go_roundw
    case rel => exact ⟨k + 1, j - 1, X * p, by have := HK.out; omega, by rw [Nat.pow_succ, ← HX.out], by go_num, by rw [show ((j - 1 : Nat) : Int) = (j : Int) - 1 by omega], trivial⟩
    case measure => simp [intOf]; omega
  · have e : j = 0 := by omega
    subst e
    have e2 : k = n := by have := HK.out; omega
    have hmn : ((X : Int) < 1000000000001) := by omega
    have HX := Lib.hid hX
    have HK2 := Lib.hid e2
    clear hX e2
    go_wp2_with fail
    go_ret
    exact ⟨ret_int (congrArg (fun x : Nat => (x : Int)) (by rw [HX.out, HK2.out])), rfl⟩
end Go.Proofs.Yteloknnooebabaa
end
section
namespace Go.Proofs.Yteloknnooebabaa
open Go Go.RowKit
set_option linter.unusedVariables false
set_option linter.unusedSimpArgs false
/-- the mark of a cell -/
def mkF (q : Nat) : Value := if q % 65 = 64 then .int .i64 (1 + (q : Int)) else .int .u8 ((1 + (q : Int)) % 256)
/-- the first q cells of a slice are marked -/
def MkF (w : World) (base : Nat) (v : Value) (n q : Nat) : Prop := ∃ ys, w.ownsRow base 186 65 v n ys ∧ ∀ k, k < q → ys[k]? = some (mkF k)
theorem MkF.len {w : World} {base n q : Nat} {v : Value} (h : MkF w base v n q) : True := trivial
theorem MkF.own {w : World} {base n q : Nat} {v : Value} (h : MkF w base v n q) : ∀ r, v.ownBlock = Option.some r → base ≤ r ∧ r < w.heap.size := by
 obtain ⟨ys, h1, _⟩ := h
 exact fun r hr => h1.lt r hr
theorem MkF.grown {w w' : World} {base n q : Nat} {v : Value} {row : Option Nat} (h : MkF w base v n q) (hg : w.grownBy w' row) (hr : v.ownBlock = none ∨ v.ownBlock ≠ row) : MkF w' base v n q := by
 obtain ⟨ys, h1, h2⟩ := h
 exact ⟨ys, h1.kept hg hr, h2⟩
theorem MkF.below {w w' : World} {base n q : Nat} {v : Value} (h : MkF w base v n q) (hb : Below w.heap.size w w') : MkF w' base v n q :=
 h.grown (row := none) ⟨hb.os, hb.tape, hb.output, hb.size, fun k hk _ => hb.block k hk⟩ (by
  cases hv : v.ownBlock with
  | none => exact .inl rfl
  | some k => exact .inr (by simp))
theorem MkF.step {w : World} {base n q g cap : Nat} (h : MkF w base (.slice (some ⟨g, 0, none⟩) n cap) n q) (hq : q < n * 65) :
 (∃ u, w.cell? ⟨g, q, none⟩ = Option.some u) ∧ w.frozen? ⟨g, q, none⟩ = false ∧ MkF (w.setCell ⟨g, q, none⟩ (mkF q)) base (.slice (some ⟨g, 0, none⟩) n cap) n (q + 1) ∧ w.grownBy (w.setCell ⟨g, q, none⟩ (mkF q)) (Option.some g) := by
 obtain ⟨ys, h1, h2⟩ := h
 have hl : q < ys.length := by rw [h1.1]; exact hq
 obtain ⟨s1, s2⟩ := h1.stored q (mkF q)
 refine ⟨⟨ys[q], by rw [h1.cellAt q hq]; exact List.getElem?_eq_getElem hl⟩, h1.frozenAt q, ⟨_, s1, fun k hk => ?_⟩, s2⟩
 rw [List.getElem?_set]
 by_cases e : q = k
 · subst e; rw [if_pos rfl, if_pos hl]
 · rw [if_neg e]; exact h2 k (by omega)
theorem MkF.cell {w : World} {base n q g cap k : Nat} (h : MkF w base (.slice (some ⟨g, 0, none⟩) n cap) n q) (hk : k < q) (hq : q ≤ n * 65) : w.cell? ⟨g, k, none⟩ = Option.some (mkF k) := by
 obtain ⟨ys, h1, h2⟩ := h
 rw [h1.cellAt k (by omega)]
 exact h2 k hk
theorem MkF.same {w : World} {base n q : Nat} {v : Value} (h : MkF w base v n q) (r : Nat) (e : r = q) : MkF w base v n r := e ▸ h
theorem grown_trans {w w1 w2 : World} {row : Option Nat} (h1 : w.grownBy w1 row) (h2 : w1.grownBy w2 row) : w.grownBy w2 row :=
 ⟨h2.os.trans h1.os, h2.tape.trans h1.tape, h2.output.trans h1.output, Nat.le_trans h1.size h2.size, fun k hk hr => (h2.block k (Nat.lt_of_lt_of_le hk h1.size) hr).trans (h1.block k hk hr)⟩
theorem grown_refl (w : World) (row : Option Nat) : w.grownBy w row := ⟨rfl, rfl, rfl, Nat.le_refl _, fun _ _ _ => rfl⟩
theorem slL_apart {w w' : World} {base size : Nat} {e : TypeId} {v : Value} {cs : List (List Value)} {row : Option Nat} (h : SlL w base e size v cs) (hg : w.grownBy w' row) (hr : v.ownBlock = none ∨ v.ownBlock ≠ row) : SlL w' base e size v cs := by
 delta SlL at *
 exact ⟨Nat.le_trans h.1 hg.size, h.2.1, h.2.2.kept hg hr⟩
attribute [local irreducible] mkF MkF
end Go.Proofs.Yteloknnooebabaa
namespace Go.Proofs.Yteloknnooebabaa
open Go Go.RowKit
set_option linter.unusedVariables false
set_option linter.unusedSimpArgs false
/-- the mark of a cell -/
def mkP (q : Nat) : Value := .int .u8 ((1 + (q : Int)) % 256)
/-- the first q cells of a slice are marked -/
def MkP (w : World) (base : Nat) (v : Value) (n q : Nat) : Prop := ∃ ys, w.ownsRow base 24 64 v n ys ∧ ∀ k, k < q → ys[k]? = some (mkP k)
theorem MkP.len {w : World} {base n q : Nat} {v : Value} (h : MkP w base v n q) : True := trivial
theorem MkP.own {w : World} {base n q : Nat} {v : Value} (h : MkP w base v n q) : ∀ r, v.ownBlock = Option.some r → base ≤ r ∧ r < w.heap.size := by
 obtain ⟨ys, h1, _⟩ := h
 exact fun r hr => h1.lt r hr
theorem MkP.grown {w w' : World} {base n q : Nat} {v : Value} {row : Option Nat} (h : MkP w base v n q) (hg : w.grownBy w' row) (hr : v.ownBlock = none ∨ v.ownBlock ≠ row) : MkP w' base v n q := by
 obtain ⟨ys, h1, h2⟩ := h
 exact ⟨ys, h1.kept hg hr, h2⟩
theorem MkP.below {w w' : World} {base n q : Nat} {v : Value} (h : MkP w base v n q) (hb : Below w.heap.size w w') : MkP w' base v n q :=
 h.grown (row := none) ⟨hb.os, hb.tape, hb.output, hb.size, fun k hk _ => hb.block k hk⟩ (by
  cases hv : v.ownBlock with
  | none => exact .inl rfl
  | some k => exact .inr (by simp))
theorem MkP.step {w : World} {base n q g cap : Nat} (h : MkP w base (.slice (some ⟨g, 0, none⟩) n cap) n q) (hq : q < n * 64) :
 (∃ u, w.cell? ⟨g, q, none⟩ = Option.some u) ∧ w.frozen? ⟨g, q, none⟩ = false ∧ MkP (w.setCell ⟨g, q, none⟩ (mkP q)) base (.slice (some ⟨g, 0, none⟩) n cap) n (q + 1) ∧ w.grownBy (w.setCell ⟨g, q, none⟩ (mkP q)) (Option.some g) := by
 obtain ⟨ys, h1, h2⟩ := h
 have hl : q < ys.length := by rw [h1.1]; exact hq
 obtain ⟨s1, s2⟩ := h1.stored q (mkP q)
 refine ⟨⟨ys[q], by rw [h1.cellAt q hq]; exact List.getElem?_eq_getElem hl⟩, h1.frozenAt q, ⟨_, s1, fun k hk => ?_⟩, s2⟩
 rw [List.getElem?_set]
 by_cases e : q = k
 · subst e; rw [if_pos rfl, if_pos hl]
 · rw [if_neg e]; exact h2 k (by omega)
theorem MkP.cell {w : World} {base n q g cap k : Nat} (h : MkP w base (.slice (some ⟨g, 0, none⟩) n cap) n q) (hk : k < q) (hq : q ≤ n * 64) : w.cell? ⟨g, k, none⟩ = Option.some (mkP k) := by
 obtain ⟨ys, h1, h2⟩ := h
 rw [h1.cellAt k (by omega)]
 exact h2 k hk
theorem MkP.same {w : World} {base n q : Nat} {v : Value} (h : MkP w base v n q) (r : Nat) (e : r = q) : MkP w base v n r := e ▸ h
attribute [local irreducible] mkP MkP
end Go.Proofs.Yteloknnooebabaa
end
section
namespace Go.Proofs.Yteloknnooebabaa
open Go Go.RowKit
set_option linter.unusedVariables false
set_option linter.unusedSimpArgs false
/-- rows of modules -/
def drRows (R : List (Int × (Nat → Nat) × (Nat → Nat) × (Nat → Nat))) : List (List Value) := R.map fun x => drC x.1 x.2.1 x.2.2.1 x.2.2.2
theorem drRows_len (R : List (Int × (Nat → Nat) × (Nat → Nat) × (Nat → Nat))) : (drRows R).length = R.length := by unfold drRows; rw [List.length_map]
theorem drRows_nil : drRows [] = [] := rfl
theorem drRows_snoc (R : List (Int × (Nat → Nat) × (Nat → Nat) × (Nat → Nat))) (x : Int × (Nat → Nat) × (Nat → Nat) × (Nat → Nat)) : drRows (R ++ [x]) = drRows R ++ [drC x.1 x.2.1 x.2.2.1 x.2.2.2] := by unfold drRows; rw [List.map_append]; rfl
attribute [local irreducible] drC
set_option maxRecDepth 100000 in
set_option maxHeartbeats 1600000 in
theorem eqDrinfeldS_same (N : Nat) (R : List (Int × (Nat → Nat) × (Nat → Nat) × (Nat → Nat))) (a1 a2 : Option Addr) (cap1 cap2 base1 base2 : Nat) (w : World) (h1 : SlL w base1 58 193 (.slice a1 R.length cap1) (drRows R)) (h2 : SlL w base2 58 193 (.slice a2 R.length cap2) (drRows R)) (hR : R.length ≤ 1000) :
 Calls Try.prog 84 #[.slice a1 R.length cap1, .slice a2 R.length cap2] w fun e w' => e = .returned (.bool true) ∧ Below w.heap.size w w' := by
 go_enter Try.func84, Try.ntmps84
 go_wp2_with fail
 go_loopw [5] (fun i wr => ∃ j : Nat, i = .int .i64 (j : Int) ∧ j ≤ R.length ∧ Below w.heap.size w wr) (fun i _ => R.length - (intOf i).toNat)
 case atStart => exact ⟨0, rfl, Nat.zero_le _, Below.refl _ _⟩
 case round =>
  obtain ⟨j, rfl, hjR, hb⟩ := hrel
  by_cases hj : j < R.length
  · obtain ⟨x, hx⟩ : ∃ x, R[j]? = some x := ⟨_, List.getElem?_eq_getElem hj⟩
    obtain ⟨q, m, G, D⟩ := x
    obtain ⟨g1, rfl⟩ := h1.some (by rw [drRows_len]; omega)
    obtain ⟨g2, rfl⟩ := h2.some (by rw [drRows_len]; omega)
    have hrow : (drRows R)[j]? = some (drC q m G D) := by unfold drRows; rw [List.getElem?_map, hx]; rfl
    have B0 : SlL wr base1 58 193 (.slice (some ⟨g1, 0, none⟩) R.length cap1) (drRows R) := h1.zw hb
    have B1 : SlL wr base2 58 193 (.slice (some ⟨g2, 0, none⟩) R.length cap2) (drRows R) := h2.zw hb
    have hjl : (j : Int) < (R.length : Int) := by omega
    clear h1 h2
    go_upto_region 6 with (fail)
    refine zq Try.mixed (by kernel_rfl) (by kernel_rfl) (fun v => by (simp only [frL, Act.put, pA, pB, pC, Nat.reduceAdd, Nat.zero_add]; exact rfl))
     (fun L v W1 => Below wr.heap.size wr W1 ∧ VF L v [some (.slice (some ⟨g1, 0, none⟩) R.length cap1), some (.int .i64 (j : Int)), some (.pointer (some ⟨g1, j * 193, none⟩)), some (.agg (drC q m G D).toArray), some (.slice (some ⟨g2, 0, none⟩) R.length cap2), some (.int .i64 (j : Int)), some (.pointer (some ⟨g2, j * 193, none⟩)), some (.agg (drC q m G D).toArray), some (.bool true), some (.bool false)]) ?_ ?_ ?_
    · intro v hv0
      exact ⟨(Below.refl _ wr).drew, VF.start⟩
    · refine (.cons rfl ?_ (.cons rfl ?_ (.cons rfl ?_ (.cons rfl ?_ (.cons rfl ?_ (.cons rfl ?_ (.cons rfl ?_ (.cons rfl ?_ (.cons rfl ?_ (.cons rfl ?_ (.nil _)))))))))))
      all_goals intro L v W1 hd hn ⟨hY, V⟩ K hK
      · go_wp2_with fail
        exact hK _ (.slice (some ⟨g1, 0, none⟩) R.length cap1) _ (by simp only [Act.put, pA, pB, pC ]) ⟨hY, V.step 0 rfl⟩
      · go_wp2_with fail
        exact hK _ (.int .i64 (j : Int)) _ (by simp only [Act.put, pA, pB, pC ]) ⟨hY, V.step 1 rfl⟩
      · have e0 := V.at (zdq hd 0 rfl) rfl
        have e1 := V.at (zdq hd 1 rfl) rfl
        go_wp2_with fail
        exact hK _ (.pointer (some ⟨g1, j * 193, none⟩)) _ (by simp only [Act.put, pA, pB, pC, e0, e1]) ⟨hY, V.step 2 rfl⟩
      · have e2 := V.at (zdq hd 2 rfl) rfl
        have hr := ((B0.zw hY)).range hrow
        refine wp_load_mid 58 _ rfl _ (j * 193) e2 _ _ hr Try.underlying58 rfl (by rw [drC_len]; exact Try.size58) ?_
        exact hK _ _ _ rfl ⟨hY, V.step 3 rfl⟩
      · go_wp2_with fail
        exact hK _ (.slice (some ⟨g2, 0, none⟩) R.length cap2) _ (by simp only [Act.put, pA, pB, pC ]) ⟨hY, V.step 4 rfl⟩
      · go_wp2_with fail
        exact hK _ (.int .i64 (j : Int)) _ (by simp only [Act.put, pA, pB, pC ]) ⟨hY, V.step 5 rfl⟩
      · have e4 := V.at (zdq hd 4 rfl) rfl
        have e5 := V.at (zdq hd 5 rfl) rfl
        go_wp2_with fail
        exact hK _ (.pointer (some ⟨g2, j * 193, none⟩)) _ (by simp only [Act.put, pA, pB, pC, e4, e5]) ⟨hY, V.step 6 rfl⟩
      · have e6 := V.at (zdq hd 6 rfl) rfl
        have hr := ((B1.zw hY)).range hrow
        refine wp_load_mid 58 _ rfl _ (j * 193) e6 _ _ hr Try.underlying58 rfl (by rw [drC_len]; exact Try.size58) ?_
        exact hK _ _ _ rfl ⟨hY, V.step 7 rfl⟩
      · have e3 := V.at (zdq hd 3 rfl) rfl
        have e7 := V.at (zdq hd 7 rfl) rfl
        go_wp2_with (go_at_call 69; refine (eqDrinfeld_same _ _ _ _ _).mono ?_; rintro e wy ⟨rfl, hy⟩)
        exact hK _ (.bool true) _ (by simp only [Act.put, pA, pB, pC, e3, e7]) ⟨hY.trans (hy.mono hY.size), V.step 8 rfl⟩
      · have e8 := V.at (zdq hd 8 rfl) rfl
        go_wp2_with fail
        exact hK _ (.bool false) _ (by simp only [Act.put, pA, pB, pC, e8]) ⟨hY, V.step 9 rfl⟩
    · intro L v W1 hL ⟨hY, V⟩
      have e0 := V.at (hL 0 (by decide)) rfl
      have e1 := V.at (hL 1 (by decide)) rfl
      have e2 := V.at (hL 2 (by decide)) rfl
      have e3 := V.at (hL 3 (by decide)) rfl
      have e4 := V.at (hL 4 (by decide)) rfl
      have e5 := V.at (hL 5 (by decide)) rfl
      have e6 := V.at (hL 6 (by decide)) rfl
      have e7 := V.at (hL 7 (by decide)) rfl
      have e8 := V.at (hL 8 (by decide)) rfl
      have e9 := V.at (hL 9 (by decide)) rfl
      clear hL V
      replace B0 := B0.zw hY
      replace B1 := B1.zw hY
      replace hb := hb.trans (hY.mono hb.size)
      clear hY
      simp only [Exit.then, e0, e1, e2, e3, e4, e5, e6, e7, e8, e9]
      clear e0 e1 e2 e3 e4 e5 e6 e7 e8 e9
      go_wp2_with fail
      go_roundw
      case rel => exact ⟨j + 1, by go_num, by omega, hb⟩
      case measure => simp [intOf] <;> omega
  · have hjl : ¬ (j : Int) < (R.length : Int) := by omega
    go_wp2_with fail
    go_ret
    exact ⟨rfl, hb⟩
/-- the mark of a cell -/
def mkD (q : Nat) : Value := if q % 193 = 0 then .int .i64 (1 + (q : Int)) else .int .u8 ((1 + (q : Int)) % 256)
theorem mkD_u {q : Nat} (h : ¬ q % 193 = 0) : mkD q = .int .u8 ((1 + (q : Int)) % 256) := by unfold mkD; rw [if_neg h]
theorem mkD_i {q : Nat} (h : q % 193 = 0) : mkD q = .int .i64 (1 + (q : Int)) := by unfold mkD; rw [if_pos h]
/-- the first q cells of a slice are marked -/
def MkD (w : World) (base : Nat) (v : Value) (n q : Nat) : Prop := ∃ ys, w.ownsRow base 58 193 v n ys ∧ ∀ k, k < q → ys[k]? = some (mkD k)
theorem mkD_some {w : World} {base n q cap : Nat} {a : Option Addr} (h : MkD w base (.slice a n cap) n q) (hn : 0 < n) : ∃ g, a = some ⟨g, 0, none⟩ := by
 obtain ⟨ys, h1, _⟩ := h
 rcases h1.2 with ⟨h2, h3⟩ | ⟨g, c, cur, h2, _⟩
 · omega
 · injection h2 with h2; exact ⟨g, h2⟩
theorem MkD.len {w : World} {base n q : Nat} {v : Value} (h : MkD w base v n q) : True := trivial
theorem SlL.marksD {w : World} {base n : Nat} {v : Value} {cs : List (List Value)} (h : SlL w base 58 193 v cs) (hn : cs.length = n) : MkD w base v n 0 := by
 delta SlL at h
 exact ⟨cs.flatten, hn ▸ h.2.2, fun k hk => absurd hk (by omega)⟩
theorem MkD.own {w : World} {base n q : Nat} {v : Value} (h : MkD w base v n q) : ∀ r, v.ownBlock = Option.some r → base ≤ r ∧ r < w.heap.size := by
 obtain ⟨ys, h1, _⟩ := h
 exact fun r hr => h1.lt r hr
theorem MkD.grown {w w' : World} {base n q : Nat} {v : Value} {row : Option Nat} (h : MkD w base v n q) (hg : w.grownBy w' row) (hr : v.ownBlock = none ∨ v.ownBlock ≠ row) : MkD w' base v n q := by
 obtain ⟨ys, h1, h2⟩ := h
 exact ⟨ys, h1.kept hg hr, h2⟩
theorem MkD.below {w w' : World} {base n q : Nat} {v : Value} (h : MkD w base v n q) (hb : Below w.heap.size w w') : MkD w' base v n q :=
 h.grown (row := none) ⟨hb.os, hb.tape, hb.output, hb.size, fun k hk _ => hb.block k hk⟩ (by
  cases hv : v.ownBlock with
  | none => exact .inl rfl
  | some k => exact .inr (by simp))
theorem MkD.step {w : World} {base n q g cap : Nat} (h : MkD w base (.slice (some ⟨g, 0, none⟩) n cap) n q) (hq : q < n * 193) :
 (∃ u, w.cell? ⟨g, q, none⟩ = Option.some u) ∧ w.frozen? ⟨g, q, none⟩ = false ∧ MkD (w.setCell ⟨g, q, none⟩ (mkD q)) base (.slice (some ⟨g, 0, none⟩) n cap) n (q + 1) ∧ w.grownBy (w.setCell ⟨g, q, none⟩ (mkD q)) (Option.some g) := by
 obtain ⟨ys, h1, h2⟩ := h
 have hl : q < ys.length := by rw [h1.1]; exact hq
 obtain ⟨s1, s2⟩ := h1.stored q (mkD q)
 refine ⟨⟨ys[q], by rw [h1.cellAt q hq]; exact List.getElem?_eq_getElem hl⟩, h1.frozenAt q, ⟨_, s1, fun k hk => ?_⟩, s2⟩
 rw [List.getElem?_set]
 by_cases e : q = k
 · subst e; rw [if_pos rfl, if_pos hl]
 · rw [if_neg e]; exact h2 k (by omega)
theorem MkD.cell {w : World} {base n q g cap k : Nat} (h : MkD w base (.slice (some ⟨g, 0, none⟩) n cap) n q) (hk : k < q) (hq : q ≤ n * 193) : w.cell? ⟨g, k, none⟩ = Option.some (mkD k) := by
 obtain ⟨ys, h1, h2⟩ := h
 rw [h1.cellAt k (by omega)]
 exact h2 k hk
theorem MkD.same {w : World} {base n q : Nat} {v : Value} (h : MkD w base v n q) (r : Nat) (e : r = q) : MkD w base v n r := e ▸ h
attribute [local irreducible] mkD MkD
set_option maxRecDepth 100000 in
set_option maxHeartbeats 1600000 in
theorem markDrinfeldS_any (n : Nat) (a0 : Option Addr) (cap base : Nat) (w : World) (h : MkD w base (.slice a0 n cap) n 0) (hn : n ≤ 1000) :
 Calls Try.prog 85 #[.slice a0 n cap, .int .i64 1] w fun e w' => e = .returned (.int .i64 ((1 + 193 * n : Nat) : Int)) ∧ MkD w' base (.slice a0 n cap) n (193 * n) ∧ w.grownBy w' (Value.slice a0 n cap).ownBlock := by
 go_enter Try.func85, Try.ntmps85
 go_wp2_with fail
 go_loopw [1, 5] (fun x i wr => ∃ j X : Nat, x = .int .i64 (X : Int) ∧ X = 1 + 193 * j ∧ i = .int .i64 (j : Int) ∧ j ≤ n ∧ MkD wr base (.slice a0 n cap) n (193 * j) ∧ w.grownBy wr (Value.slice a0 n cap).ownBlock) (fun _ i _ => n - (intOf i).toNat)
 case atStart => exact ⟨0, 1, rfl, rfl, rfl, Nat.zero_le _, h, grown_refl _ _⟩
 case round =>
  clear h
  obtain ⟨j, X, rfl, hX, rfl, hjn, hM, hG⟩ := hrel
  by_cases hj : j < n
  · have hjl : (j : Int) < (n : Int) := by omega
    obtain ⟨g, rfl⟩ := mkD_some hM (by omega)
    have hX2 : X ≤ 200000 := by omega
    have HX := Lib.hid hX
    clear hX
    have HQ := Lib.hid (show j * 193 = 193 * j by omega)
    obtain ⟨⟨u, hc⟩, hz, hM2, hG2⟩ := hM.step (by omega)
    have e1 : mkD (193 * j) = .int .i64 (X : Int) := by
     rw [mkD_i (by omega), show (1 + ((193 * j : Nat) : Int)) = (X : Int) by have := HX.out; omega]
    rw [e1, ← HQ.out] at hM2 hG2
    rw [← HQ.out] at hc hz
    have HM2 := Lib.hid hM2
    have HG2 := Lib.hid (grown_trans hG hG2)
    clear hM2 hG2 hM hG e1
    go_wp2_with fail
    have hM := HM2.out
    have hG := HG2.out
    clear HM2 HG2
    go_loopw [1, 6] (fun x i wr2 => ∃ k X : Nat, x = .int .i64 (X : Int) ∧ X = 1 + 193 * j + 1 + k ∧ i = .int .i64 (k : Int) ∧ k ≤ 64 ∧ MkD wr2 base (.slice (some ⟨g, 0, none⟩) n cap) n (193 * j + 1 + k) ∧ w.grownBy wr2 (some g)) (fun _ i _ => 64 - (intOf i).toNat)
    case atStart => exact ⟨0, X + 1, by go_num, by have := HX.out; omega, rfl, by omega, hM.same _ (by omega), hG⟩
    case round =>
     clear hM hG HX
     obtain ⟨k, X, rfl, hX, rfl, hk, hM, hG⟩ := hrel
     have hX2 : X ≤ 300000 := by omega
     have HX := Lib.hid hX
     clear hX
     have HQ := Lib.hid (show j * 193 + 1 + k = 193 * j + 1 + k by omega)
     by_cases hlt : k < 64
     · have hki : (k : Int) < 64 := by omega
       obtain ⟨⟨u, hc⟩, hz, hM2, hG2⟩ := hM.step (by omega)
       have e1 : mkD (193 * j + 1 + k) = .int .u8 ((X : Int) % 256) := by
        rw [mkD_u (by omega), show (1 + ((193 * j + 1 + k : Nat) : Int)) = (X : Int) by have := HX.out; omega]
       rw [e1, ← HQ.out] at hM2 hG2
       rw [← HQ.out] at hc hz
       have HM2 := Lib.hid hM2
       have HG2 := Lib.hid (grown_trans hG hG2)
       clear hM2 hG2 hM hG e1
       go_wp2_with fail
       go_roundw
       case rel => exact ⟨k + 1, X + 1, by go_num, by have := HX.out; omega, by go_num, by omega, HM2.out.same _ (by omega), HG2.out⟩
       case measure => simp [intOf] <;> omega
     · have hki : ¬ (k : Int) < 64 := by omega
       obtain rfl : k = 64 := by omega
       go_wp2_with fail
       go_loopw [1, 7] (fun x i wr2 => ∃ k X : Nat, x = .int .i64 (X : Int) ∧ X = 1 + 193 * j + 65 + k ∧ i = .int .i64 (k : Int) ∧ k ≤ 64 ∧ MkD wr2 base (.slice (some ⟨g, 0, none⟩) n cap) n (193 * j + 65 + k) ∧ w.grownBy wr2 (some g)) (fun _ i _ => 64 - (intOf i).toNat)
       case atStart => exact ⟨0, X, rfl, by have := HX.out; omega, rfl, by omega, hM.same _ (by omega), hG⟩
       case round =>
        clear hM hG HX
        obtain ⟨k, X, rfl, hX, rfl, hk, hM, hG⟩ := hrel
        have hX2 : X ≤ 300000 := by omega
        have HX := Lib.hid hX
        clear hX
        have HQ := Lib.hid (show j * 193 + 65 + k = 193 * j + 65 + k by omega)
        by_cases hlt : k < 64
        · have hki : (k : Int) < 64 := by omega
          obtain ⟨⟨u, hc⟩, hz, hM2, hG2⟩ := hM.step (by omega)
          have e1 : mkD (193 * j + 65 + k) = .int .u8 ((X : Int) % 256) := by
           rw [mkD_u (by omega), show (1 + ((193 * j + 65 + k : Nat) : Int)) = (X : Int) by have := HX.out; omega]
          rw [e1, ← HQ.out] at hM2 hG2
          rw [← HQ.out] at hc hz
          have HM2 := Lib.hid hM2
          have HG2 := Lib.hid (grown_trans hG hG2)
          clear hM2 hG2 hM hG e1
          go_wp2_with fail
          go_roundw
          case rel => exact ⟨k + 1, X + 1, by go_num, by have := HX.out; omega, by go_num, by omega, HM2.out.same _ (by omega), HG2.out⟩
          case measure => simp [intOf] <;> omega
        · have hki : ¬ (k : Int) < 64 := by omega
          obtain rfl : k = 64 := by omega
          go_wp2_with fail
          go_loopw [1, 8] (fun x i wr2 => ∃ k X : Nat, x = .int .i64 (X : Int) ∧ X = 1 + 193 * j + 129 + k ∧ i = .int .i64 (k : Int) ∧ k ≤ 64 ∧ MkD wr2 base (.slice (some ⟨g, 0, none⟩) n cap) n (193 * j + 129 + k) ∧ w.grownBy wr2 (some g)) (fun _ i _ => 64 - (intOf i).toNat)
          case atStart => exact ⟨0, X, rfl, by have := HX.out; omega, rfl, by omega, hM.same _ (by omega), hG⟩
          case round =>
           clear hM hG HX
           obtain ⟨k, X, rfl, hX, rfl, hk, hM, hG⟩ := hrel
           have hX2 : X ≤ 300000 := by omega
           have HX := Lib.hid hX
           clear hX
           have HQ := Lib.hid (show j * 193 + 129 + k = 193 * j + 129 + k by omega)
           by_cases hlt : k < 64
           · have hki : (k : Int) < 64 := by omega
             obtain ⟨⟨u, hc⟩, hz, hM2, hG2⟩ := hM.step (by omega)
             have e1 : mkD (193 * j + 129 + k) = .int .u8 ((X : Int) % 256) := by
              rw [mkD_u (by omega), show (1 + ((193 * j + 129 + k : Nat) : Int)) = (X : Int) by have := HX.out; omega]
             rw [e1, ← HQ.out] at hM2 hG2
             rw [← HQ.out] at hc hz
             have HM2 := Lib.hid hM2
             have HG2 := Lib.hid (grown_trans hG hG2)
             clear hM2 hG2 hM hG e1
             go_wp2_with fail
             go_roundw
             case rel => exact ⟨k + 1, X + 1, by go_num, by have := HX.out; omega, by go_num, by omega, HM2.out.same _ (by omega), HG2.out⟩
             case measure => simp [intOf] <;> omega
           · have hki : ¬ (k : Int) < 64 := by omega
             obtain rfl : k = 64 := by omega
             go_wp2_with fail
             go_roundw
             case rel => exact ⟨j + 1, X, rfl, by have := HX.out; omega, by go_num, by omega, hM.same _ (by omega), hG⟩
             case measure => simp [intOf] <;> omega
  · have hjl : ¬ (j : Int) < (n : Int) := by omega
    have e : j = n := by omega
    subst e
    go_wp2_with fail
    go_ret
    exact ⟨ret_int (by push_cast; rfl), hM, hG⟩
set_option maxRecDepth 100000 in
set_option maxHeartbeats 1600000 in
theorem heldDrinfeldS_any (n : Nat) (a0 : Option Addr) (cap base : Nat) (w : World) (h : MkD w base (.slice a0 n cap) n (193 * n)) (hn : n ≤ 1000) :
 Calls Try.prog 86 #[.slice a0 n cap, .int .i64 1] w fun e w' => e = .returned (.int .i64 ((1 + 193 * n : Nat) : Int)) ∧ w = w' := by
 go_enter Try.func86, Try.ntmps86
 go_wp2_with fail
 go_loopw [1, 5] (fun x i wr => ∃ j X : Nat, x = .int .i64 (X : Int) ∧ X = 1 + 193 * j ∧ i = .int .i64 (j : Int) ∧ j ≤ n ∧ wr = w) (fun _ i _ => n - (intOf i).toNat)
 case atStart => exact ⟨0, 1, rfl, rfl, rfl, Nat.zero_le _, rfl⟩
 case round =>
  obtain ⟨j, X, rfl, hX, rfl, hjn, rfl⟩ := hrel
  by_cases hj : j < n
  · have hjl : (j : Int) < (n : Int) := by omega
    obtain ⟨g, rfl⟩ := mkD_some h (by omega)
    have hX2 : X ≤ 200000 := by omega
    have HX := Lib.hid hX
    clear hX
    have HQ := Lib.hid (show j * 193 = 193 * j by omega)
    have e1 : mkD (193 * j) = .int .i64 (X : Int) := by
     rw [mkD_i (by omega), show (1 + ((193 * j : Nat) : Int)) = (X : Int) by have := HX.out; omega]
    have hc := MkD.cell h (k := 193 * j) (by omega) (by omega)
    rw [e1, ← HQ.out] at hc
    have hne : ((X : Int) != (X : Int)) = false := by simp
    clear e1
    go_wp2_with fail
    go_loopw [1, 6] (fun x i wr2 => ∃ k X : Nat, x = .int .i64 (X : Int) ∧ X = 1 + 193 * j + 1 + k ∧ i = .int .i64 (k : Int) ∧ k ≤ 64 ∧ wr2 = wr) (fun _ i _ => 64 - (intOf i).toNat)
    case atStart => exact ⟨0, X + 1, by go_num, by have := HX.out; omega, rfl, by omega, rfl⟩
    case round =>
     clear HX
     obtain ⟨k, X, rfl, hX, rfl, hk, rfl⟩ := hrel
     have hX2 : X ≤ 300000 := by omega
     have HX := Lib.hid hX
     clear hX
     have HQ := Lib.hid (show j * 193 + 1 + k = 193 * j + 1 + k by omega)
     by_cases hlt : k < 64
     · have hki : (k : Int) < 64 := by omega
       have e1 : mkD (193 * j + 1 + k) = .int .u8 ((X : Int) % 256) := by
        rw [mkD_u (by omega), show (1 + ((193 * j + 1 + k : Nat) : Int)) = (X : Int) by have := HX.out; omega]
       have hc := MkD.cell h (k := 193 * j + 1 + k) (by omega) (by omega)
       rw [e1, ← HQ.out] at hc
       have hne : (((X : Int) % 256) != ((X : Int) % 256)) = false := by simp
       clear e1
       go_wp2_with fail
       go_roundw
       case rel => exact ⟨k + 1, X + 1, by go_num, by have := HX.out; omega, by go_num, by omega, trivial⟩
       case measure => simp [intOf] <;> omega
     · have hki : ¬ (k : Int) < 64 := by omega
       obtain rfl : k = 64 := by omega
       go_wp2_with fail
       go_loopw [1, 7] (fun x i wr2 => ∃ k X : Nat, x = .int .i64 (X : Int) ∧ X = 1 + 193 * j + 65 + k ∧ i = .int .i64 (k : Int) ∧ k ≤ 64 ∧ wr2 = wr) (fun _ i _ => 64 - (intOf i).toNat)
       case atStart => exact ⟨0, X, rfl, by have := HX.out; omega, rfl, by omega, rfl⟩
       case round =>
        clear HX
        obtain ⟨k, X, rfl, hX, rfl, hk, rfl⟩ := hrel
        have hX2 : X ≤ 300000 := by omega
        have HX := Lib.hid hX
        clear hX
        have HQ := Lib.hid (show j * 193 + 65 + k = 193 * j + 65 + k by omega)
        by_cases hlt : k < 64
        · have hki : (k : Int) < 64 := by omega
          have e1 : mkD (193 * j + 65 + k) = .int .u8 ((X : Int) % 256) := by
           rw [mkD_u (by omega), show (1 + ((193 * j + 65 + k : Nat) : Int)) = (X : Int) by have := HX.out; omega]
          have hc := MkD.cell h (k := 193 * j + 65 + k) (by omega) (by omega)
          rw [e1, ← HQ.out] at hc
          have hne : (((X : Int) % 256) != ((X : Int) % 256)) = false := by simp
          clear e1
          go_wp2_with fail
          go_roundw
          case rel => exact ⟨k + 1, X + 1, by go_num, by have := HX.out; omega, by go_num, by omega, trivial⟩
          case measure => simp [intOf] <;> omega
        · have hki : ¬ (k : Int) < 64 := by omega
          obtain rfl : k = 64 := by omega
          go_wp2_with fail
          go_loopw [1, 8] (fun x i wr2 => ∃ k X : Nat, x = .int .i64 (X : Int) ∧ X = 1 + 193 * j + 129 + k ∧ i = .int .i64 (k : Int) ∧ k ≤ 64 ∧ wr2 = wr) (fun _ i _ => 64 - (intOf i).toNat)
          case atStart => exact ⟨0, X, rfl, by have := HX.out; omega, rfl, by omega, rfl⟩
          case round =>
           clear HX
           obtain ⟨k, X, rfl, hX, rfl, hk, rfl⟩ := hrel
           have hX2 : X ≤ 300000 := by omega
           have HX := Lib.hid hX
           clear hX
           have HQ := Lib.hid (show j * 193 + 129 + k = 193 * j + 129 + k by omega)
           by_cases hlt : k < 64
           · have hki : (k : Int) < 64 := by omega
             have e1 : mkD (193 * j + 129 + k) = .int .u8 ((X : Int) % 256) := by
              rw [mkD_u (by omega), show (1 + ((193 * j + 129 + k : Nat) : Int)) = (X : Int) by have := HX.out; omega]
             have hc := MkD.cell h (k := 193 * j + 129 + k) (by omega) (by omega)
             rw [e1, ← HQ.out] at hc
             have hne : (((X : Int) % 256) != ((X : Int) % 256)) = false := by simp
             clear e1
             go_wp2_with fail
             go_roundw
             case rel => exact ⟨k + 1, X + 1, by go_num, by have := HX.out; omega, by go_num, by omega, trivial⟩
             case measure => simp [intOf] <;> omega
           · have hki : ¬ (k : Int) < 64 := by omega
             obtain rfl : k = 64 := by omega
             go_wp2_with fail
             go_roundw
             case rel => exact ⟨j + 1, X, rfl, by have := HX.out; omega, by go_num, by omega, trivial⟩
             case measure => simp [intOf] <;> omega
  · have hjl : ¬ (j : Int) < (n : Int) := by omega
    have e : j = n := by omega
    subst e
    go_wp2_with fail
    go_ret
    exact ⟨ret_int (by push_cast; rfl), rfl⟩
end Go.Proofs.Yteloknnooebabaa
end
section
namespace Go.Proofs.Yteloknnooebabaa
open Go Go.RowKit
set_option linter.unusedVariables false
section
variable {P : Program} {ops : Array Oper} {Q : Exit → Act → World → Prop}
/-- what is asked of operation i -/
def StepOkU (P : Program) (ops : Array Oper) (Q : Exit → Act → World → Prop) (a0 : Act) (Ψ : (Nat → Bool) → (Nat → Value) → World → Prop) (i : Nat) (o : Oper) : Prop :=
 ∀ (L : Nat → Bool) (v : Nat → Value) (w : World), (∀ e, e ∈ o.after → Region.binds .any e = true → L e.on = true) →
  (∀ j p, ops[j]? = some p → L j = true → ∀ e, e ∈ p.after → Region.binds .any e = true → e.on ≠ i) → L i = false → Ψ L v w →
  ∀ K : Act → World → Prop, (∀ a' y w', a' = (fr a0 ops v).put o.dst y → Ψ (setL L i) (updV v i y) w' → K a' w') →
   if Region.wanted o (yielded ops (fr a0 ops v).tmps) = true then Oper.wp P o (fr a0 ops v) w K Q else K ((fr a0 ops v).put o.dst undef) w

theorem wpAny_invU {a0 : Act} {Ψ : (Nat → Bool) → (Nat → Value) → World → Prop} (hd : dstsOkL ops.toList = true) (he : edgesOk ops = true)
 (hstep : ∀ i o, ops[i]? = some o → StepOkU P ops Q a0 Ψ i o)
 (hend : ∀ L v w, (∀ i, i < ops.size → L i = true) → Ψ L v w → Q .normal (fr a0 ops v) w) :
 ∀ (fuel : Nat) (listed : Array Bool) (v : Nat → Value) (w : World), listed.size = ops.size → (listed.toList.filter (!·)).length = fuel → Ψ (fun j => listed.getD j false) v w →
  (∀ j p, ops[j]? = some p → listed.getD j false = true → ∀ e, e ∈ p.after → Region.binds .any e = true → listed.getD e.on false = true) →
  wpAny P .any ops Q fuel listed (fr a0 ops v) w := by
 have hall : ∀ listed : Array Bool, listed.size = ops.size → Region.ready .any ops listed = [] → ∀ i, i < ops.size → listed.getD i false = true := by
  intro listed hs hr i
  induction i using Nat.strongRecOn with
  | _ i ih =>
   intro hi
   cases hb : listed.getD i false with
   | true => rfl
   | false =>
    exfalso
    have hmem : i ∈ Region.ready .any ops listed := by
     unfold Region.ready
     simp only [List.mem_filter, List.mem_range, hi, true_and, Bool.and_eq_true]
     have ho : ops[i]? = some ops[i] := Array.getElem?_eq_getElem hi
     constructor
     · have : listed.getD i true = false := by
        have h2 : i < listed.size := by omega
        simpa [Array.getD, h2] using hb
       simp [this]
     · rw [ho]
       simp only [Option.map_some, Option.getD_some, Array.all_eq_true_iff_forall_mem]
       intro e hem
       have hE := he
       unfold edgesOk at hE
       rw [List.all_eq_true] at hE
       have := hE i (by simpa using hi)
       rw [ho] at this
       simp only [Option.map_some, Option.getD_some, Array.all_eq_true_iff_forall_mem] at this
       have h3 := this e hem
       cases hbd : Region.binds .any e with
       | false => simp
       | true =>
        simp only [hbd, Bool.not_true, Bool.false_or, decide_eq_true_eq] at h3
        simp [ih e.on h3 (by omega)]
    rw [hr] at hmem
    cases hmem
 intro fuel
 induction fuel with
 | zero =>
  intro listed v w hs hc hI _
  have hl : ∀ i, i < ops.size → listed.getD i false = true := by
   intro i hi
   have h2 : i < listed.size := by omega
   cases hb : listed[i] with
   | true => simp [Array.getD, h2, hb]
   | false =>
    exfalso
    have : false ∈ listed.toList.filter (!·) := by
     rw [List.mem_filter]
     exact ⟨by rw [← hb]; simp, rfl⟩
    rw [List.length_eq_zero_iff.1 hc] at this
    cases this
  refine ⟨?_, hend _ v w hl hI⟩
  unfold Region.ready
  rw [List.filter_eq_nil_iff]
  intro i hi
  have hi' : i < ops.size := by simpa using hi
  have h2 : i < listed.size := by omega
  have := hl i hi'
  have h4 : listed.getD i true = true := by simpa [Array.getD, h2] using this
  simp [h4]
 | succ fuel ih =>
  intro listed v w hs hc hI hcl
  refine ⟨fun hr => hend _ v w (hall listed hs hr) hI, ?_⟩
  intro i hi
  unfold Region.ready at hi
  simp only [List.mem_filter, List.mem_range, Bool.and_eq_true] at hi
  obtain ⟨hin, hnl, haf⟩ := hi
  have ho : ops[i]? = some ops[i] := Array.getElem?_eq_getElem hin
  rw [ho] at haf
  simp only [Option.map_some, Option.getD_some, Array.all_eq_true_iff_forall_mem] at haf
  have h2 : i < listed.size := by omega
  have hfalse : listed[i] = false := by
   have : listed.getD i true = false := by simpa using hnl
   simpa [Array.getD, h2] using this
  refine wpOp_step ho fun K' hK => ?_
  refine hstep i _ ho _ v w ?_ ?_ (by simp [Array.getD, h2, hfalse]) hI K' ?_
  · intro e hem hb
    have := haf e hem
    simpa [hb] using this
  · intro j p hp hj e hem hb he'
    have := hcl j p hp hj e hem hb
    rw [he'] at this
    simp [Array.getD, h2, hfalse] at this
  · intro a' y w' ha' hΨ
    subst ha'
    refine hK _ _ ?_
    have hst : (fr a0 ops v).put ops[i].dst y = fr a0 ops (updV v i y) := by
     have := frL_step ops.toList a0 0 v i ops[i] y hd (by simp [hin])
     rw [Nat.zero_add] at this
     exact this
    rw [hst]
    have e : (fun j => (listed.setIfInBounds i true).getD j false) = setL (fun j => listed.getD j false) i := by
     funext j
     unfold setL
     by_cases h : j = i
     · subst h; simp [Array.getD, h2]
     · have h' : ¬ i = j := fun e => h e.symm
       simp only [h, if_false, Array.getD, Array.size_setIfInBounds]
       by_cases h3 : j < listed.size
       · simp [h3, h']
       · simp [h3]
    refine ih _ _ _ (by simpa using hs) ?_ ?_ ?_
    · have : ∀ (l : List Bool) (i : Nat) (h : i < l.length), l[i] = false → ((l.set i true).filter (!·)).length + 1 = (l.filter (!·)).length := by
       intro l
       induction l with
       | nil => intro i h; simp at h
       | cons b l ihl =>
        intro i h hf
        cases i with
        | zero => simp at hf; subst hf; simp
        | succ i =>
         simp only [List.set_cons_succ]
         have := ihl i (by simpa using h) (by simpa using hf)
         cases b <;> simp <;> omega
      have := this listed.toList i (by simpa using h2) (by simpa using hfalse)
      rw [Array.toList_setIfInBounds]
      omega
    · rw [e]
      exact hΨ
    · intro j p hp hj e2 hem hb
      have ej := congrFun e j
      have ee := congrFun e e2.on
      skip
      rw [ej] at hj
      rw [ee]
      unfold setL at hj ⊢
      by_cases h1 : e2.on = i
      · simp [h1]
      · simp only [h1, if_false]
        by_cases h2 : j = i
        · subst h2
          rw [ho] at hp
          simp only [Option.some.injEq] at hp
          subst hp
          have := haf e2 hem
          simpa [hb] using this
        · simp only [h2, if_false] at hj
          exact hcl j p hp hj e2 hem hb

theorem wp_region_psiU {id : Nat} {a0 : Act} {w : World} (hm : P.follows .mixedOrders = true) (hd : dstsOkL ops.toList = true) (he : edgesOk ops = true)
 (Ψ : (Nat → Bool) → (Nat → Value) → World → Prop) (h0 : Ψ (fun _ => false) (fun i => ((ops[i]?.bind (·.dst)).map fun t => a0.tmps.getD t undef).getD undef) w.drew)
 (hstep : ∀ i o, ops[i]? = some o → StepOkU P ops Q a0 Ψ i o)
 (hend : ∀ L v w, (∀ i, i < ops.size → L i = true) → Ψ L v w → Q .normal (fr a0 ops v) w) : (Code.region id ops true).wp P Q a0 w := by
 refine wp_region_any hm ?_
 have hfr : fr a0 ops (fun i => ((ops[i]?.bind (·.dst)).map fun t => a0.tmps.getD t undef).getD undef) = a0 := by
  refine frL_start _ _ _ _ fun i o ho => ?_
  have ho' : ops[i]? = some o := by simpa using ho
  simp [ho']
 have key := wpAny_invU (P := P) (Q := Q) hd he hstep hend ops.size (Array.replicate ops.size false) (fun i => ((ops[i]?.bind (·.dst)).map fun t => a0.tmps.getD t undef).getD undef) w.drew (by simp) (by simp) (by
  have e : (fun j => (Array.replicate ops.size false).getD j false) = fun _ => false := by
   funext j; simp [Array.getD]
  rw [e]; exact h0) (by
  intro j p _ hj
  simp [Array.getD] at hj)
 rw [hfr] at key
 exact key

/-- what is asked of operation i, no guard before it; F: the frame, written out -/
def StepV (P : Program) (ops : Array Oper) (Q : Exit → Act → World → Prop) (F : (Nat → Value) → Act) (Ψ : (Nat → Bool) → (Nat → Value) → World → Prop) (i : Nat) (o : Oper) : Prop :=
 ∀ (L : Nat → Bool) (v : Nat → Value) (w : World), (∀ e, e ∈ o.after → Region.binds .any e = true → L e.on = true) →
  (∀ j p, ops[j]? = some p → L j = true → ∀ e, e ∈ p.after → Region.binds .any e = true → e.on ≠ i) → L i = false → Ψ L v w →
  ∀ K : Act → World → Prop, (∀ a' y w', a' = (F v).put o.dst y → Ψ (setL L i) (updV v i y) w' → K a' w') → Oper.wp P o (F v) w K Q
inductive StepsV (P : Program) (ops : Array Oper) (Q : Exit → Act → World → Prop) (F : (Nat → Value) → Act) (Ψ : (Nat → Bool) → (Nat → Value) → World → Prop) : List Oper → Nat → Prop
 | nil (k : Nat) : StepsV P ops Q F Ψ [] k
 | cons {o : Oper} {os : List Oper} {k : Nat} (hg : o.guard = none) (h : StepV P ops Q F Ψ k o) (hs : StepsV P ops Q F Ψ os (k + 1)) : StepsV P ops Q F Ψ (o :: os) k
theorem steps_ofV {F : (Nat → Value) → Act} {Ψ : (Nat → Bool) → (Nat → Value) → World → Prop} : ∀ (os : List Oper) (k : Nat), StepsV P ops Q F Ψ os k → ∀ i o, os[i]? = some o → o.guard = none ∧ StepV P ops Q F Ψ (k + i) o
 | [], _, _, _, _, h => by simp at h
 | p :: os, k, hs, 0, o, h => by
  simp only [List.getElem?_cons_zero, Option.some.injEq] at h
  subst h
  cases hs with
  | cons hg h _ => exact ⟨hg, h⟩
 | p :: os, k, hs, i + 1, o, h => by
  cases hs with
  | cons _ _ hs =>
   have := steps_ofV os (k + 1) hs i o (by simpa using h)
   rwa [show k + 1 + i = k + (i + 1) by omega] at this
theorem wp_region_stepsU {os : List Oper} {id : Nat} {a0 : Act} {w : World} (hm : P.follows .mixedOrders = true) (hd : dstsOkL os = true) (he : edgesOk os.toArray = true)
 {F : (Nat → Value) → Act} (hF : ∀ v, frL a0 os 0 v = F v)
 (Ψ : (Nat → Bool) → (Nat → Value) → World → Prop) (h0 : Ψ (fun _ => false) (fun i => ((os.toArray[i]?.bind (·.dst)).map fun t => a0.tmps.getD t undef).getD undef) w.drew)
 (hstep : StepsV P os.toArray Q F Ψ os 0)
 (hend : ∀ L v w, (∀ i, i < os.length → L i = true) → Ψ L v w → Q .normal (F v) w) : (Code.region id os.toArray true).wp P Q a0 w := by
 refine wp_region_psiU hm (by simpa using hd) he Ψ h0 (fun i o ho => ?_) (fun L v w hL hΨ => ?_)
 · obtain ⟨hg, hs⟩ := steps_ofV _ _ hstep i o (by simpa using ho)
   rw [Nat.zero_add] at hs
   intro L v w h1 h2 hU h3 K hK
   have hw : Region.wanted o (yielded os.toArray (fr a0 os.toArray v).tmps) = true := by simp [Region.wanted, hg]
   rw [if_pos hw]
   have hf : fr a0 os.toArray v = F v := hF v
   rw [hf] at hK ⊢
   exact hs L v w h1 h2 hU h3 K hK
 · have hf : fr a0 os.toArray v = F v := hF v
   rw [hf]
   exact hend L v w (by simpa using hL) hΨ
end
section
variable {P : Program}
theorem wp_append_sl {o : Oper} {a : Act} {w : World} {K : Act → World → Prop} {Q : Exit → Act → World → Prop} (s x : Operand) (t : TypeId) (hop : o.op = Op.call { callee := Callee.builtin Builtin.append, args := #[s, x], argTypes := #[t, t] })
 (base : Nat) (e : TypeId) (z : Value) (size bytes : Nat) (h1 : P.underlying t = some (.slice e)) (h2 : (P.info? e).map (fun i => (i.zero, i.size, i.bytes)) = some (some z, size, bytes)) (h6 : z.cells.size = size) (h7 : 0 < size)
 (v : Value) (cs : List (List Value)) (hs : a.eval s = v) (hown : SlL w base e size v cs) (g : Nat) (c : List Value) (hx : a.eval x = .slice (some ⟨g, 0, none⟩) 1 1) (hc : c.length = size)
 (hcell : w.rangeAt g 0 c) (h1c : ∀ u ∈ c, u.oneCell' = true) (b1 : cs.length + 1 ≤ maxLen) (b2 : (cs.length + 1) * bytes ≤ 140737488355328)
 (hK : ∀ v' w', SlL w' base e size v' (cs ++ [c]) → w.grownBy w' v.ownBlock → K (a.put o.dst v') w') : o.wp P a w K Q := by
 obtain ⟨i0, hi, hz0, hz1, hz2⟩ := info_parts h2
 delta SlL at hown
 refine wp_append_own w s x t hop base e i0 z size bytes h1 hi hz0 hz1 hz2 h6 h7 v cs.length cs.flatten hs hown.2.2 ⟨g, 0, none⟩ 1 1 c hx (by omega) (fun j u hu => ?_) h1c b1 b2 hown.1 ?_
 · have := hcell j u hu
   rw [Nat.zero_add] at this
   have e : (⟨g, 0, none⟩ : Addr).add j = ⟨g, j, none⟩ := by unfold Addr.add; split <;> simp_all
   rw [e]; exact this
 · intro v' w' h1' h2' _
   refine hK v' w' ?_ h2'
   delta SlL
   refine ⟨Nat.le_trans hown.1 h2'.size, fun d hd => ?_, by simpa using h1'⟩
   rcases List.mem_append.1 hd with h | h
   · exact hown.2.1 d h
   · rw [List.mem_singleton] at h; rw [h]; exact hc
theorem wp_build1 {o : Oper} {a : Act} {w : World} {K : Act → World → Prop} {Q : Exit → Act → World → Prop} (t : TypeId) (parts : Array (Nat × Operand)) (c : List Value) (size : Nat)
 (ho : o.op = .buildSlice t 1 parts) (e : TypeId) (hu : P.underlying t = some (.slice e)) (hie : (P.info? e).map (fun i => (i.size, i.zero.isSome)) = some (size, true)) (hpos : 0 < size) (hsm : size ≤ 65536) (hc : c.length = size)
 (hp : (parts.toList.map fun x => (x.1, a.eval x.2)) = [(0, Value.agg c.toArray)])
 (h : ∀ w', Row w' w.heap.size e c.toArray → Below w.heap.size w w' → K (a.put o.dst (.slice (some ⟨w.heap.size, 0, none⟩) 1 1)) w') : o.wp P a w K Q := by
 cases hi : P.info? e with
 | none => simp [hi] at hie
 | some ie =>
  simp only [hi, Option.map_some, Option.some.injEq, Prod.mk.injEq] at hie
  obtain ⟨hs, hz⟩ := hie
  obtain ⟨z, hzz⟩ := Option.isSome_iff_exists.1 hz
  refine wp_buildSlice t e 1 parts ho _ ie z hu hi hzz (by rw [hs]; omega) (by rw [hs]; omega) ?_ (h _ (Row.new w e c.toArray) (zal _ _))
  rw [Array.toList_map, hp, hs]
  have := fill_cat size [c] 0 [] ((Array.range (1 * size)).map (z.cells[· % z.cells.size]!)).toList (by simpa using hc) (by simp) (by simp)
  rw [List.nil_append, List.nil_append, Array.toArray_toList] at this
  simpa using this
end
end Go.Proofs.Yteloknnooebabaa
end
