/-
  What the rows of this claim rest on: arrays of bytes, walks of the functions, plain mathematics.
-/
import Derived.Test.YtoncepgcfifgbaaZb5
import Derived.OpenShut
import Derived.ProofKit
import Derived.Test.YtoncepgcfifgbaaRows
import Derived.JoinedOf
section
namespace Go.Proofs.Ytoncepgcfifgbaa
open Go.RowKit
set_option linter.unusedVariables false
set_option linter.unusedSimpArgs false
attribute [local irreducible] deg invN dS qS stp stpr quoP resP oneP dvo
theorem dvo_yes {p f : Nat} {m a : Nat → Nat} (h : deg (resP p a m) < 0) : dvo p m (f + 1) a = ((dvo p m f (quoP p a m)).1 + 1, (dvo p m f (quoP p a m)).2) := by rw [dvo, if_pos h]
theorem dvo_stop {p f : Nat} {m a : Nat → Nat} (h : ¬ deg (resP p a m) < 0) : dvo p m (f + 1) a = (0, a) := by rw [dvo, if_neg h]
set_option maxRecDepth 100000 in
set_option maxHeartbeats 1600000 in
theorem dividedOut_any (p : Nat) (f m : Nat → Nat) (d : Nat) (w : World) (hpr : p = 2 ∨ p = 3 ∨ p = 5 ∨ p = 7) (lf : ∀ k, k < 64 → f k < p) (lm : ∀ k, k < 64 → m k < p) (hmon : mon m d) (hd1 : 1 ≤ d) (h0 : 0 ≤ deg f) :
 Calls Try.prog 160 #[.int .i64 (p : Int), .agg (zb 64 f), .agg (zb 64 m)] w fun e w' => e = .returned (.tuple #[.int .i64 ((dvo p m 64 f).1 : Int), .agg (zb 64 (dvo p m 64 f).2)]) ∧ Below w.heap.size w w' := by
 have p0 : 0 < p := by omega
 obtain ⟨fb1, fb2⟩ := zdb f
 have HLM := Lib.hid lm
 have HMON := Lib.hid hmon
 have hm0 : 0 ≤ deg m := by rw [hmon.1]; omega
 clear hmon
 have HLF := Lib.hid lf
 clear lf lm
 go_enter Try.func160, Try.ntmps160
 go_upto_region 1 with (fail)
 rw [← z64]
 obtain ⟨W1, hwo⟩ : ∃ v : World, v = (((w.alloc (.cells (zb 64 (f)) 23)).alloc (.cells (zb 64 (m)) 23)).alloc (.cells (zb 64 fun _ => 0) 23)) := ⟨_, rfl⟩
 have B0 : Blk W1 (w.heap.size) 64 23 (f) := by subst hwo; have := (((Blk.new w 64 23 (f)).alloc (.cells (zb 64 (m)) 23)).alloc (.cells (zb 64 fun _ => 0) 23)); simpa using this
 have B1 : Blk W1 (w.heap.size + 1) 64 23 (m) := by subst hwo; have := ((Blk.new (w.alloc (.cells (zb 64 (f)) 23)) 64 23 (m)).alloc (.cells (zb 64 fun _ => 0) 23)); simpa using this
 have B2 : Blk W1 (w.heap.size + 1 + 1) 64 23 (fun _ => 0) := by subst hwo; have := (Blk.new ((w.alloc (.cells (zb 64 (f)) 23)).alloc (.cells (zb 64 (m)) 23)) 64 23 (fun _ => 0)); simpa using this
 have hb : Below w.heap.size w W1 := by subst hwo; exact ((((Below.refl _ _).alloc (Nat.le_refl _) _).alloc (by simp) _).alloc (by simp; omega) _)
 rw [← hwo]
 clear hwo
 go_wp2_with fail
 go_loopw [8] (fun i wr => ∃ (fu i0 : Nat) (X : Nat → Nat), i0 + fu = 64 ∧ i = .int .i64 (i0 : Int) ∧ Hid (dvo p m 64 f = ((dvo p m fu X).1 + i0, (dvo p m fu X).2)) ∧ Hid (∀ k, k < 64 → X k < p) ∧ 0 ≤ deg X ∧ deg X < (fu : Int) ∧ Below w.heap.size w wr ∧ Blk wr (w.heap.size) 64 23 X ∧ Blk wr (w.heap.size + 1) 64 23 m ∧ Blk wr (w.heap.size + 1 + 1) 64 23 (fun _ => 0)) (fun i _ => 65 - (intOf i).toNat)
 case atStart => exact ⟨64, 0, f, rfl, rfl, Lib.hid rfl, HLF, h0, by omega, hb, B0, B1, B2⟩
 case round =>
  clear hb B0 B1 B2
  obtain ⟨fu, i0, X, hfu, rfl, hE, hX, hX0, hXf, hb, B0, B1, B2⟩ := hrel
  obtain ⟨fu, rfl⟩ : ∃ t, fu = t + 1 := ⟨fu - 1, by omega⟩
  have HQR := Lib.hid (fun W => quotientAndRest_any p X m W hpr hX.out HLM.out hm0)
  have i64 : i0 ≤ 63 := by omega
  have HFU := Lib.hid hfu
  clear hfu
  have lt_B0 := B0.lt
  have lt_B1 := B1.lt
  have lt_B2 := B2.lt
  go_upto_region 4 with (first | rw [← z64] | (refine zla (.tmp 4) B0 Try.underlying23 Try.size23 ?_) | (refine zla (.tmp 5) B1 Try.underlying23 Try.size23 ?_) | (go_at_call 167; refine (HQR.out _).mono ?_; rintro e W2 ⟨rfl, hW2⟩; replace B0 := B0.zw hW2; replace B1 := B1.zw hW2; replace B2 := B2.zw hW2; replace hb := (hb).trans (hW2.mono (hb).size)) | (refine wpList_store_blk rfl 23 (.tmp 9) (.tmp 18) rfl _ 64 (quoP p X m) rfl rfl 23 _ (((Blk.new W2 64 23 (fun _ => 0)).alloc (.cells (zb 64 fun _ => 0) 23))) Try.size23 ?_; try simp only [Act.put]) | (refine wpList_store_blk rfl 23 (.tmp 10) (.tmp 19) rfl _ 64 (resP p X m) rfl rfl 23 _ (((show Blk ((W2.alloc (.cells (zb 64 fun _ => 0) 23)).alloc (.cells (zb 64 fun _ => 0) 23)) (W2.heap.size + 1) 64 23 (fun _ => 0) by have := Blk.new (W2.alloc (.cells (zb 64 fun _ => 0) 23)) 64 23 (fun _ => 0); simpa using this).rowOther (by omega))) Try.size23 ?_; try simp only [Act.put]))
  have lt_B0 := B0.lt
  have lt_B1 := B1.lt
  have lt_B2 := B2.lt
  have lhb := hb.size
  obtain ⟨W3, hwo, hzQ⟩ : ∃ v : World, v = ((((W2.alloc (.cells (zb 64 fun _ => 0) 23)).alloc (.cells (zb 64 fun _ => 0) 23)).setRow (W2.heap.size) (zb 64 (quoP p X m))).setRow (W2.heap.size + 1) (zb 64 (resP p X m))) ∧ Blk v (w.heap.size) 64 23 (X) ∧ Blk v (w.heap.size + 1) 64 23 (m) ∧ Blk v (w.heap.size + 1 + 1) 64 23 (fun _ => 0) ∧ Blk v (W2.heap.size) 64 23 (quoP p X m) ∧ Blk v (W2.heap.size + 1) 64 23 (resP p X m) ∧ Below w.heap.size w v := ⟨_, rfl, ((((B0.alloc (.cells (zb 64 fun _ => 0) 23)).alloc (.cells (zb 64 fun _ => 0) 23)).rowOther (by omega)).rowOther (by omega)), ((((B1.alloc (.cells (zb 64 fun _ => 0) 23)).alloc (.cells (zb 64 fun _ => 0) 23)).rowOther (by omega)).rowOther (by omega)), ((((B2.alloc (.cells (zb 64 fun _ => 0) 23)).alloc (.cells (zb 64 fun _ => 0) 23)).rowOther (by omega)).rowOther (by omega)), ((((Blk.new W2 64 23 (fun _ => 0)).alloc (.cells (zb 64 fun _ => 0) 23)).row (quoP p X m)).rowOther (by omega)), (((show Blk ((W2.alloc (.cells (zb 64 fun _ => 0) 23)).alloc (.cells (zb 64 fun _ => 0) 23)) (W2.heap.size + 1) 64 23 (fun _ => 0) by have := Blk.new (W2.alloc (.cells (zb 64 fun _ => 0) 23)) 64 23 (fun _ => 0); simpa using this).rowOther (by omega)).row (resP p X m)), (zr (zr ((hb.alloc (by have := hb.size; simp; omega) (.cells (zb 64 fun _ => 0) 23)).alloc (by have := hb.size; simp; omega) (.cells (zb 64 fun _ => 0) 23)) (by omega) _) (by omega) _)⟩
  rw [← hwo]
  clear hwo B0 B1 B2 hb
  obtain ⟨B0, B1, B2, B3, B4, hb⟩ := hzQ
  obtain ⟨N1, hNN⟩ : ∃ n : Nat, n = W2.heap.size := ⟨_, rfl⟩
  rw [← hNN] at lt_B0 lt_B1 lt_B2 lhb B3 B4 ⊢
  clear hNN
  have zN1_0 := lt_B0
  have zN1_1 := lt_B1
  have zN1_2 := lt_B2
  have zN1 := lhb
  clear lt_B0 lt_B1 lt_B2 lhb
  try simp only [Act.put, pA, pB, pC]
  clear HQR
  by_cases hz : deg (resP p X m) < 0
  · have HV := Lib.hid (show dvo p m 64 f = ((dvo p m fu (quoP p X m)).1 + (i0 + 1), (dvo p m fu (quoP p X m)).2) by
     rw [hE.out, dvo_yes hz]; congr 1; omega)
    have hdv := (res_zero_iff hpr hX.out HLM.out hm0).1 hz
    have hqd := (quo_exact hpr hX.out HLM.out HMON.out hX0 hdv).2
    have hq0 : 0 ≤ deg (quoP p X m) := by
     by_cases hq : 0 ≤ deg (quoP p X m)
     · exact hq
     · exfalso
       obtain ⟨hc, _⟩ := quo_exact hpr hX.out HLM.out HMON.out hX0 hdv
       rw [lz_neg (by omega : deg (quoP p X m) < 0), zS_mz] at hc
       have hX00 : ∀ k, k < 64 → X k = 0 := fun k hk => by
        have h2 := lz_inj hX.out (g := fun _ => 0) (fun _ _ => p0) (cg_trans hc (cg_eq (lz_neg (f := fun _ => 0) (by rw [deg_neg_iff]; intros; rfl)).symm)) k hk
        exact h2
       have := deg_neg_iff.2 hX00
       omega
    clear hE
    have hgd := Try.noGuard23
    have heq := fun W => zeb (P := Try.prog) W 9998 23 5 64 (resP p X m) (fun _ => 0) Try.underlying23 Try.underlying5 Try.size5
    rw [eqN_zero, show decide (deg (resP p X m) < 0) = true by simp [hz]] at heq
    simp only [z64] at heq
    go_upto_region 6 with (first | (refine zla (.tmp 10) B4 Try.underlying23 Try.size23 ?_))
    clear heq hgd hz hdv
    have lt_B0 := B0.lt
    have lt_B1 := B1.lt
    have lt_B2 := B2.lt
    have lt_B3 := B3.lt
    have lt_B4 := B4.lt
    go_upto_region 2 with (first | rw [← z64] | (refine zla (.tmp 9) B3 Try.underlying23 Try.size23 ?_) | (refine zsr (.tmp 4) (.tmp 25) (quoP p X m) B0 Try.size23 ?_; try simp only [Act.put]))
    obtain ⟨W4, hwo, hzQ⟩ : ∃ v : World, v = (W3.setRow (w.heap.size) (zb 64 (quoP p X m))) ∧ Blk v (w.heap.size) 64 23 (quoP p X m) ∧ Blk v (w.heap.size + 1) 64 23 (m) ∧ Blk v (w.heap.size + 1 + 1) 64 23 (fun _ => 0) ∧ Blk v (N1) 64 23 (quoP p X m) ∧ Blk v (N1 + 1) 64 23 (resP p X m) ∧ Below w.heap.size w v := ⟨_, rfl, (B0.row (quoP p X m)), (B1.rowOther (by omega)), (B2.rowOther (by omega)), (B3.rowOther (by omega)), (B4.rowOther (by omega)), (zr hb (by omega) _)⟩
    rw [← hwo]
    clear hwo B0 B1 B2 B3 B4 hb
    obtain ⟨B0, B1, B2, B3, B4, hb⟩ := hzQ
    try simp only [Act.put, pA, pB, pC]
    go_wp2_with fail
    go_roundw
    case rel => exact ⟨fu, i0 + 1, quoP p X m, by have := HFU.out; omega, by go_num, HV, Lib.hid (fun k _ => quoP_lt p0 k), hq0, by omega, hb, B0, B1, B2⟩
    case measure => simp [intOf] <;> omega
  · have HV := Lib.hid (show dvo p m 64 f = (i0, X) by rw [hE.out, dvo_stop hz]; simp)
    clear hE
    have hgd := Try.noGuard23
    have heq := fun W => zeb (P := Try.prog) W 9998 23 5 64 (resP p X m) (fun _ => 0) Try.underlying23 Try.underlying5 Try.size5
    rw [eqN_zero, show decide (deg (resP p X m) < 0) = false by simp [hz]] at heq
    simp only [z64] at heq
    go_upto_region 5 with (first | (refine zla (.tmp 10) B4 Try.underlying23 Try.size23 ?_))
    clear heq hgd hz
    have lt_B0 : (w.heap.size) < W3.heap.size := B0.lt
    have lt_B1 : (w.heap.size + 1) < W3.heap.size := B1.lt
    have lt_B2 : (w.heap.size + 1 + 1) < W3.heap.size := B2.lt
    have lt_B3 : (N1) < W3.heap.size := B3.lt
    have lt_B4 : (N1 + 1) < W3.heap.size := B4.lt
    have hbase : w.heap.size ≤ W3.heap.size := hb.size
    refine zq Try.mixed (by kernel_rfl) (by kernel_rfl) (fun v => by (simp only [frL, Act.put, pA, pB, pC, Nat.reduceAdd, Nat.zero_add]; exact rfl))
     (fun L v W4 => Below w.heap.size w W4 ∧ W3.heap.size ≤ W4.heap.size ∧ Blk W4 (w.heap.size) 64 23 (X) ∧ Blk W4 (w.heap.size + 1) 64 23 (m) ∧ (∃ g, Blk W4 (w.heap.size + 1 + 1) 64 23 (g)) ∧ (L 3 = false → Blk W4 (w.heap.size + 1 + 1) 64 23 (fun _ => 0)) ∧ (L 3 = true → Blk W4 (w.heap.size + 1 + 1) 64 23 (X)) ∧ Blk W4 (N1) 64 23 (quoP p X m) ∧ Blk W4 (N1 + 1) 64 23 (resP p X m) ∧ (L 0 = true → v 0 = (.int .i64 (i0 : Int))) ∧ (L 1 = true → v 1 = (.agg (zb 64 (X)))) ∧ (L 2 = true → v 2 = (.int .i64 (i0 : Int)))) ?_ ?_ ?_
    · intro v hv0
      exact ⟨hb.drew, Nat.le_refl _, B0.drew, B1.drew, ⟨_, B2.drew⟩, (fun _ => B2.drew), (fun h => by cases h), B3.drew, B4.drew, (fun h => by cases h), (fun h => by cases h), (fun h => by cases h)⟩
    · refine (.cons rfl ?_ (.cons rfl ?_ (.cons rfl ?_ (.cons rfl ?_ (.nil _)))))
      all_goals intro L v W4 hd hn ⟨hB, hz, s0, s1, x2, q2, n2, s3, s4, h0, h1, h2⟩ K hK
      · go_wp2_with fail
        exact hK _ (.int .i64 (i0 : Int)) _ (by simp only [Act.put, pA, pB, pC ]) ⟨hB, hz, s0, s1, x2, q2, n2, s3, s4, (fun _ => rfl), h1, h2⟩
      · refine zlc s0 Try.underlying23 Try.size23 ?_
        exact hK _ _ _ rfl ⟨hB, hz, s0, s1, x2, q2, n2, s3, s4, h0, (fun _ => rfl), h2⟩
      · have e0 := h0 (zdq hd 0 rfl)
        go_wp2_with fail
        exact hK _ (.int .i64 (i0 : Int)) _ (by simp only [Act.put, pA, pB, pC, e0]) ⟨hB, hz, s0, s1, x2, q2, n2, s3, s4, h0, h1, (fun _ => rfl)⟩
      · have e1 := h1 (zdq hd 1 rfl)
        obtain ⟨gz, hk⟩ := x2
        refine zsb 23 _ _ rfl _ 64 (X) rfl e1 23 gz hk Try.size23 ?_
        exact hK _ undef _ rfl ⟨zr hB (by omega) _, (by simpa [World.setRow] using hz), (s0).rowOther (by omega), (s1).rowOther (by omega), ⟨_, hk.row _⟩, (fun h => absurd h (by simp [setL])), (fun _ => hk.row _), (s3).rowOther (by omega), (s4).rowOther (by omega), h0, h1, h2⟩
    · intro L v W4 hL ⟨hB, hz, s0, s1, x2, q2, n2, s3, s4, h0, h1, h2⟩
      have r2 := n2 (hL 3 (by decide))
      have e0 := h0 (hL 0 (by decide))
      have e1 := h1 (hL 1 (by decide))
      have e2 := h2 (hL 2 (by decide))
      clear hL x2 q2 n2 h0 h1 h2
      simp only [Exit.then, e0, e1, e2]
      clear e0 e1 e2
      replace B0 := s0
      clear s0
      replace B1 := s1
      clear s1
      replace B2 := r2
      clear r2
      replace B3 := s3
      clear s3
      replace B4 := s4
      clear s4
      replace hb := hB
      clear hB
      clear hbase hz lt_B0 lt_B1 lt_B2 lt_B3 lt_B4
      go_wp2_with fail
      refine bodyPost_ret (results_tb rfl _ _ _ 64 23 5 _ rfl B2 Try.underlying23 Try.size23) rfl ⟨by rw [HV.out]; rfl, hb⟩
end Go.Proofs.Ytoncepgcfifgbaa
namespace Go.Proofs.Ytoncepgcfifgbaa
open Go.RowKit
set_option linter.unusedVariables false
attribute [local irreducible] deg invN quoP resP
theorem pwz_pow (f : Nat → Int) (a : Nat) : ∀ b, pwz (pwz f a) b = pwz f (a * b)
 | 0 => by rw [Nat.mul_zero]; rfl
 | b + 1 => by
  show mz (pwz (pwz f a) b) (pwz f a) = _
  rw [pwz_pow f a b, ← pwz_add, Nat.mul_succ]
/-- the polynomial T -/
def TP : Nat → Nat := fun k => if k = 1 then 1 else 0
theorem TP_lt {p : Nat} (hp : 2 ≤ p) (k : Nat) : TP k < p := by unfold TP; split <;> omega
theorem lz_TP : lz TP = TS := by
 funext k; unfold lz TS
 by_cases hk : k < 64
 · rw [cut_in _ hk]; unfold TP; split <;> rfl
 · rw [zcz _ (by omega), if_neg (by omega)]; rfl
theorem rm_dv {p : Nat} {m c f g : Nat → Int} (h : rm p m f g) (hc : dv p c m) : rm p c f g := by
 obtain ⟨q, hq, hqm⟩ := h
 have h1 : dv p c (mz q m) := dv_mul hq hc
 obtain ⟨q2, hq2, h2⟩ := dv_ex.1 h1
 exact ⟨q2, hq2, cg_trans hqm h2⟩
theorem dv_iff_rm {p : Nat} {c f g : Nat → Int} : dv p c (sz f g) ↔ rm p c f g := by
 constructor
 · intro h; obtain ⟨q, hq, h2⟩ := dv_ex.1 h; exact ⟨q, hq, h2⟩
 · rintro ⟨q, hq, h2⟩; exact dv_ex.2 ⟨q, hq, h2⟩
theorem frob_next {p n : Nat} {X F : Nat → Nat} (hp : p = 2 ∨ p = 3 ∨ p = 5 ∨ p = 7) (hX : ∀ k, k < 64 → X k < p) (h0 : 0 ≤ deg X) (hF : ∀ k, k < 64 → F k < p) (h : rm p (lz X) (lz F) (pwz TS (p ^ n))) :
 rm p (lz X) (lz (pmP p F p X)) (pwz TS (p ^ (n + 1))) := by
 obtain ⟨_, _, h3⟩ := pmP_spec (k := p) hp hF hX h0 (Nat.lt_of_le_of_lt (by omega : p ≤ 7) (by decide))
 refine rm_trans h3 ?_
 have := rm_pwz (fin_lz F) (fin_pwz fin_TS _) h p
 rwa [pwz_pow, ← Nat.pow_succ] at this
/-- the common divisor of a stage -/
theorem stageC {p n : Nat} {X F : Nat → Nat} (hp : p = 2 ∨ p = 3 ∨ p = 5 ∨ p = 7) (hX : ∀ k, k < 64 → X k < p) (h0 : 0 ≤ deg X) (hF : ∀ k, k < 64 → F k < p) (h : rm p (lz X) (lz F) (pwz TS (p ^ n))) :
 (∀ k, bzD p X (subP p F TP) k < p) ∧ (∃ d, mon (bzD p X (subP p F TP)) d) ∧ ∀ c, dv p c (lz (bzD p X (subP p F TP))) ↔ (dv p c (lz X) ∧ dv p c (FS p n)) := by
 have p0 : 0 < p := by omega
 obtain ⟨b1, b2, _, b4⟩ := bz_all hp hX (fun k _ => subP_lt p0 k) (.inl h0)
 refine ⟨b1, b2, fun c => ?_⟩
 rw [b4 c]
 constructor
 · rintro ⟨h1, h2⟩
   refine ⟨h1, ?_⟩
   have h3 : dv p c (sz (lz F) TS) := (dv_congr (cg_trans (subP_cg (fun k _ => TP_lt (by omega) k)) (cg_eq (by rw [lz_TP]; funext k; unfold az cz sz; omega)))).1 h2
   have h4 := dv_iff_rm.1 h3
   exact dv_FS.2 (rm_trans (rm_symm (rm_dv h h1)) h4)
 · rintro ⟨h1, h2⟩
   refine ⟨h1, ?_⟩
   have h4 : rm p c (lz F) TS := rm_trans (rm_dv h h1) (dv_FS.1 h2)
   exact (dv_congr (cg_trans (subP_cg (fun k _ => TP_lt (by omega) k)) (cg_eq (by rw [lz_TP]; funext k; unfold az cz sz; omega)))).2 (dv_iff_rm.2 h4)
theorem foI_snoc {p x : Nat} : ∀ (pre : List Nat) (a : Nat → Nat), foI p (pre ++ [x]) a = ((foI p pre a).1 ++ [(x, (dvo p (ofN p x) 64 (foI p pre a).2).1)], (dvo p (ofN p x) 64 (foI p pre a).2).2)
 | [], a => rfl
 | N :: pre, a => by
  rw [List.cons_append, foI, foI_snoc pre, foI]
  rfl
theorem quo_nz {p d : Nat} {a m : Nat → Nat} (hp : p = 2 ∨ p = 3 ∨ p = 5 ∨ p = 7) (ha : ∀ k, k < 64 → a k < p) (hmp : ∀ k, k < 64 → m k < p) (hm : mon m d) (h0 : 0 ≤ deg a) (hz : deg (resP p a m) < 0) : 0 ≤ deg (quoP p a m) ∧ deg (quoP p a m) + (d : Int) = deg a := by
 have p0 : 0 < p := by omega
 have hdv := (res_zero_iff hp ha hmp (by rw [hm.1]; omega)).1 hz
 obtain ⟨hc, hd⟩ := quo_exact hp ha hmp hm h0 hdv
 refine ⟨?_, hd⟩
 by_cases hq : 0 ≤ deg (quoP p a m)
 · exact hq
 · exfalso
   rw [lz_neg (by omega : deg (quoP p a m) < 0), zS_mz] at hc
   have hX00 : ∀ k, k < 64 → a k = 0 := fun k hk =>
    lz_inj ha (g := fun _ => 0) (fun _ _ => p0) (cg_trans hc (cg_eq (lz_neg (f := fun _ => 0) (by rw [deg_neg_iff]; intros; rfl)).symm)) k hk
   have := deg_neg_iff.2 hX00
   omega
theorem dvo_ok {p d : Nat} {m : Nat → Nat} (hp : p = 2 ∨ p = 3 ∨ p = 5 ∨ p = 7) (hmp : ∀ k, k < 64 → m k < p) (hm : mon m d) : ∀ (f : Nat) (a : Nat → Nat), (∀ k, k < 64 → a k < p) → 0 ≤ deg a → (∀ k, k < 64 → (dvo p m f a).2 k < p) ∧ 0 ≤ deg (dvo p m f a).2 ∧ deg (dvo p m f a).2 ≤ deg a ∧ (dvo p m f a).1 ≤ f
 | 0, a, ha, h0 => ⟨ha, h0, by show deg a ≤ deg a; omega, Nat.le_refl _⟩
 | f + 1, a, ha, h0 => by
  by_cases hz : deg (resP p a m) < 0
  · rw [dvo, if_pos hz]
    obtain ⟨q1, q2⟩ := quo_nz hp ha hmp hm h0 hz
    obtain ⟨r1, r2, r3, r4⟩ := dvo_ok hp hmp hm f (quoP p a m) (fun k _ => quoP_lt (by omega) k) q1
    exact ⟨r1, r2, by show deg (dvo p m f (quoP p a m)).2 ≤ deg a; omega, by show (dvo p m f (quoP p a m)).1 + 1 ≤ f + 1; omega⟩
  · rw [dvo, if_neg hz]
    exact ⟨ha, h0, by show deg a ≤ deg a; omega, by show 0 ≤ f + 1; omega⟩
theorem foI_ok {p n : Nat} (hp : p = 2 ∨ p = 3 ∨ p = 5 ∨ p = 7) (hn : n < 64) : ∀ (ms : List Nat) (a : Nat → Nat), okL p n ms → (∀ k, k < 64 → a k < p) → 0 ≤ deg a → (∀ k, k < 64 → (foI p ms a).2 k < p) ∧ 0 ≤ deg (foI p ms a).2 ∧ deg (foI p ms a).2 ≤ deg a
 | [], a, _, ha, h0 => ⟨ha, h0, by show deg a ≤ deg a; omega⟩
 | N :: ms, a, hok, ha, h0 => by
  have hm := mon_ofN (by omega : 2 ≤ p) hn (hok N (by simp))
  obtain ⟨r1, r2, r3, _⟩ := dvo_ok (m := ofN p N) hp (fun k _ => ofN_lt (by omega) N k) hm 64 a ha h0
  obtain ⟨s1, s2, s3⟩ := foI_ok hp hn ms (dvo p (ofN p N) 64 a).2 (fun M hM => hok M (by simp [hM])) r1 r2
  exact ⟨s1, s2, by show deg (foI p ms (dvo p (ofN p N) 64 a).2).2 ≤ deg a; omega⟩
/-- one stage, all told -/
theorem stage_all {p n fu : Nat} {X F : Nat → Nat} (hp : p = 2 ∨ p = 3 ∨ p = 5 ∨ p = 7) (hn : 1 ≤ n) (hn2 : n < 64) (hX : ∀ k, k < 64 → X k < p) (h1 : 0 < deg X) (hl : lowf p n X) (hF : ∀ k, k < 64 → F k < p) (h : rm p (lz X) (lz F) (pwz TS (p ^ n))) :
 okL p n (eqf p n (monL p n) (bzD p X (subP p F TP))) ∧
 run p (fu + 1) n X = (foI p (eqf p n (monL p n) (bzD p X (subP p F TP))) X).1 ++ run p fu (n + 1) (foI p (eqf p n (monL p n) (bzD p X (subP p F TP))) X).2 ∧
 lowf p (n + 1) (foI p (eqf p n (monL p n) (bzD p X (subP p F TP))) X).2 ∧
 rm p (lz (foI p (eqf p n (monL p n) (bzD p X (subP p F TP))) X).2) (lz F) (pwz TS (p ^ n)) := by
 obtain ⟨c1, c2, c3⟩ := stageC hp hX (by omega) hF h
 obtain ⟨e1, e2⟩ := stage hp hn hn2 hX (by omega) hl c1 c2 c3
 obtain ⟨s1, s2, s3, s4, s5⟩ := foR_spec hp hn hn2 (monL p n) X (fun _ h => h) hX (by omega) hl
 refine ⟨e2, ?_, ?_, ?_⟩
 · rw [e1, run_s (by omega)]
 · rw [e1]; exact lowf_next (by omega) hl s4 s5
 · rw [e1]; exact rm_dv h s4
end Go.Proofs.Ytoncepgcfifgbaa
namespace Go.Proofs.Ytoncepgcfifgbaa
open Go Go.RowKit
set_option linter.unusedVariables false
set_option linter.unusedSimpArgs false
attribute [local irreducible] deg invN dS qS stp stpr quoP resP oneP eqS ofN dvo pmP eqf foI run bzD bzU bzW subP lowf monL TP
/-- the cells of a factor -/
def facC (f : Nat → Nat) (k : Nat) : List Value := bl 64 f ++ [.int .i64 (k : Int)]
theorem facC_len (f : Nat → Nat) (k : Nat) : (facC f k).length = 65 := by simp [facC, bl]
theorem facC_one (f : Nat → Nat) (k : Nat) : ∀ u ∈ facC f k, u.oneCell' = true := by
 intro u hu
 unfold facC at hu
 rcases List.mem_append.1 hu with h | h
 · exact bl_one u h
 · rw [List.mem_singleton] at h; rw [h]; rfl
theorem facC_all (f : Nat → Nat) (k : Nat) : (facC f k).toArray.all (·.oneCell') = true := Array.all_eq_true_iff_forall_mem.2 fun u hu => facC_one f k u (by simpa using hu)
theorem facC_at (f : Nat → Nat) (k : Nat) : (facC f k).toArray[64]? = some (.int .i64 (k : Int)) := by simp [facC, bl]
theorem facC_set (f : Nat → Nat) (k j : Nat) : (facC f k).toArray.setIfInBounds 64 (.int .i64 (j : Int)) = (facC f j).toArray := by
 unfold facC
 rw [List.setIfInBounds_toArray]
 congr 1
 rw [List.set_append_right _ _ (by rw [zl]; exact Nat.le_refl _)]
 simp [bl]
theorem facC_zero : (facC (fun _ => 0) 0).toArray = Try.zeroCells100 := by unfold facC bl; kernel_rfl
theorem built_T : Try.prog.built 23 [(0, .int .u8 0), (1, .int .u8 1)] = some (zb 64 TP) := by unfold zb bl; kernel_rfl
theorem built_fac (f : Nat → Nat) : Try.prog.built 100 [(0, .agg (zb 64 f))] = some (facC f 0).toArray := by unfold facC zb bl; kernel_rfl
theorem Try.infoFac : (Try.prog.info? 100).map (fun i => (i.zero, i.size, i.bytes)) = some (some (.agg (facC (fun _ => 0) 0).toArray), 65, 72) := by kernel_rfl
theorem Try.size100 : (Try.prog.info? 100).map (·.size) = some 65 := by kernel_rfl
theorem Try.elemFac : (Try.prog.info? 100).map (fun i => (i.size, i.zero.isSome)) = some (65, true) := by kernel_rfl
def facRows (p : Nat) (L : List (Nat × Nat)) : List (List Value) := L.map fun x => facC (ofN p x.1) x.2
theorem facRows_snoc (p : Nat) (L : List (Nat × Nat)) (x : Nat × Nat) : facRows p (L ++ [x]) = facRows p L ++ [facC (ofN p x.1) x.2] := by simp [facRows]
theorem facRows_len (p : Nat) (L : List (Nat × Nat)) : (facRows p L).length = L.length := by simp [facRows]
/-- the heap has at least n blocks -/
def SzG (n : Nat) (W : World) : Prop := n ≤ W.heap.size
theorem SzG.lt {n : Nat} {W : World} (h : SzG n W) : n ≤ W.heap.size := h
theorem SzG.below {n B : Nat} {W W' : World} (h : SzG n W) (hb : Below B W W') (_ : n ≤ W.heap.size) : SzG n W' := Nat.le_trans h hb.size
theorem SzG.zw {n : Nat} {W W' : World} (h : SzG n W) (hb : Below W.heap.size W W') : SzG n W' := SzG.below h hb (SzG.lt h)
theorem SzG.alloc {n : Nat} {W : World} (h : SzG n W) (o : Obj) : SzG n (W.alloc o) := h.below (zal _ _) h
theorem SzG.drew {n : Nat} {W : World} (h : SzG n W) : SzG n W.drew := h
theorem SzG.rowOther {n k : Nat} {W : World} {cs : Array Value} (h : SzG n W) (_ : 0 ≤ k) : SzG n (W.setRow k cs) := by unfold SzG at *; simpa [World.setRow] using h
theorem SzG.setOther {n : Nat} {W : World} {a : Addr} {v : Value} (h : SzG n W) (_ : 0 ≤ a.block) : SzG n (W.setCell a v) := by unfold SzG at *; simpa using h
/-- what factorsOf hands back -/
def FaF (p : Nat) (f : Nat → Nat) (w : World) (e : Ending) (w' : World) : Prop := ∃ v, e = .returned v ∧ SlL w' w.heap.size 100 65 v (facRows p (run p 64 1 f)) ∧ Below w.heap.size w w'
theorem eqf_len {p n : Nat} (ms : List Nat) (a : Nat → Nat) : (eqf p n ms a).length ≤ ms.length + 1 := by
 rw [eqf_eqS, List.length_append]
 have := eqS_len (p := p) (n := n) ms a
 split <;> simp <;> omega
theorem foI_take {p j x : Nat} {M : List Nat} {a : Nat → Nat} (h : M[j]? = some x) : foI p (M.take (j + 1)) a = ((foI p (M.take j) a).1 ++ [(x, (dvo p (ofN p x) 64 (foI p (M.take j) a).2).1)], (dvo p (ofN p x) 64 (foI p (M.take j) a).2).2) := by
 have e : M.take (j + 1) = M.take j ++ [x] := by
  rw [List.take_add_one, h]; rfl
 rw [e, foI_snoc]
set_option maxRecDepth 100000 in
set_option maxHeartbeats 12800000 in
theorem factorsOf_any (p : Nat) (f : Nat → Nat) (w : World) (hpr : p = 2 ∨ p = 3 ∨ p = 5 ∨ p = 7) (lf : ∀ k, k < 64 → f k < p) (h0 : 0 ≤ deg f) (h12 : deg f ≤ 12) :
 Calls Try.prog 111 #[.int .i64 (p : Int), .agg (zb 64 f)] w (FaF p f w) := by
 have p2 : 2 ≤ p := by omega
 have p7 : p ≤ 7 := by omega
 have p0 : 0 < p := by omega
 have HLF := Lib.hid lf
 have HTP := Lib.hid (TP_lt p2)
 clear lf
 go_enter Try.func111, Try.ntmps111
 go_upto_region 1 with (fail)
 obtain ⟨W1, hwo⟩ : ∃ v : World, v = (w.alloc (.cells (zb 64 (f)) 23)) := ⟨_, rfl⟩
 have B0 : Blk W1 (w.heap.size) 64 23 (f) := by subst hwo; have := (Blk.new w 64 23 (f)); simpa using this
 have hb : Below w.heap.size w W1 := by subst hwo; exact ((Below.refl _ _).alloc (Nat.le_refl _) _)
 rw [← hwo]
 clear hwo
 go_upto_region 2 with (fail)
 have lt_B0 := B0.lt
 go_upto_region 3 with (first | rw [← z64] | (refine zbo rfl 23 _ rfl (zb 64 TP) (by rw [Array.toList_map]; exact built_T) ?_) | (refine wpList_store_blk rfl 23 (.tmp 6) (.tmp 15) rfl _ 64 (TP) rfl rfl 23 _ ((Blk.new W1 64 23 (fun _ => 0))) Try.size23 ?_; try simp only [Act.put]))
 have lt_B0 := B0.lt
 have lhb := hb.size
 obtain ⟨W2, hwo, hzQ⟩ : ∃ v : World, v = ((W1.alloc (.cells (zb 64 fun _ => 0) 23)).setRow (W1.heap.size) (zb 64 (TP))) ∧ Blk v (w.heap.size) 64 23 (f) ∧ Blk v (W1.heap.size) 64 23 (TP) ∧ Below w.heap.size w v := ⟨_, rfl, ((B0.alloc (.cells (zb 64 fun _ => 0) 23)).rowOther (by omega)), ((Blk.new W1 64 23 (fun _ => 0)).row (TP)), (zr (hb.alloc (by have := hb.size; simp; omega) (.cells (zb 64 fun _ => 0) 23)) (by omega) _)⟩
 rw [← hwo]
 clear hwo B0 hb
 obtain ⟨B0, B1, hb⟩ := hzQ
 obtain ⟨N1, hNN⟩ : ∃ n : Nat, n = W1.heap.size := ⟨_, rfl⟩
 rw [← hNN] at lt_B0 lhb B1 ⊢
 clear hNN
 have zN1_0 := lt_B0
 have zN1 := lhb
 clear lt_B0 lhb
 try simp only [Act.put, pA, pB, pC]
 have lt_B0 := B0.lt
 have lt_B1 := B1.lt
 go_upto_region 4 with (first | rw [← z64] | (refine zla (.tmp 6) B1 Try.underlying23 Try.size23 ?_) | (refine wpList_store_blk rfl 23 (.tmp 7) (.tmp 16) rfl _ 64 (TP) rfl rfl 23 _ ((Blk.new W2 64 23 (fun _ => 0))) Try.size23 ?_; try simp only [Act.put]))
 have lt_B0 := B0.lt
 have lt_B1 := B1.lt
 have lhb := hb.size
 obtain ⟨W3, hwo, hzQ⟩ : ∃ v : World, v = ((W2.alloc (.cells (zb 64 fun _ => 0) 23)).setRow (W2.heap.size) (zb 64 (TP))) ∧ Blk v (w.heap.size) 64 23 (f) ∧ Blk v (N1) 64 23 (TP) ∧ Blk v (W2.heap.size) 64 23 (TP) ∧ Below w.heap.size w v := ⟨_, rfl, ((B0.alloc (.cells (zb 64 fun _ => 0) 23)).rowOther (by omega)), ((B1.alloc (.cells (zb 64 fun _ => 0) 23)).rowOther (by omega)), ((Blk.new W2 64 23 (fun _ => 0)).row (TP)), (zr (hb.alloc (by have := hb.size; simp; omega) (.cells (zb 64 fun _ => 0) 23)) (by omega) _)⟩
 rw [← hwo]
 clear hwo B0 B1 hb
 obtain ⟨B0, B1, B2, hb⟩ := hzQ
 obtain ⟨N2, hNN⟩ : ∃ n : Nat, n = W2.heap.size := ⟨_, rfl⟩
 rw [← hNN] at lt_B0 lt_B1 lhb B2 ⊢
 clear hNN
 have zN2_0 := lt_B0
 have zN2_1 := lt_B1
 have zN2 := lhb
 clear lt_B0 lt_B1 lhb
 try simp only [Act.put, pA, pB, pC]
 go_wp2_with fail
 obtain ⟨base, hbase0⟩ : ∃ n, n = W3.heap.size := ⟨_, rfl⟩
 have yb_0 : (w.heap.size) < base := by rw [hbase0]; exact B0.lt
 have yb_1 : (N1) < base := by rw [hbase0]; exact B1.lt
 have yb_2 : (N2) < base := by rw [hbase0]; exact B2.lt
 have ybw : w.heap.size ≤ base := by rw [hbase0]; exact hb.size
 have hS0 : SlL W3 base 100 65 (.slice none 0 0) (facRows p []) := SlL.nil _ _ (by omega)
 clear hbase0
 go_loopw [5, 8] (fun s5 i wr => ∃ (fu n : Nat) (X Fr : Nat → Nat) (LL : List (Nat × Nat)) (lst : Value), lst = s5 ∧ n + fu = 64 ∧ i = .int .i64 ((n : Int) + 1) ∧ Hid (run p 64 1 f = LL ++ run p fu (n + 1) X) ∧ Hid (∀ k, k < 64 → X k < p) ∧ 0 ≤ deg X ∧ deg X ≤ 12 ∧ Hid (lowf p (n + 1) X) ∧ Hid (∀ k, k < 64 → Fr k < p) ∧ Hid (rm p (lz X) (lz Fr) (pwz TS (p ^ n))) ∧ LL.length ≤ n * 13841287202 ∧ Below w.heap.size w wr ∧ Blk wr (w.heap.size) 64 23 X ∧ Blk wr (N1) 64 23 TP ∧ Blk wr (N2) 64 23 Fr ∧ SlL wr base 100 65 lst (facRows p LL)) (fun _ i _ => 80 - (intOf i).toNat)
 case atStart => exact ⟨64, 0, f, TP, [], _, rfl, rfl, rfl, Lib.hid rfl, HLF, h0, h12, Lib.hid (lowf_one f), Lib.hid (fun k _ => HTP.out k), Lib.hid (by rw [lz_TP, Nat.pow_zero, show pwz TS 1 = TS from mz_one TS]; exact rm_refl _ _ _), by simp, hb, B0, B1, B2, hS0⟩
 case round =>
  clear hb hS0 B0 B1 B2
  obtain ⟨fu, n, X, Fr, LL, lst, rfl, hfu, rfl, hE, hX, hX0, hX12, hlow, hFr, hrm, hLL, hb, B0, B1, B2, hS⟩ := hrel
  have B3 := hS.top
  have B4 : SzG wr.heap.size wr := Nat.le_refl _
  clear hS
  have HFU := Lib.hid hfu
  clear hfu
  by_cases hd : deg X ≤ 0
  · have HV := Lib.hid (show run p 64 1 f = LL by rw [hE.out, run_z hd, List.append_nil])
    have hd0 : ¬ 0 < deg X := by omega
    clear hE hd
    go_upto_region 16 with (first | (refine zla (.tmp 3) B0 Try.underlying23 Try.size23 ?_) | (go_at_call 92; refine (degree_any X _).mono ?_; rintro e W4 ⟨rfl, hW4⟩; replace B0 := B0.zw hW4; replace B1 := B1.zw hW4; replace B2 := B2.zw hW4; replace B3 := B3.zw hW4; replace B4 := B4.zw hW4; replace hb := (hb).trans (hW4.mono (hb).size)))
    go_wp2_with fail
    go_ret
    exact ⟨lst, rfl, by rw [HV.out]; exact B3.1.base ybw, hb⟩
  · have hd0 : 0 < deg X := by omega
    clear hd
    have hn12 : (n : Int) + 1 ≤ deg X := low_deg hpr hX.out (by omega) hlow.out
    have hn11 : n ≤ 11 := by omega
    obtain ⟨fu, rfl⟩ : ∃ t, fu = t + 1 := ⟨fu - 1, by have := HFU.out; omega⟩
    have HPM := Lib.hid (fun W => powerModulo_any p Fr p X W hpr hFr.out hX.out hX0 (by omega))
    have HDF := Lib.hid (show ∀ W, Calls Try.prog 158 #[.int .i64 (p : Int), .agg (zb 64 (pmP p Fr p X)), .agg (zb 64 TP)] W fun e w' => e = .returned (.agg (zb 64 (subP p (pmP p Fr p X) TP))) ∧ Below W.heap.size W w' from fun W => differenceS_any p (pmP p Fr p X) TP W p2 p7 (pmP_spec hpr hFr.out hX.out hX0 (Nat.lt_of_le_of_lt p7 (by decide))).1 (fun k _ => HTP.out k))
    have HBZ := Lib.hid (fun W => bezout_any p X (subP p (pmP p Fr p X) TP) W hpr hX.out (fun k _ => subP_lt p0 k) (.inl hX0))
    have HF2 := Lib.hid (pmP_spec hpr hFr.out hX.out hX0 (Nat.lt_of_le_of_lt p7 (by decide))).1
    have HR2 := Lib.hid (frob_next hpr hX.out hX0 hFr.out hrm.out)
    obtain ⟨M, hM⟩ : ∃ M, M = eqf p (n + 1) (monL p (n + 1)) (bzD p X (subP p (pmP p Fr p X) TP)) := ⟨_, rfl⟩
    have HST := Lib.hid (show okL p (n + 1) M ∧ run p (fu + 1) (n + 1) X = (foI p M X).1 ++ run p fu (n + 1 + 1) (foI p M X).2 ∧ lowf p (n + 1 + 1) (foI p M X).2 ∧ rm p (lz (foI p M X).2) (lz (pmP p Fr p X)) (pwz TS (p ^ (n + 1))) by rw [hM]; exact stage_all hpr (by omega) (by omega) hX.out hd0 hlow.out HF2.out HR2.out)
    have HEQ := Lib.hid (show ∀ W, Calls Try.prog 159 #[.int .i64 (p : Int), .agg (zb 64 (bzD p X (subP p (pmP p Fr p X) TP))), .int .i64 ((n + 1 : Nat) : Int)] W fun e w' => ∃ v, e = .returned v ∧ SlL w' W.heap.size 23 64 v (polRows p M) ∧ Below W.heap.size W w' by
     rw [hM]; exact fun W => equalFactors_any p (n + 1) _ W hpr (by omega) (by omega) (fun k _ => (stageC hpr hX.out hX0 HF2.out HR2.out).1 k))
    have hMl : M.length ≤ 13841287202 := by
     rw [hM]
     have h1 := eqf_len (p := p) (n := n + 1) (monL p (n + 1)) (bzD p X (subP p (pmP p Fr p X) TP))
     have h2 : (monL p (n + 1)).length = p ^ (n + 1) := by unfold monL; simp
     have h3 := mon_bound p7 (by omega : n + 1 ≤ 12)
     omega
    have HM := Lib.hid hM
    have HC6 := Lib.hid (fun k => (stageC hpr hX.out hX0 HF2.out HR2.out).1 k)
    clear hM hrm hlow
    go_upto_region 7 with (first | (refine zla (.tmp 3) B0 Try.underlying23 Try.size23 ?_) | (go_at_call 92; refine (degree_any X _).mono ?_; rintro e W4 ⟨rfl, hW4⟩; replace B0 := B0.zw hW4; replace B1 := B1.zw hW4; replace B2 := B2.zw hW4; replace B3 := B3.zw hW4; replace B4 := B4.zw hW4; replace hb := (hb).trans (hW4.mono (hb).size)))
    have lt_B0 := B0.lt
    have lt_B1 := B1.lt
    have lt_B2 := B2.lt
    have lt_B3 := B3.lt
    have lt_B4 := B4.lt
    go_upto_region 8 with (first | rw [← z64] | (refine zla (.tmp 7) B2 Try.underlying23 Try.size23 ?_) | (refine zla (.tmp 3) B0 Try.underlying23 Try.size23 ?_) | (go_at_call 97; refine (HPM.out _).mono ?_; rintro e W5 ⟨rfl, hW5⟩; replace B0 := B0.zw hW5; replace B1 := B1.zw hW5; replace B2 := B2.zw hW5; replace B3 := B3.zw hW5; replace B4 := B4.zw hW5; replace hb := (hb).trans (hW5.mono (hb).size)) | (refine zsr (.tmp 7) (.tmp 26) (pmP p Fr p X) B2 Try.size23 ?_; try simp only [Act.put]))
    obtain ⟨W6, hwo, hzQ⟩ : ∃ v : World, v = (W5.setRow (N2) (zb 64 (pmP p Fr p X))) ∧ Blk v (w.heap.size) 64 23 (X) ∧ Blk v (N1) 64 23 (TP) ∧ Blk v (N2) 64 23 (pmP p Fr p X) ∧ SlT v base wr.heap.size 100 65 lst (facRows p LL) ∧ SzG wr.heap.size v ∧ Below w.heap.size w v := ⟨_, rfl, (B0.rowOther (by omega)), (B1.rowOther (by omega)), (B2.row (pmP p Fr p X)), (B3.rowOther (by omega)), (B4.rowOther (by omega)), (zr hb (by omega) _)⟩
    rw [← hwo]
    clear hwo B0 B1 B2 B3 B4 hb
    obtain ⟨B0, B1, B2, B3, B4, hb⟩ := hzQ
    try simp only [Act.put, pA, pB, pC]
    have lt_B0 : (w.heap.size) < W6.heap.size := B0.lt
    have lt_B1 : (N1) < W6.heap.size := B1.lt
    have lt_B2 : (N2) < W6.heap.size := B2.lt
    have lt_B3 : (base) ≤ W6.heap.size := B3.lt
    have lt_B4 : (wr.heap.size) ≤ W6.heap.size := B4.lt
    have hbase : w.heap.size ≤ W6.heap.size := hb.size
    refine zq Try.mixed (by kernel_rfl) (by kernel_rfl) (fun v => by (simp only [frL, Act.put, pA, pB, pC, Nat.reduceAdd, Nat.zero_add]; exact rfl))
     (fun L v W7 => Below w.heap.size w W7 ∧ W6.heap.size ≤ W7.heap.size ∧ Blk W7 (w.heap.size) 64 23 (X) ∧ Blk W7 (N1) 64 23 (TP) ∧ Blk W7 (N2) 64 23 (pmP p Fr p X) ∧ SlT W7 base wr.heap.size 100 65 lst (facRows p LL) ∧ SzG wr.heap.size W7 ∧ (L 0 = true → v 0 = (.int .i64 (p : Int))) ∧ (L 1 = true → v 1 = (.agg (zb 64 (X)))) ∧ (L 2 = true → v 2 = (.int .i64 (p : Int))) ∧ (L 3 = true → v 3 = (.agg (zb 64 (pmP p Fr p X)))) ∧ (L 4 = true → v 4 = (.agg (zb 64 (TP)))) ∧ (L 5 = true → v 5 = (.agg (zb 64 (subP p (pmP p Fr p X) TP)))) ∧ (L 6 = true → v 6 = (.tuple #[(.agg (zb 64 (bzD p X (subP p (pmP p Fr p X) TP)))), (.agg (zb 64 (bzU p X (subP p (pmP p Fr p X) TP)))), (.agg (zb 64 (bzW p X (subP p (pmP p Fr p X) TP))))])) ∧ (L 7 = true → v 7 = (.tuple #[(.agg (zb 64 (bzD p X (subP p (pmP p Fr p X) TP)))), (.agg (zb 64 (bzU p X (subP p (pmP p Fr p X) TP)))), (.agg (zb 64 (bzW p X (subP p (pmP p Fr p X) TP))))])) ∧ (L 8 = true → v 8 = (.agg (zb 64 (bzD p X (subP p (pmP p Fr p X) TP))))) ∧ (L 9 = true → v 9 = (.agg (zb 64 (bzU p X (subP p (pmP p Fr p X) TP))))) ∧ (L 10 = true → v 10 = (.agg (zb 64 (bzW p X (subP p (pmP p Fr p X) TP))))) ∧ (L 11 = true → AF (v 11) W7 W6.heap.size 64 23) ∧ (L 12 = true → AF (v 12) W7 W6.heap.size 64 23) ∧ (L 13 = true → AF (v 13) W7 W6.heap.size 64 23) ∧ (L 14 = true → PF (v 11) W7 W6.heap.size 64 23 (bzD p X (subP p (pmP p Fr p X) TP))) ∧ (L 15 = true → PF (v 12) W7 W6.heap.size 64 23 (bzU p X (subP p (pmP p Fr p X) TP))) ∧ (L 16 = true → PF (v 13) W7 W6.heap.size 64 23 (bzW p X (subP p (pmP p Fr p X) TP))) ∧ (L 11 = true → L 12 = true → v 11 ≠ v 12) ∧ (L 11 = true → L 13 = true → v 11 ≠ v 13) ∧ (L 12 = true → L 13 = true → v 12 ≠ v 13)) ?_ ?_ ?_
    · intro v hv0
      exact ⟨hb.drew, Nat.le_refl _, B0.drew, B1.drew, B2.drew, B3.drew, B4.drew, (fun h => by cases h), (fun h => by cases h), (fun h => by cases h), (fun h => by cases h), (fun h => by cases h), (fun h => by cases h), (fun h => by cases h), (fun h => by cases h), (fun h => by cases h), (fun h => by cases h), (fun h => by cases h), (fun h => by cases h), (fun h => by cases h), (fun h => by cases h), (fun h => by cases h), (fun h => by cases h), (fun h => by cases h), (fun h => by cases h), (fun h => by cases h), (fun h => by cases h)⟩
    · refine (.cons rfl ?_ (.cons rfl ?_ (.cons rfl ?_ (.cons rfl ?_ (.cons rfl ?_ (.cons rfl ?_ (.cons rfl ?_ (.cons rfl ?_ (.cons rfl ?_ (.cons rfl ?_ (.cons rfl ?_ (.cons rfl ?_ (.cons rfl ?_ (.cons rfl ?_ (.cons rfl ?_ (.cons rfl ?_ (.cons rfl ?_ (.nil _))))))))))))))))))
      all_goals intro L v W7 hd hn ⟨hB, hz, s0, s1, s2, s3, s4, h0, h1, h2, h3, h4, h5, h6, h7, h8, h9, h10, h11, h12, h13, h14, h15, h16, d11_12, d11_13, d12_13⟩ K hK
      · go_wp2_with fail
        exact hK _ (.int .i64 (p : Int)) _ (by simp only [Act.put, pA, pB, pC ]) ⟨hB, hz, s0, s1, s2, s3, s4, (fun _ => rfl), h1, h2, h3, h4, h5, h6, h7, h8, h9, h10, h11, h12, h13, h14, h15, h16, d11_12, d11_13, d12_13⟩
      · refine zlc s0 Try.underlying23 Try.size23 ?_
        exact hK _ _ _ rfl ⟨hB, hz, s0, s1, s2, s3, s4, h0, (fun _ => rfl), h2, h3, h4, h5, h6, h7, h8, h9, h10, h11, h12, h13, h14, h15, h16, d11_12, d11_13, d12_13⟩
      · go_wp2_with fail
        exact hK _ (.int .i64 (p : Int)) _ (by simp only [Act.put, pA, pB, pC ]) ⟨hB, hz, s0, s1, s2, s3, s4, h0, h1, (fun _ => rfl), h3, h4, h5, h6, h7, h8, h9, h10, h11, h12, h13, h14, h15, h16, d11_12, d11_13, d12_13⟩
      · refine zlc s2 Try.underlying23 Try.size23 ?_
        exact hK _ _ _ rfl ⟨hB, hz, s0, s1, s2, s3, s4, h0, h1, h2, (fun _ => rfl), h4, h5, h6, h7, h8, h9, h10, h11, h12, h13, h14, h15, h16, d11_12, d11_13, d12_13⟩
      · refine zlc s1 Try.underlying23 Try.size23 ?_
        exact hK _ _ _ rfl ⟨hB, hz, s0, s1, s2, s3, s4, h0, h1, h2, h3, (fun _ => rfl), h5, h6, h7, h8, h9, h10, h11, h12, h13, h14, h15, h16, d11_12, d11_13, d12_13⟩
      · have e2 := h2 (zdq hd 2 rfl)
        have e3 := h3 (zdq hd 3 rfl)
        have e4 := h4 (zdq hd 4 rfl)
        go_wp2_with (go_at_call 158; refine (HDF.out _).mono ?_; rintro e wy ⟨rfl, hy⟩)
        exact hK _ (.agg (zb 64 (subP p (pmP p Fr p X) TP))) _ (by simp only [Act.put, pA, pB, pC, e2, e3, e4]) ⟨hB.trans (hy.mono hB.size), (Nat.le_trans hz hy.size), s0.zw hy, s1.zw hy, s2.zw hy, s3.zw hy, s4.zw hy, h0, h1, h2, h3, h4, (fun _ => rfl), h6, h7, h8, h9, h10, (fun h => (h11 h).below hy), (fun h => (h12 h).below hy), (fun h => (h13 h).below hy), (fun h => (h14 h).below hy), (fun h => (h15 h).below hy), (fun h => (h16 h).below hy), d11_12, d11_13, d12_13⟩
      · have e0 := h0 (zdq hd 0 rfl)
        have e1 := h1 (zdq hd 1 rfl)
        have e5 := h5 (zdq hd 5 rfl)
        go_wp2_with (go_at_call 157; refine (HBZ.out _).mono ?_; rintro e wy ⟨rfl, hy⟩)
        exact hK _ (.tuple #[(.agg (zb 64 (bzD p X (subP p (pmP p Fr p X) TP)))), (.agg (zb 64 (bzU p X (subP p (pmP p Fr p X) TP)))), (.agg (zb 64 (bzW p X (subP p (pmP p Fr p X) TP))))]) _ (by simp only [Act.put, pA, pB, pC, e0, e1, e5]) ⟨hB.trans (hy.mono hB.size), (Nat.le_trans hz hy.size), s0.zw hy, s1.zw hy, s2.zw hy, s3.zw hy, s4.zw hy, h0, h1, h2, h3, h4, h5, (fun _ => rfl), h7, h8, h9, h10, (fun h => (h11 h).below hy), (fun h => (h12 h).below hy), (fun h => (h13 h).below hy), (fun h => (h14 h).below hy), (fun h => (h15 h).below hy), (fun h => (h16 h).below hy), d11_12, d11_13, d12_13⟩
      · have e6 := h6 (zdq hd 6 rfl)
        go_wp2_with fail
        exact hK _ (.tuple #[(.agg (zb 64 (bzD p X (subP p (pmP p Fr p X) TP)))), (.agg (zb 64 (bzU p X (subP p (pmP p Fr p X) TP)))), (.agg (zb 64 (bzW p X (subP p (pmP p Fr p X) TP))))]) _ (by simp only [Act.put, pA, pB, pC, e6]) ⟨hB, hz, s0, s1, s2, s3, s4, h0, h1, h2, h3, h4, h5, h6, (fun _ => rfl), h8, h9, h10, h11, h12, h13, h14, h15, h16, d11_12, d11_13, d12_13⟩
      · have e7 := h7 (zdq hd 7 rfl)
        go_wp2_with fail
        exact hK _ (.agg (zb 64 (bzD p X (subP p (pmP p Fr p X) TP)))) _ (by simp only [Act.put, pA, pB, pC, e7]) ⟨hB, hz, s0, s1, s2, s3, s4, h0, h1, h2, h3, h4, h5, h6, h7, (fun _ => rfl), h9, h10, h11, h12, h13, h14, h15, h16, d11_12, d11_13, d12_13⟩
      · have e7 := h7 (zdq hd 7 rfl)
        go_wp2_with fail
        exact hK _ (.agg (zb 64 (bzU p X (subP p (pmP p Fr p X) TP)))) _ (by simp only [Act.put, pA, pB, pC, e7]) ⟨hB, hz, s0, s1, s2, s3, s4, h0, h1, h2, h3, h4, h5, h6, h7, h8, (fun _ => rfl), h10, h11, h12, h13, h14, h15, h16, d11_12, d11_13, d12_13⟩
      · have e7 := h7 (zdq hd 7 rfl)
        go_wp2_with fail
        exact hK _ (.agg (zb 64 (bzW p X (subP p (pmP p Fr p X) TP)))) _ (by simp only [Act.put, pA, pB, pC, e7]) ⟨hB, hz, s0, s1, s2, s3, s4, h0, h1, h2, h3, h4, h5, h6, h7, h8, h9, (fun _ => rfl), h11, h12, h13, h14, h15, h16, d11_12, d11_13, d12_13⟩
      · go_wp2_with fail
        rw [← z64]
        exact hK _ (.pointer (some ⟨W7.heap.size, 0, none⟩)) _ (by simp only [Act.put, pA, pB, pC ]) ⟨hB.alloc hB.size _, (by simp; omega), (s0).alloc _, (s1).alloc _, (s2).alloc _, (s3).alloc _, (s4).alloc _, h0, h1, h2, h3, h4, h5, h6, h7, h8, h9, h10, (fun _ => (PF.new W7 64 23 _ hz).af), (fun h => (h12 h).below (zal _ _)), (fun h => (h13 h).below (zal _ _)), (fun h => absurd rfl (hn 14 _ rfl h ⟨11, .data⟩ (by simp) rfl)), (fun h => (h15 h).below (zal _ _)), (fun h => (h16 h).below (zal _ _)), (fun h g1 => Ne.symm ((h12 g1).ne_new)), (fun h g1 => Ne.symm ((h13 g1).ne_new)), d12_13⟩
      · go_wp2_with fail
        rw [← z64]
        exact hK _ (.pointer (some ⟨W7.heap.size, 0, none⟩)) _ (by simp only [Act.put, pA, pB, pC ]) ⟨hB.alloc hB.size _, (by simp; omega), (s0).alloc _, (s1).alloc _, (s2).alloc _, (s3).alloc _, (s4).alloc _, h0, h1, h2, h3, h4, h5, h6, h7, h8, h9, h10, (fun h => (h11 h).below (zal _ _)), (fun _ => (PF.new W7 64 23 _ hz).af), (fun h => (h13 h).below (zal _ _)), (fun h => (h14 h).below (zal _ _)), (fun h => absurd rfl (hn 15 _ rfl h ⟨12, .data⟩ (by simp) rfl)), (fun h => (h16 h).below (zal _ _)), (fun h g1 => (h11 h).ne_new), d11_13, (fun h g1 => Ne.symm ((h13 g1).ne_new))⟩
      · go_wp2_with fail
        rw [← z64]
        exact hK _ (.pointer (some ⟨W7.heap.size, 0, none⟩)) _ (by simp only [Act.put, pA, pB, pC ]) ⟨hB.alloc hB.size _, (by simp; omega), (s0).alloc _, (s1).alloc _, (s2).alloc _, (s3).alloc _, (s4).alloc _, h0, h1, h2, h3, h4, h5, h6, h7, h8, h9, h10, (fun h => (h11 h).below (zal _ _)), (fun h => (h12 h).below (zal _ _)), (fun _ => (PF.new W7 64 23 _ hz).af), (fun h => (h14 h).below (zal _ _)), (fun h => (h15 h).below (zal _ _)), (fun h => absurd rfl (hn 16 _ rfl h ⟨13, .data⟩ (by simp) rfl)), d11_12, (fun h g1 => (h11 h).ne_new), (fun h g1 => (h12 h).ne_new)⟩
      · have e8 := h8 (zdq hd 8 rfl)
        obtain ⟨gz, b, ea, hN, hk⟩ := (h11 (zdq hd 11 rfl)).out
        refine zsb 23 _ _ rfl b 64 (bzD p X (subP p (pmP p Fr p X) TP)) ea e8 23 gz hk Try.size23 ?_
        exact hK _ undef _ rfl ⟨zr hB (Nat.le_trans hbase hN) _, (by simpa [World.setRow] using hz), (s0).rowOther (by omega), (s1).rowOther (by omega), (s2).rowOther (by omega), (s3).rowOther (by omega), (s4).rowOther (by omega), h0, h1, h2, h3, h4, h5, h6, h7, h8, h9, h10, (fun h => (h11 h).row hk), (fun h => (h12 h).row hk), (fun h => (h13 h).row hk), (fun _ => by rw [show updV v 14 undef 11 = v 11 from rfl, ea]; exact PF.row hk hN _), (fun h => (h15 h).rowOther (by rw [← ea]; exact (Ne.symm (d11_12 (zdq hd 11 rfl) (zdq hd 12 rfl))))), (fun h => (h16 h).rowOther (by rw [← ea]; exact (Ne.symm (d11_13 (zdq hd 11 rfl) (zdq hd 13 rfl))))), d11_12, d11_13, d12_13⟩
      · have e9 := h9 (zdq hd 9 rfl)
        obtain ⟨gz, b, ea, hN, hk⟩ := (h12 (zdq hd 12 rfl)).out
        refine zsb 23 _ _ rfl b 64 (bzU p X (subP p (pmP p Fr p X) TP)) ea e9 23 gz hk Try.size23 ?_
        exact hK _ undef _ rfl ⟨zr hB (Nat.le_trans hbase hN) _, (by simpa [World.setRow] using hz), (s0).rowOther (by omega), (s1).rowOther (by omega), (s2).rowOther (by omega), (s3).rowOther (by omega), (s4).rowOther (by omega), h0, h1, h2, h3, h4, h5, h6, h7, h8, h9, h10, (fun h => (h11 h).row hk), (fun h => (h12 h).row hk), (fun h => (h13 h).row hk), (fun h => (h14 h).rowOther (by rw [← ea]; exact (d11_12 (zdq hd 11 rfl) (zdq hd 12 rfl)))), (fun _ => by rw [show updV v 15 undef 12 = v 12 from rfl, ea]; exact PF.row hk hN _), (fun h => (h16 h).rowOther (by rw [← ea]; exact (Ne.symm (d12_13 (zdq hd 12 rfl) (zdq hd 13 rfl))))), d11_12, d11_13, d12_13⟩
      · have e10 := h10 (zdq hd 10 rfl)
        obtain ⟨gz, b, ea, hN, hk⟩ := (h13 (zdq hd 13 rfl)).out
        refine zsb 23 _ _ rfl b 64 (bzW p X (subP p (pmP p Fr p X) TP)) ea e10 23 gz hk Try.size23 ?_
        exact hK _ undef _ rfl ⟨zr hB (Nat.le_trans hbase hN) _, (by simpa [World.setRow] using hz), (s0).rowOther (by omega), (s1).rowOther (by omega), (s2).rowOther (by omega), (s3).rowOther (by omega), (s4).rowOther (by omega), h0, h1, h2, h3, h4, h5, h6, h7, h8, h9, h10, (fun h => (h11 h).row hk), (fun h => (h12 h).row hk), (fun h => (h13 h).row hk), (fun h => (h14 h).rowOther (by rw [← ea]; exact (d11_13 (zdq hd 11 rfl) (zdq hd 13 rfl)))), (fun h => (h15 h).rowOther (by rw [← ea]; exact (d12_13 (zdq hd 12 rfl) (zdq hd 13 rfl)))), (fun _ => by rw [show updV v 16 undef 13 = v 13 from rfl, ea]; exact PF.row hk hN _), d11_12, d11_13, d12_13⟩
    · intro L v W7 hL ⟨hB, hz, s0, s1, s2, s3, s4, h0, h1, h2, h3, h4, h5, h6, h7, h8, h9, h10, h11, h12, h13, h14, h15, h16, d11_12, d11_13, d12_13⟩
      have e0 := h0 (hL 0 (by decide))
      have e1 := h1 (hL 1 (by decide))
      have e2 := h2 (hL 2 (by decide))
      have e3 := h3 (hL 3 (by decide))
      have e4 := h4 (hL 4 (by decide))
      have e5 := h5 (hL 5 (by decide))
      have e6 := h6 (hL 6 (by decide))
      have e7 := h7 (hL 7 (by decide))
      have e8 := h8 (hL 8 (by decide))
      have e9 := h9 (hL 9 (by decide))
      have e10 := h10 (hL 10 (by decide))
      obtain ⟨k8_11, e11, hNk8_11, hk8_11⟩ := (h14 (hL 14 (by decide))).out
      obtain ⟨k8_12, e12, hNk8_12, hk8_12⟩ := (h15 (hL 15 (by decide))).out
      obtain ⟨k8_13, e13, hNk8_13, hk8_13⟩ := (h16 (hL 16 (by decide))).out
      have n11_12 := d11_12 (hL 11 (by decide)) (hL 12 (by decide))
      have n11_13 := d11_13 (hL 11 (by decide)) (hL 13 (by decide))
      have n12_13 := d12_13 (hL 12 (by decide)) (hL 13 (by decide))
      clear hL h0 h1 h2 h3 h4 h5 h6 h7 h8 h9 h10 h11 h12 h13 h14 h15 h16 d11_12 d11_13 d12_13
      rw [e11, e12] at n11_12
      have mk8_11_12 : k8_11 ≠ k8_12 := fun h => n11_12 (by rw [h])
      clear n11_12
      rw [e11, e13] at n11_13
      have mk8_11_13 : k8_11 ≠ k8_13 := fun h => n11_13 (by rw [h])
      clear n11_13
      rw [e12, e13] at n12_13
      have mk8_12_13 : k8_12 ≠ k8_13 := fun h => n12_13 (by rw [h])
      clear n12_13
      simp only [Exit.then, e0, e1, e2, e3, e4, e5, e6, e7, e8, e9, e10, e11, e12, e13]
      clear e0 e1 e2 e3 e4 e5 e6 e7 e8 e9 e10 e11 e12 e13
      replace B0 := s0
      clear s0
      replace B1 := s1
      clear s1
      replace B2 := s2
      clear s2
      replace B3 := s3
      clear s3
      replace B4 := s4
      clear s4
      replace hb := hB
      clear hB
      have B5 := hk8_11
      clear hk8_11
      have zk8_11_0 : w.heap.size < k8_11 := by omega
      have zk8_11_1 : N1 < k8_11 := by omega
      have zk8_11_2 : N2 < k8_11 := by omega
      have zk8_11_3 : base ≤ k8_11 := by omega
      have zk8_11_4 : wr.heap.size ≤ k8_11 := by omega
      have B6 := hk8_12
      clear hk8_12
      have zk8_12_0 : w.heap.size < k8_12 := by omega
      have zk8_12_1 : N1 < k8_12 := by omega
      have zk8_12_2 : N2 < k8_12 := by omega
      have zk8_12_3 : base ≤ k8_12 := by omega
      have zk8_12_4 : wr.heap.size ≤ k8_12 := by omega
      have B7 := hk8_13
      clear hk8_13
      have zk8_13_0 : w.heap.size < k8_13 := by omega
      have zk8_13_1 : N1 < k8_13 := by omega
      have zk8_13_2 : N2 < k8_13 := by omega
      have zk8_13_3 : base ≤ k8_13 := by omega
      have zk8_13_4 : wr.heap.size ≤ k8_13 := by omega
      clear hbase hz lt_B0 lt_B1 lt_B2 lt_B3 lt_B4
      go_upto_region 9 with (fail)
      clear HPM HDF HBZ
      have yb41 := B3.lt
      go_upto_block 2 with (first | (refine zla (.tmp 9) B5 Try.underlying23 Try.size23 ?_) | (go_at_call 159; refine (HEQ.out _).mono ?_; rintro e WE ⟨v41, rfl, hS41, hWE⟩; obtain ⟨ad, cap, hv41⟩ := hS41.form; rw [polRows_len] at hv41; subst hv41))
      replace B0 := B0.zw hWE
      replace B1 := B1.zw hWE
      replace B2 := B2.zw hWE
      replace B3 := B3.zw hWE
      replace B4 := B4.zw hWE
      replace B5 := B5.zw hWE
      replace B6 := B6.zw hWE
      replace B7 := B7.zw hWE
      have wsz := hWE.size
      replace hb := hb.trans (hWE.mono hb.size)
      clear hWE HEQ
      have HOK := Lib.hid (show okL p (n + 1) M from HST.out.1)
      go_wp2_with fail
      go_loopw [5, 43] (fun s5 i wr => ∃ (j : Nat) (Y : Nat → Nat) (LJ : List (Nat × Nat)) (lst2 : Value), lst2 = s5 ∧ j ≤ M.length ∧ i = .int .i64 (j : Int) ∧ Hid (foI p (M.take j) X = (LJ, Y)) ∧ LJ.length = j ∧ Hid (∀ k, k < 64 → Y k < p) ∧ 0 ≤ deg Y ∧ Below w.heap.size w wr ∧ Blk wr (w.heap.size) 64 23 Y ∧ Blk wr (N1) 64 23 TP ∧ Blk wr (N2) 64 23 (pmP p Fr p X) ∧ SlL wr base 100 65 lst2 (facRows p (LL ++ LJ)) ∧ SlL wr base 23 64 (.slice ad M.length cap) (polRows p M)) (fun _ i _ => M.length + 1 - (intOf i).toNat)
      case atStart => exact ⟨0, X, [], lst, rfl, Nat.zero_le _, rfl, Lib.hid (by rw [List.take_zero]; unfold foI; rfl), rfl, hX, hX0, hb, B0, B1, B2, (by rw [List.append_nil]; exact B3.1), hS41.base yb41⟩
      case round =>
       clear hb hS41 B0 B1 B2 B3 B4 B5 B6 B7
       obtain ⟨j, Y, LJ, lst2, rfl, hjM, rfl, hFO, hLJ, hY, hY0, hb, B0, B1, B2, hS, hS41⟩ := hrel
       by_cases hj : j < M.length
       · obtain ⟨x, hx⟩ : ∃ x, M[j]? = some x := ⟨_, List.getElem?_eq_getElem hj⟩
         obtain ⟨g, rfl⟩ := hS41.some (by rw [polRows_len]; omega)
         have hr := hS41.range (i := j) (c := bl 64 (ofN p x)) (by unfold polRows; rw [List.getElem?_map, hx]; rfl)
         have hxM := HOK.out x (List.mem_of_getElem? hx)
         have hmx := mon_ofN p2 (by omega : n + 1 < 64) hxM
         have HFT := Lib.hid (show foI p (M.take (j + 1)) X = (LJ ++ [(x, (dvo p (ofN p x) 64 Y).1)], (dvo p (ofN p x) 64 Y).2) by rw [foI_take hx, hFO.out])
         obtain ⟨d1, d2, d3, d4⟩ := dvo_ok (m := ofN p x) hpr (fun k _ => ofN_lt p0 x k) hmx 64 Y hY.out hY0
         have HDV := Lib.hid (fun W => dividedOut_any p Y (ofN p x) (n + 1) W hpr hY.out (fun k _ => ofN_lt p0 x k) hmx (by omega) hY0)
         have HD1 := Lib.hid d1
         have B8 := hS.top
         have B9 := hS41.top
         have B10 : SzG wr.heap.size wr := Nat.le_refl _
         have hjl : (j : Int) < (M.length : Int) := by omega
         obtain ⟨gl1, gl2, gl3⟩ := hS41.len
         clear d1 hmx hxM hx hFO hS hS41 gl1 gl2 gl3
         go_upto_region 11 with (fail)
         have lt_B0 := B0.lt
         have lt_B1 := B1.lt
         have lt_B2 := B2.lt
         have lt_B8 := B8.lt
         have lt_B9 := B9.lt
         have lt_B10 := B10.lt
         go_upto_region 12 with (first | rw [← z64] | (refine wpList_load_mid rfl 23 (.tmp 45) rfl g (j * 64) rfl (bl 64 (ofN p x)) _ hr Try.underlying23 rfl (by rw [zl]; exact Try.size23) ?_) | (refine wpList_store_blk rfl 23 (.tmp 13) (.tmp 46) rfl _ 64 (ofN p x) rfl rfl 23 _ ((Blk.new wr 64 23 (fun _ => 0))) Try.size23 ?_; try simp only [Act.put]))
         have lt_B0 := B0.lt
         have lt_B1 := B1.lt
         have lt_B2 := B2.lt
         have lt_B8 := B8.lt
         have lt_B9 := B9.lt
         have lt_B10 := B10.lt
         have lhb := hb.size
         obtain ⟨W8, hwo, hzQ⟩ : ∃ v : World, v = ((wr.alloc (.cells (zb 64 fun _ => 0) 23)).setRow (wr.heap.size) (zb 64 (ofN p x))) ∧ Blk v (w.heap.size) 64 23 (Y) ∧ Blk v (N1) 64 23 (TP) ∧ Blk v (N2) 64 23 (pmP p Fr p X) ∧ SlT v base wr.heap.size 100 65 lst2 (facRows p (LL ++ LJ)) ∧ SlT v base wr.heap.size 23 64 (.slice (some ⟨g, 0, none⟩) M.length cap) (polRows p M) ∧ SzG wr.heap.size v ∧ Blk v (wr.heap.size) 64 23 (ofN p x) ∧ Below w.heap.size w v := ⟨_, rfl, ((B0.alloc (.cells (zb 64 fun _ => 0) 23)).rowOther (by omega)), ((B1.alloc (.cells (zb 64 fun _ => 0) 23)).rowOther (by omega)), ((B2.alloc (.cells (zb 64 fun _ => 0) 23)).rowOther (by omega)), ((B8.alloc (.cells (zb 64 fun _ => 0) 23)).rowOther (by omega)), ((B9.alloc (.cells (zb 64 fun _ => 0) 23)).rowOther (by omega)), ((B10.alloc (.cells (zb 64 fun _ => 0) 23)).rowOther (by omega)), ((Blk.new wr 64 23 (fun _ => 0)).row (ofN p x)), (zr (hb.alloc (by have := hb.size; simp; omega) (.cells (zb 64 fun _ => 0) 23)) (by omega) _)⟩
         rw [← hwo]
         clear hwo B0 B1 B10 B2 B8 B9 hb
         obtain ⟨B0, B1, B2, B8, B9, B10, B11, hb⟩ := hzQ
         obtain ⟨N3, hNN⟩ : ∃ n : Nat, n = wr.heap.size := ⟨_, rfl⟩
         rw [← hNN] at lt_B0 lt_B1 lt_B2 lt_B8 lt_B9 lt_B10 lhb B11 ⊢
         clear hNN
         have zN3_0 := lt_B0
         have zN3_1 := lt_B1
         have zN3_2 := lt_B2
         have zN3_8 := lt_B8
         have zN3_9 := lt_B9
         have zN3_10 := lt_B10
         have zN3 := lhb
         clear lt_B0 lt_B1 lt_B2 lt_B8 lt_B9 lt_B10 lhb
         try simp only [Act.put, pA, pB, pC]
         clear hr
         have lt_B0 := B0.lt
         have lt_B1 := B1.lt
         have lt_B2 := B2.lt
         have lt_B8 := B8.lt
         have lt_B9 := B9.lt
         have lt_B10 := B10.lt
         have lt_B11 := B11.lt
         go_upto_region 13 with (first | rw [← z64] | rw [← facC_zero] | (refine zla (.tmp 13) B11 Try.underlying23 Try.size23 ?_) | (refine zbo rfl 100 _ rfl (facC (ofN p x) 0).toArray (by rw [Array.toList_map]; exact built_fac _) ?_) | (refine wpList_store_rowv rfl 100 (.tmp 14) (.tmp 48) rfl _ rfl (facC (ofN p x) 0).toArray rfl 100 _ ((Row.new W8 100 (facC (fun _ => 0) 0).toArray)) 65 Try.size100 (by simp [facC_len]) (by simp [facC_len]) (facC_all _ _) ?_; try simp only [Act.put]))
         have lt_B0 := B0.lt
         have lt_B1 := B1.lt
         have lt_B2 := B2.lt
         have lt_B8 := B8.lt
         have lt_B9 := B9.lt
         have lt_B10 := B10.lt
         have lt_B11 := B11.lt
         have lhb := hb.size
         obtain ⟨W9, hwo, hzQ⟩ : ∃ v : World, v = ((W8.alloc (.cells (facC (fun _ => 0) 0).toArray 100)).setRow (W8.heap.size) (facC (ofN p x) 0).toArray) ∧ Blk v (w.heap.size) 64 23 (Y) ∧ Blk v (N1) 64 23 (TP) ∧ Blk v (N2) 64 23 (pmP p Fr p X) ∧ SlT v base wr.heap.size 100 65 lst2 (facRows p (LL ++ LJ)) ∧ SlT v base wr.heap.size 23 64 (.slice (some ⟨g, 0, none⟩) M.length cap) (polRows p M) ∧ SzG wr.heap.size v ∧ Blk v (N3) 64 23 (ofN p x) ∧ Row v (W8.heap.size) 100 (facC (ofN p x) 0).toArray ∧ Below w.heap.size w v := ⟨_, rfl, ((B0.alloc (.cells (facC (fun _ => 0) 0).toArray 100)).rowOther (by omega)), ((B1.alloc (.cells (facC (fun _ => 0) 0).toArray 100)).rowOther (by omega)), ((B2.alloc (.cells (facC (fun _ => 0) 0).toArray 100)).rowOther (by omega)), ((B8.alloc (.cells (facC (fun _ => 0) 0).toArray 100)).rowOther (by omega)), ((B9.alloc (.cells (facC (fun _ => 0) 0).toArray 100)).rowOther (by omega)), ((B10.alloc (.cells (facC (fun _ => 0) 0).toArray 100)).rowOther (by omega)), ((B11.alloc (.cells (facC (fun _ => 0) 0).toArray 100)).rowOther (by omega)), ((Row.new W8 100 (facC (fun _ => 0) 0).toArray).row (facC (ofN p x) 0).toArray), (zr (hb.alloc (by have := hb.size; simp; omega) (.cells (facC (fun _ => 0) 0).toArray 100)) (by omega) _)⟩
         rw [← hwo]
         clear hwo B0 B1 B10 B11 B2 B8 B9 hb
         obtain ⟨B0, B1, B2, B8, B9, B10, B11, B12, hb⟩ := hzQ
         obtain ⟨N4, hNN⟩ : ∃ n : Nat, n = W8.heap.size := ⟨_, rfl⟩
         rw [← hNN] at lt_B0 lt_B1 lt_B2 lt_B8 lt_B9 lt_B10 lt_B11 lhb B12 ⊢
         clear hNN
         have zN4_0 := lt_B0
         have zN4_1 := lt_B1
         have zN4_2 := lt_B2
         have zN4_8 := lt_B8
         have zN4_9 := lt_B9
         have zN4_10 := lt_B10
         have zN4_11 := lt_B11
         have zN4 := lhb
         clear lt_B0 lt_B1 lt_B2 lt_B8 lt_B9 lt_B10 lt_B11 lhb
         try simp only [Act.put, pA, pB, pC]
         have lt_B0 := B0.lt
         have lt_B1 := B1.lt
         have lt_B2 := B2.lt
         have lt_B8 := B8.lt
         have lt_B9 := B9.lt
         have lt_B10 := B10.lt
         have lt_B11 := B11.lt
         have lt_B12 := B12.lt
         go_upto_region 14 with (first | rw [← z64] | (refine zla (.tmp 3) B0 Try.underlying23 Try.size23 ?_) | (refine zla (.tmp 13) B11 Try.underlying23 Try.size23 ?_) | (go_at_call 160; refine (HDV.out _).mono ?_; rintro e W10 ⟨rfl, hW10⟩; replace B0 := B0.zw hW10; replace B1 := B1.zw hW10; replace B2 := B2.zw hW10; replace B8 := B8.zw hW10; replace B9 := B9.zw hW10; replace B10 := B10.zw hW10; replace B11 := B11.zw hW10; replace B12 := B12.zw hW10; replace hb := (hb).trans (hW10.mono (hb).size); have cc := B12.cell (facC_at _ _); have zz := B12.frozen 64) | (refine wpList_store_blk rfl 23 (.tmp 3) (.tmp 55) rfl _ 64 ((dvo p (ofN p x) 64 Y).2) rfl rfl 23 _ ((B0.setOther (by dsimp only; omega))) Try.size23 ?_; try simp only [Act.put]))
         obtain ⟨W11, hwo, hzQ⟩ : ∃ v : World, v = ((W10.setCell ⟨N4, 64, none⟩ (.int .i64 (((dvo p (ofN p x) 64 Y).1 : Nat) : Int))).setRow (w.heap.size) (zb 64 ((dvo p (ofN p x) 64 Y).2))) ∧ Blk v (w.heap.size) 64 23 ((dvo p (ofN p x) 64 Y).2) ∧ Blk v (N1) 64 23 (TP) ∧ Blk v (N2) 64 23 (pmP p Fr p X) ∧ SlT v base wr.heap.size 100 65 lst2 (facRows p (LL ++ LJ)) ∧ SlT v base wr.heap.size 23 64 (.slice (some ⟨g, 0, none⟩) M.length cap) (polRows p M) ∧ SzG wr.heap.size v ∧ Blk v (N3) 64 23 (ofN p x) ∧ Row v (N4) 100 (facC (ofN p x) (dvo p (ofN p x) 64 Y).1).toArray ∧ Below w.heap.size w v := ⟨_, rfl, ((B0.setOther (by dsimp only; omega)).row ((dvo p (ofN p x) 64 Y).2)), ((B1.setOther (by dsimp only; omega)).rowOther (by omega)), ((B2.setOther (by dsimp only; omega)).rowOther (by omega)), ((B8.setOther (by dsimp only; omega)).rowOther (by omega)), ((B9.setOther (by dsimp only; omega)).rowOther (by omega)), ((B10.setOther (by dsimp only; omega)).rowOther (by omega)), ((B11.setOther (by dsimp only; omega)).rowOther (by omega)), ((show Row _ _ _ (facC (ofN p x) (dvo p (ofN p x) 64 Y).1).toArray by rw [← facC_set (ofN p x) 0 (dvo p (ofN p x) 64 Y).1]; exact (B12).set).rowOther (by omega)), (zr (hb.setCell (by show w.heap.size ≤ (N4); omega) _) (by omega) _)⟩
         rw [← hwo]
         clear hwo B0 B1 B10 B11 B12 B2 B8 B9 hb
         obtain ⟨B0, B1, B2, B8, B9, B10, B11, B12, hb⟩ := hzQ
         try simp only [Act.put, pA, pB, pC]
         try clear cc zz
         clear HDV
         have lu_0 := B0.lt
         have lu_1 := B1.lt
         have lu_2 := B2.lt
         have lu_8 := B8.lt
         have lu_9 := B9.lt
         have lu_10 := B10.lt
         have lu_11 := B11.lt
         have lu_12 := B12.lt
         go_wp2_with (first | (refine zlr rfl 100 (.tmp 14) rfl _ rfl 100 (facC (ofN p x) (dvo p (ofN p x) 64 Y).1).toArray B12 _ Try.underlying100 rfl 65 Try.size100 (by simp [facC_len]) ?_) | (refine wpList_build1 rfl 41 _ (facC (ofN p x) (dvo p (ofN p x) 64 Y).1) 65 rfl 100 Try.underlying41 Try.elemFac (by decide) (by decide) (facC_len _ _) rfl ?_; intro wa hps hba; have eB0 := B0.zw hba; have eB1 := B1.zw hba; have eB2 := B2.zw hba; have eB8 := B8.zw hba; have eB9 := B9.zw hba; have eB10 := B10.zw hba; have eB11 := B11.zw hba; have eB12 := B12.zw hba; have ehb := hb.trans (hba.mono hb.size)) | (at_builtin; refine wpList_append_sl _ rfl _ _ 41 rfl base 100 (.agg (facC (fun _ => 0) 0).toArray) 65 72 Try.underlying41 Try.infoFac (by simp [Value.cells, facC_len]) (by decide) lst2 _ rfl eB8.1 W11.heap.size (facC (ofN p x) (dvo p (ofN p x) 64 Y).1) rfl (facC_len _ _) hps.range (facC_one _ _) (by rw [facRows_len, List.length_append]; unfold maxLen; omega) (by rw [facRows_len, List.length_append]; omega) ?_; intro vp wp hSp hg1; have fB0 := eB0.grownO hg1 (eB8.1.own) (base := base) (by omega); have fB1 := eB1.grownO hg1 (eB8.1.own) (base := base) (by omega); have fB2 := eB2.grownO hg1 (eB8.1.own) (base := base) (by omega); have fB9 := eB9.1.grownE eB8.1 hg1 (by decide); have fhb := ehb.grown hg1 ehb.size (fun k e => Nat.le_trans ybw (eB8.1.own k e))))
         go_roundw
         case rel => exact ⟨j + 1, (dvo p (ofN p x) 64 Y).2, LJ ++ [(x, (dvo p (ofN p x) 64 Y).1)], vp, rfl, by omega, by go_num, HFT, by simp [hLJ], HD1, d2, fhb, fB0, fB1, fB2, (by rw [← List.append_assoc, facRows_snoc]; exact hSp), fB9⟩
         case measure => simp [intOf] <;> omega
       · have hjM2 : j = M.length := by omega
         have HFM := Lib.hid (show foI p M X = (LJ, Y) by rw [← hFO.out, hjM2, List.take_length])
         obtain ⟨t1, t2, t3, t4⟩ := HST.out
         rw [HFM.out] at t2 t3 t4
         have HRN := Lib.hid (show run p 64 1 f = (LL ++ LJ) ++ run p fu (n + 1 + 1) Y by rw [hE.out, t2, List.append_assoc])
         have HLW := Lib.hid t3
         have HRM := Lib.hid t4
         have hdY : deg Y ≤ 12 := by
          have := (foI_ok hpr (by omega : n + 1 < 64) M X t1 hX.out hX0).2.2
          rw [HFM.out] at this
          have h3 : deg Y ≤ deg X := this
          omega
         have hjn : ¬ (j : Int) < (M.length : Int) := by omega
         have hLb : (LL ++ LJ).length ≤ (n + 1) * 13841287202 := by rw [List.length_append]; omega
         clear t1 t2 t3 t4 hFO hE hj
         go_wp2_with fail
         go_roundw
         case rel => exact ⟨fu, n + 1, Y, pmP p Fr p X, LL ++ LJ, _, rfl, by have := HFU.out; omega, by go_num, HRN, hY, hY0, hdY, HLW, HF2, HRM, hLb, hb, B0, B1, B2, hS⟩
         case measure => simp [intOf] <;> omega
end Go.Proofs.Ytoncepgcfifgbaa
namespace Go.Proofs.Ytoncepgcfifgbaa
open Go.RowKit
section
variable {P : Program} {Q : Exit → Act → World → Prop}
/-- what is asked of operation i, wanted or not -/
def StepG (P : Program) (ops : Array Oper) (Q : Exit → Act → World → Prop) (F : (Nat → Value) → Act) (Ψ : (Nat → Bool) → (Nat → Value) → World → Prop) (i : Nat) (o : Oper) : Prop :=
 ∀ (L : Nat → Bool) (v : Nat → Value) (w : World), (∀ e, e ∈ o.after → Region.binds .any e = true → L e.on = true) →
  (∀ j p, ops[j]? = some p → L j = true → ∀ e, e ∈ p.after → Region.binds .any e = true → e.on ≠ i) → Ψ L v w →
  ∀ K : Act → World → Prop, (∀ a' y w', a' = (F v).put o.dst y → Ψ (setL L i) (updV v i y) w' → K a' w') →
   if Region.wanted o (yielded ops (F v).tmps) = true then Oper.wp P o (F v) w K Q else K ((F v).put o.dst undef) w
inductive StepsG (P : Program) (ops : Array Oper) (Q : Exit → Act → World → Prop) (F : (Nat → Value) → Act) (Ψ : (Nat → Bool) → (Nat → Value) → World → Prop) : List Oper → Nat → Prop
 | nil (k : Nat) : StepsG P ops Q F Ψ [] k
 | cons {o : Oper} {os : List Oper} {k : Nat} (h : StepG P ops Q F Ψ k o) (hs : StepsG P ops Q F Ψ os (k + 1)) : StepsG P ops Q F Ψ (o :: os) k
theorem stepsG_of {ops : Array Oper} {F : (Nat → Value) → Act} {Ψ : (Nat → Bool) → (Nat → Value) → World → Prop} : ∀ (os : List Oper) (k : Nat), StepsG P ops Q F Ψ os k → ∀ i o, os[i]? = some o → StepG P ops Q F Ψ (k + i) o
 | [], _, _, _, _, h => by simp at h
 | p :: os, k, hs, 0, o, h => by
  simp only [List.getElem?_cons_zero, Option.some.injEq] at h
  subst h
  cases hs with
  | cons h _ => exact h
 | p :: os, k, hs, i + 1, o, h => by
  cases hs with
  | cons _ hs =>
   have := stepsG_of os (k + 1) hs i o (by simpa using h)
   rwa [show k + 1 + i = k + (i + 1) by omega] at this
theorem wp_region_stepsG {os : List Oper} {id : Nat} {a0 : Act} {w : World} (hm : P.follows .mixedOrders = true) (hd : dstsOkL os = true) (he : edgesOk os.toArray = true)
 {F : (Nat → Value) → Act} (hF : ∀ v, frL a0 os 0 v = F v)
 (Ψ : (Nat → Bool) → (Nat → Value) → World → Prop) (h0 : ∀ v, (∀ i, v i = ((os[i]?.bind (·.dst)).map fun t => a0.tmps.getD t undef).getD undef) → Ψ (fun _ => false) v w.drew)
 (hstep : StepsG P os.toArray Q F Ψ os 0)
 (hend : ∀ L v w, (∀ i, i < os.length → L i = true) → Ψ L v w → Q .normal (F v) w) : (Code.region id os.toArray true).wp P Q a0 w := by
 refine wp_region_psi0 hm (by simpa using hd) he Ψ (fun v hv => h0 v (by simpa using hv)) (fun i o ho => ?_) (fun L v w hL hΨ => ?_)
 · have hs := stepsG_of _ _ hstep i o (by simpa using ho)
   rw [Nat.zero_add] at hs
   intro L v w h1 h2 h3 K hK
   have hf : fr a0 os.toArray v = F v := hF v
   rw [hf] at hK ⊢
   exact hs L v w h1 h2 h3 K hK
 · have hf : fr a0 os.toArray v = F v := hF v
   rw [hf]
   exact hend L v w (by simpa using hL) hΨ
end
end Go.Proofs.Ytoncepgcfifgbaa
namespace Go.Proofs.Ytoncepgcfifgbaa
open Go Go.RowKit
set_option linter.unusedVariables false
set_option linter.unusedSimpArgs false
attribute [local irreducible] deg invN dS qS stp stpr quoP resP oneP eqS ofN dvo pmP eqf foI run bzD bzU bzW subP lowf monL TP monUp monB
/-- irreducible -/
noncomputable def irB (p : Nat) (f : Nat → Nat) : Bool := @decide (∃ d, irr p (cut f) d) (Classical.propDecidable _)
theorem irB_iff {p : Nat} {f : Nat → Nat} : irB p f = true ↔ ∃ d, irr p (cut f) d := by
 unfold irB
 exact @decide_eq_true_iff _ (Classical.propDecidable _)
noncomputable def irV (p : Nat) (f : Nat → Nat) : Bool := monUp 12 f && irB p f
theorem cut_lt2 {p : Nat} {f : Nat → Nat} (hp : 0 < p) (lf : ∀ k, k < 64 → f k < p) (k : Nat) : cut f k < p := by
 by_cases hk : k < 64
 · rw [cut_in _ hk]; exact lf k hk
 · rw [zcz _ (by omega)]; exact hp
theorem monUp_cut (c : Int) (f : Nat → Nat) : monUp c (cut f) = monUp c f := by
 have hb := zdb f
 unfold monUp
 rw [deg_congr (f := cut f) (g := f) (fun k hk => cut_in f hk), cut_in f (by omega)]
theorem mon_cut {f : Nat → Nat} {d : Nat} (h : mon f d) : mon (cut f) d := by
 obtain ⟨d6, _, _⟩ := deg_top h.1
 exact ⟨(deg_congr (fun k hk => cut_in f hk)).trans h.1, by rw [cut_in f d6]; exact h.2⟩
theorem run_cut {p : Nat} {f : Nat → Nat} (hp : p = 2 ∨ p = 3 ∨ p = 5 ∨ p = 7) (lf : ∀ k, k < 64 → f k < p) (d : Nat) (hd : 1 ≤ d) (hm : mon f d) : ∃ x l, run p 64 1 (cut f) = x :: l ∧ (eqN 64 (ofN p x.1) f = irB p f) := by
 obtain ⟨x, l, h1, h2⟩ := head_irr hp (cut_lt2 (by omega) lf) hd (mon_cut hm)
 refine ⟨x, l, h1, ?_⟩
 rw [Bool.eq_iff_iff, eqN_iff, irB_iff]
 constructor
 · intro h
   exact ⟨d, h2.1 (fun k hk => by rw [cut_in f hk]; exact h k hk)⟩
 · rintro ⟨d2, hi⟩
   have : d2 = d := by
    have e1 := hi.2.1.1
    have e2 := (mon_cut hm).1
    rw [e1] at e2
    exact Int.ofNat.inj e2
   subst this
   intro k hk
   rw [← cut_in f hk]
   exact h2.2 hi k hk
/-- the pointer to a slice's first element -/
def PV (y z : Value) : Prop := ∃ g n cap, y = .slice (some ⟨g, 0, none⟩) n cap ∧ z = .pointer (some ⟨g, 0, none⟩)
def FV (p : Nat) (n0 : Nat) (x : Nat × Nat) (l : List (Nat × Nat)) (y : Value) (w : World) : Prop := SlL w n0 100 65 y (facRows p (x :: l))
theorem FV.below {p n0 : Nat} {x : Nat × Nat} {l : List (Nat × Nat)} {y : Value} {w w' : World} (h : FV p n0 x l y w) (hb : Below w.heap.size w w') : FV p n0 x l y w' := SlL.below h hb h.lt
set_option maxRecDepth 100000 in
set_option maxHeartbeats 3200000 in
theorem isIrreducible_any (p : Nat) (f : Nat → Nat) (w : World) (hpr : p = 2 ∨ p = 3 ∨ p = 5 ∨ p = 7) (lf : ∀ k, k < 64 → f k < p) :
 Calls Try.prog 107 #[.int .i64 (p : Int), .agg (zb 64 f)] w fun e w' => e = .returned (.bool (irV p f)) ∧ Below w.heap.size w w' := by
 have hbf : byte (cut f) := fun k => by have := cut_lt2 (p := p) (by omega) lf k; omega
 have HMU := Lib.hid (fun W => isMonicUpTo_any 12 (cut f) hbf W (by decide) (by decide))
 rw [monUp_cut, bcells_cut] at HMU
 go_enter Try.func107, Try.ntmps107
 go_upto_region 1 with (fail)
 obtain ⟨W1, hwo⟩ : ∃ v : World, v = (w.alloc (.cells (zb 64 (f)) 23)) := ⟨_, rfl⟩
 have B0 : Blk W1 (w.heap.size) 64 23 (f) := by subst hwo; have := (Blk.new w 64 23 (f)); simpa using this
 have hb : Below w.heap.size w W1 := by subst hwo; exact ((Below.refl _ _).alloc (Nat.le_refl _) _)
 rw [← hwo]
 clear hwo
 cases hmu : monUp 12 f with
 | false =>
  have HV := Lib.hid (show irV p f = false by unfold irV; rw [hmu]; rfl)
  have lt_B0 : (w.heap.size) < W1.heap.size := B0.lt
  refine wp_region_stepsG Try.mixed (by kernel_rfl) (by kernel_rfl) (fun v => by (simp only [frL, Act.put, pA, pB, pC, Nat.reduceAdd, Nat.zero_add]; exact rfl))
   (fun L v wx => Below w.heap.size w wx ∧ W1.heap.size ≤ wx.heap.size ∧ Blk wx (w.heap.size) 64 23 (f) ∧ (L 0 = true → v 0 = (.agg (zb 64 f))) ∧ (L 1 = true → v 1 = (.bool false)) ∧ (L 2 = true → v 2 = (.bool false)) ∧ (L 3 = true → v 3 = undef) ∧ (L 4 = true → v 4 = undef) ∧ (L 5 = true → v 5 = undef) ∧ (L 6 = true → v 6 = undef) ∧ (L 7 = true → v 7 = undef) ∧ (L 8 = true → v 8 = undef) ∧ (L 9 = true → v 9 = undef) ∧ (L 10 = true → v 10 = undef) ∧ (L 11 = true → v 11 = (.bool false)) ∧ (L 12 = true → v 12 = (.bool false))) ?_ ?_ ?_
  · intro v hv0
    exact ⟨hb.drew, Nat.le_refl _, B0.drew, (fun h => by cases h), (fun h => by cases h), (fun h => by cases h), (fun h => by cases h), (fun h => by cases h), (fun h => by cases h), (fun h => by cases h), (fun h => by cases h), (fun h => by cases h), (fun h => by cases h), (fun h => by cases h), (fun h => by cases h), (fun h => by cases h)⟩
  · refine (.cons ?_ (.cons ?_ (.cons ?_ (.cons ?_ (.cons ?_ (.cons ?_ (.cons ?_ (.cons ?_ (.cons ?_ (.cons ?_ (.cons ?_ (.cons ?_ (.cons ?_ (.nil _))))))))))))))
    · intro L v wx hd hn ⟨hB, hz, s0, h0, h1, h2, h3, h4, h5, h6, h7, h8, h9, h10, h11, h12⟩ K hK
      rw [if_pos (by simp [Region.wanted])]
      refine zlc s0 Try.underlying23 Try.size23 ?_
      exact hK _ _ _ rfl ⟨hB, hz, s0, (fun _ => rfl), h1, h2, h3, h4, h5, h6, h7, h8, h9, h10, h11, h12⟩
    · intro L v wx hd hn ⟨hB, hz, s0, h0, h1, h2, h3, h4, h5, h6, h7, h8, h9, h10, h11, h12⟩ K hK
      have e0 := h0 (zdq hd 0 rfl)
      rw [if_pos (by simp [Region.wanted])]
      go_wp2_with (go_at_call 123; refine (HMU.out _).mono ?_; rintro e wy ⟨rfl, hy⟩)
      exact hK _ (.bool false) _ (by simp only [Act.put, pA, pB, pC, e0]) ⟨hB.trans (hy.mono hB.size), (Nat.le_trans hz hy.size), s0.zw hy, h0, (fun _ => rfl), h2, h3, h4, h5, h6, h7, h8, h9, h10, h11, h12⟩
    · intro L v wx hd hn ⟨hB, hz, s0, h0, h1, h2, h3, h4, h5, h6, h7, h8, h9, h10, h11, h12⟩ K hK
      have e1 := h1 (zdq hd 1 rfl)
      rw [if_pos (by simp [Region.wanted])]
      go_wp2_with fail
      exact hK _ (.bool false) _ (by simp only [Act.put, pA, pB, pC, e1]) ⟨hB, hz, s0, h0, h1, (fun _ => rfl), h3, h4, h5, h6, h7, h8, h9, h10, h11, h12⟩
    · intro L v wx hd hn ⟨hB, hz, s0, h0, h1, h2, h3, h4, h5, h6, h7, h8, h9, h10, h11, h12⟩ K hK
      have e2 := h2 (zdq hd 2 rfl)
      rw [if_neg (by simp [Region.wanted, yielded, e2])]
      exact hK _ undef _ rfl ⟨hB, hz, s0, h0, h1, h2, (fun _ => rfl), h4, h5, h6, h7, h8, h9, h10, h11, h12⟩
    · intro L v wx hd hn ⟨hB, hz, s0, h0, h1, h2, h3, h4, h5, h6, h7, h8, h9, h10, h11, h12⟩ K hK
      have e2 := h2 (zdq hd 2 rfl)
      rw [if_neg (by simp [Region.wanted, yielded, e2])]
      exact hK _ undef _ rfl ⟨hB, hz, s0, h0, h1, h2, h3, (fun _ => rfl), h5, h6, h7, h8, h9, h10, h11, h12⟩
    · intro L v wx hd hn ⟨hB, hz, s0, h0, h1, h2, h3, h4, h5, h6, h7, h8, h9, h10, h11, h12⟩ K hK
      have e3 := h3 (zdq hd 3 rfl)
      have e4 := h4 (zdq hd 4 rfl)
      have e2 := h2 (zdq hd 2 rfl)
      rw [if_neg (by simp [Region.wanted, yielded, e2])]
      exact hK _ undef _ rfl ⟨hB, hz, s0, h0, h1, h2, h3, h4, (fun _ => rfl), h6, h7, h8, h9, h10, h11, h12⟩
    · intro L v wx hd hn ⟨hB, hz, s0, h0, h1, h2, h3, h4, h5, h6, h7, h8, h9, h10, h11, h12⟩ K hK
      have e5 := h5 (zdq hd 5 rfl)
      have e2 := h2 (zdq hd 2 rfl)
      rw [if_neg (by simp [Region.wanted, yielded, e2])]
      exact hK _ undef _ rfl ⟨hB, hz, s0, h0, h1, h2, h3, h4, h5, (fun _ => rfl), h7, h8, h9, h10, h11, h12⟩
    · intro L v wx hd hn ⟨hB, hz, s0, h0, h1, h2, h3, h4, h5, h6, h7, h8, h9, h10, h11, h12⟩ K hK
      have e6 := h6 (zdq hd 6 rfl)
      have e2 := h2 (zdq hd 2 rfl)
      rw [if_neg (by simp [Region.wanted, yielded, e2])]
      exact hK _ undef _ rfl ⟨hB, hz, s0, h0, h1, h2, h3, h4, h5, h6, (fun _ => rfl), h8, h9, h10, h11, h12⟩
    · intro L v wx hd hn ⟨hB, hz, s0, h0, h1, h2, h3, h4, h5, h6, h7, h8, h9, h10, h11, h12⟩ K hK
      have e7 := h7 (zdq hd 7 rfl)
      have e2 := h2 (zdq hd 2 rfl)
      rw [if_neg (by simp [Region.wanted, yielded, e2])]
      exact hK _ undef _ rfl ⟨hB, hz, s0, h0, h1, h2, h3, h4, h5, h6, h7, (fun _ => rfl), h9, h10, h11, h12⟩
    · intro L v wx hd hn ⟨hB, hz, s0, h0, h1, h2, h3, h4, h5, h6, h7, h8, h9, h10, h11, h12⟩ K hK
      have e2 := h2 (zdq hd 2 rfl)
      rw [if_neg (by simp [Region.wanted, yielded, e2])]
      exact hK _ undef _ rfl ⟨hB, hz, s0, h0, h1, h2, h3, h4, h5, h6, h7, h8, (fun _ => rfl), h10, h11, h12⟩
    · intro L v wx hd hn ⟨hB, hz, s0, h0, h1, h2, h3, h4, h5, h6, h7, h8, h9, h10, h11, h12⟩ K hK
      have e8 := h8 (zdq hd 8 rfl)
      have e9 := h9 (zdq hd 9 rfl)
      have e2 := h2 (zdq hd 2 rfl)
      rw [if_neg (by simp [Region.wanted, yielded, e2])]
      exact hK _ undef _ rfl ⟨hB, hz, s0, h0, h1, h2, h3, h4, h5, h6, h7, h8, h9, (fun _ => rfl), h11, h12⟩
    · intro L v wx hd hn ⟨hB, hz, s0, h0, h1, h2, h3, h4, h5, h6, h7, h8, h9, h10, h11, h12⟩ K hK
      have e2 := h2 (zdq hd 2 rfl)
      have e10 := h10 (zdq hd 10 rfl)
      rw [if_pos (by simp [Region.wanted])]
      go_wp2_with fail
      exact hK _ (.bool false) _ (by simp only [Act.put, pA, pB, pC, e2, e10]) ⟨hB, hz, s0, h0, h1, h2, h3, h4, h5, h6, h7, h8, h9, h10, (fun _ => rfl), h12⟩
    · intro L v wx hd hn ⟨hB, hz, s0, h0, h1, h2, h3, h4, h5, h6, h7, h8, h9, h10, h11, h12⟩ K hK
      have e11 := h11 (zdq hd 11 rfl)
      rw [if_pos (by simp [Region.wanted])]
      go_wp2_with fail
      exact hK _ (.bool false) _ (by simp only [Act.put, pA, pB, pC, e11]) ⟨hB, hz, s0, h0, h1, h2, h3, h4, h5, h6, h7, h8, h9, h10, h11, (fun _ => rfl)⟩
  · intro L v wx hL ⟨hB, hz, s0, h0, h1, h2, h3, h4, h5, h6, h7, h8, h9, h10, h11, h12⟩
    have e12 := h12 (hL 12 (by decide))
    simp only [Exit.then, e12]
    go_wp2_with fail
    go_ret
    exact ⟨by rw [HV.out]; rfl, hB⟩
 | true =>
  have HV := Lib.hid (show irV p f = irB p f by unfold irV; rw [hmu]; rfl)
  obtain ⟨d, hmon, hd1, hd2⟩ := mon_up hmu
  obtain ⟨x, l, hrun, hxe⟩ := run_cut hpr lf d hd1 hmon
  have HFA := Lib.hid (show ∀ W, Calls Try.prog 111 #[.int .i64 (p : Int), .agg (zb 64 f)] W fun e w' => ∃ v, e = .returned v ∧ SlL w' W.heap.size 100 65 v (facRows p (x :: l)) ∧ Below W.heap.size W w' by
   intro W
   have := factorsOf_any p (cut f) W hpr (fun k _ => cut_lt2 (by omega) lf k) (by rw [(mon_cut hmon).1]; omega) (by rw [(mon_cut hmon).1]; omega)
   unfold FaF at this
   rw [hrun, bcells_cut] at this
   exact this)
  have hgd := Try.noGuard23
  have heq := fun W => zeb (P := Try.prog) W 9998 23 5 64 (ofN p x.1) f Try.underlying23 Try.underlying5 Try.size5
  rw [hxe] at heq
  clear hrun hxe hmon hbf
  have lt_B0 : (w.heap.size) < W1.heap.size := B0.lt
  refine wp_region_stepsG Try.mixed (by kernel_rfl) (by kernel_rfl) (fun v => by (simp only [frL, Act.put, pA, pB, pC, Nat.reduceAdd, Nat.zero_add]; exact rfl))
   (fun L v wx => Below w.heap.size w wx ∧ W1.heap.size ≤ wx.heap.size ∧ Blk wx (w.heap.size) 64 23 (f) ∧ (L 0 = true → v 0 = (.agg (zb 64 f))) ∧ (L 1 = true → v 1 = (.bool true)) ∧ (L 2 = true → v 2 = (.bool true)) ∧ (L 3 = true → v 3 = (.int .i64 (p : Int))) ∧ (L 4 = true → v 4 = (.agg (zb 64 f))) ∧ (L 5 = true → FV p w.heap.size x l (v 5) wx) ∧ (L 6 = true → L 5 = true ∧ PV (v 5) (v 6)) ∧ (L 7 = true → L 6 = true ∧ L 5 = true ∧ PV (v 5) (v 7)) ∧ (L 8 = true → v 8 = (.agg (zb 64 (ofN p x.1)))) ∧ (L 9 = true → v 9 = (.agg (zb 64 f))) ∧ (L 10 = true → v 10 = (.bool (irB p f))) ∧ (L 11 = true → v 11 = (.bool (irB p f))) ∧ (L 12 = true → v 12 = (.bool (irB p f)))) ?_ ?_ ?_
  · intro v hv0
    exact ⟨hb.drew, Nat.le_refl _, B0.drew, (fun h => by cases h), (fun h => by cases h), (fun h => by cases h), (fun h => by cases h), (fun h => by cases h), (fun h => by cases h), (fun h => by cases h), (fun h => by cases h), (fun h => by cases h), (fun h => by cases h), (fun h => by cases h), (fun h => by cases h), (fun h => by cases h)⟩
  · refine (.cons ?_ (.cons ?_ (.cons ?_ (.cons ?_ (.cons ?_ (.cons ?_ (.cons ?_ (.cons ?_ (.cons ?_ (.cons ?_ (.cons ?_ (.cons ?_ (.cons ?_ (.nil _))))))))))))))
    · intro L v wx hd hn ⟨hB, hz, s0, h0, h1, h2, h3, h4, h5, h6, h7, h8, h9, h10, h11, h12⟩ K hK
      rw [if_pos (by simp [Region.wanted])]
      refine zlc s0 Try.underlying23 Try.size23 ?_
      exact hK _ _ _ rfl ⟨hB, hz, s0, (fun _ => rfl), h1, h2, h3, h4, h5, h6, h7, h8, h9, h10, h11, h12⟩
    · intro L v wx hd hn ⟨hB, hz, s0, h0, h1, h2, h3, h4, h5, h6, h7, h8, h9, h10, h11, h12⟩ K hK
      have e0 := h0 (zdq hd 0 rfl)
      rw [if_pos (by simp [Region.wanted])]
      go_wp2_with (go_at_call 123; refine (HMU.out _).mono ?_; rintro e wy ⟨rfl, hy⟩)
      exact hK _ (.bool true) _ (by simp only [Act.put, pA, pB, pC, e0]) ⟨hB.trans (hy.mono hB.size), (Nat.le_trans hz hy.size), s0.zw hy, h0, (fun _ => rfl), h2, h3, h4, (fun h => (h5 h).below hy), h6, h7, h8, h9, h10, h11, h12⟩
    · intro L v wx hd hn ⟨hB, hz, s0, h0, h1, h2, h3, h4, h5, h6, h7, h8, h9, h10, h11, h12⟩ K hK
      have e1 := h1 (zdq hd 1 rfl)
      rw [if_pos (by simp [Region.wanted])]
      go_wp2_with fail
      exact hK _ (.bool true) _ (by simp only [Act.put, pA, pB, pC, e1]) ⟨hB, hz, s0, h0, h1, (fun _ => rfl), h3, h4, h5, h6, h7, h8, h9, h10, h11, h12⟩
    · intro L v wx hd hn ⟨hB, hz, s0, h0, h1, h2, h3, h4, h5, h6, h7, h8, h9, h10, h11, h12⟩ K hK
      have e2 := h2 (zdq hd 2 rfl)
      rw [if_pos (by simp [Region.wanted, yielded, e2])]
      go_wp2_with fail
      exact hK _ (.int .i64 (p : Int)) _ (by simp only [Act.put, pA, pB, pC, e2]) ⟨hB, hz, s0, h0, h1, h2, (fun _ => rfl), h4, h5, h6, h7, h8, h9, h10, h11, h12⟩
    · intro L v wx hd hn ⟨hB, hz, s0, h0, h1, h2, h3, h4, h5, h6, h7, h8, h9, h10, h11, h12⟩ K hK
      have e2 := h2 (zdq hd 2 rfl)
      rw [if_pos (by simp [Region.wanted, yielded, e2])]
      refine zlc s0 Try.underlying23 Try.size23 ?_
      exact hK _ _ _ rfl ⟨hB, hz, s0, h0, h1, h2, h3, (fun _ => rfl), h5, h6, h7, h8, h9, h10, h11, h12⟩
    · intro L v wx hd hn ⟨hB, hz, s0, h0, h1, h2, h3, h4, h5, h6, h7, h8, h9, h10, h11, h12⟩ K hK
      have e3 := h3 (zdq hd 3 rfl)
      have e4 := h4 (zdq hd 4 rfl)
      have e2 := h2 (zdq hd 2 rfl)
      rw [if_pos (by simp [Region.wanted, yielded, e2])]
      go_wp2_with (go_at_call 111; refine (HFA.out _).mono ?_; rintro e wy ⟨y5, rfl, hS5, hy⟩)
      have hFV : FV p w.heap.size x l y5 wy := hS5.base hB.size
      exact hK _ y5 _ (by simp only [Act.put, pA, pB, pC, e3, e4, e2]) ⟨hB.trans (hy.mono hB.size), (Nat.le_trans hz hy.size), s0.zw hy, h0, h1, h2, h3, h4, (fun _ => hFV), (fun h => absurd rfl (hn 6 _ rfl h ⟨5, .data⟩ (by simp) rfl)), (fun h => absurd rfl (hn 6 _ rfl (h7 h).1 ⟨5, .data⟩ (by simp) rfl)), h8, h9, h10, h11, h12⟩
    · intro L v wx hd hn ⟨hB, hz, s0, h0, h1, h2, h3, h4, h5, h6, h7, h8, h9, h10, h11, h12⟩ K hK
      have e2 := h2 (zdq hd 2 rfl)
      rw [if_pos (by simp [Region.wanted, yielded, e2])]
      have L5 := (zdq hd 5 rfl)
      obtain ⟨n5, c5, e5⟩ : ∃ g cap, v 5 = .slice (some ⟨g, 0, none⟩) (l.length + 1) cap := by
       have hf := h5 L5
       unfold FV at hf
       rcases hf.shape with ⟨_, h2⟩ | ⟨g, cap, h2⟩
       · simp [facRows] at h2
       · exact ⟨g, cap, by rw [h2, facRows_len]; rfl⟩
      have hPV : PV (v 5) (.pointer (some ⟨n5, 0, none⟩)) := ⟨n5, _, c5, e5, rfl⟩
      go_wp2_with fail
      exact hK _ (.pointer (some ⟨n5, 0, none⟩)) _ (by simp only [Act.put, pA, pB, pC, e2, e5]) ⟨hB, hz, s0, h0, h1, h2, h3, h4, h5, (fun _ => ⟨L5, hPV⟩), (fun h => absurd rfl (hn 7 _ rfl h ⟨6, .data⟩ (by simp) rfl)), h8, h9, h10, h11, h12⟩
    · intro L v wx hd hn ⟨hB, hz, s0, h0, h1, h2, h3, h4, h5, h6, h7, h8, h9, h10, h11, h12⟩ K hK
      have e2 := h2 (zdq hd 2 rfl)
      rw [if_pos (by simp [Region.wanted, yielded, e2])]
      have L6 := (zdq hd 6 rfl)
      obtain ⟨L5, n5, m5, c5, e5, e6⟩ := h6 L6
      have hPV : PV (v 5) (.pointer (some ⟨n5, 0, none⟩)) := ⟨n5, m5, c5, e5, rfl⟩
      go_wp2_with fail
      exact hK _ (.pointer (some ⟨n5, 0, none⟩)) _ (by simp only [Act.put, pA, pB, pC, e2, e5, e6]) ⟨hB, hz, s0, h0, h1, h2, h3, h4, h5, h6, (fun _ => ⟨L6, L5, hPV⟩), h8, h9, h10, h11, h12⟩
    · intro L v wx hd hn ⟨hB, hz, s0, h0, h1, h2, h3, h4, h5, h6, h7, h8, h9, h10, h11, h12⟩ K hK
      have e2 := h2 (zdq hd 2 rfl)
      rw [if_pos (by simp [Region.wanted, yielded, e2])]
      obtain ⟨L6, L5, n5, m5, c5, e5, e7⟩ := h7 (zdq hd 7 rfl)
      have hf := h5 L5
      unfold FV at hf
      rw [e5] at hf
      have hr := (hf.range (i := 0) (c := facC (ofN p x.1) x.2) rfl)
      rw [Nat.zero_mul] at hr
      have hr2 : wx.rangeAt n5 0 (bl 64 (ofN p x.1)) := fun j u hu => hr j u (by unfold facC; rw [List.getElem?_append_left (List.getElem?_eq_some_iff.1 hu).1]; exact hu)
      refine wp_load_mid 23 _ rfl _ 0 e7 _ _ hr2 Try.underlying23 rfl (by rw [zl]; exact Try.size23) ?_
      exact hK _ _ _ rfl ⟨hB, hz, s0, h0, h1, h2, h3, h4, h5, h6, h7, (fun _ => rfl), h9, h10, h11, h12⟩
    · intro L v wx hd hn ⟨hB, hz, s0, h0, h1, h2, h3, h4, h5, h6, h7, h8, h9, h10, h11, h12⟩ K hK
      have e2 := h2 (zdq hd 2 rfl)
      rw [if_pos (by simp [Region.wanted, yielded, e2])]
      refine zlc s0 Try.underlying23 Try.size23 ?_
      exact hK _ _ _ rfl ⟨hB, hz, s0, h0, h1, h2, h3, h4, h5, h6, h7, h8, (fun _ => rfl), h10, h11, h12⟩
    · intro L v wx hd hn ⟨hB, hz, s0, h0, h1, h2, h3, h4, h5, h6, h7, h8, h9, h10, h11, h12⟩ K hK
      have e8 := h8 (zdq hd 8 rfl)
      have e9 := h9 (zdq hd 9 rfl)
      have e2 := h2 (zdq hd 2 rfl)
      rw [if_pos (by simp [Region.wanted, yielded, e2])]
      go_wp2_with fail
      exact hK _ (.bool (irB p f)) _ (by simp only [Act.put, pA, pB, pC, e8, e9, e2]) ⟨hB, hz, s0, h0, h1, h2, h3, h4, h5, h6, h7, h8, h9, (fun _ => rfl), h11, h12⟩
    · intro L v wx hd hn ⟨hB, hz, s0, h0, h1, h2, h3, h4, h5, h6, h7, h8, h9, h10, h11, h12⟩ K hK
      have e2 := h2 (zdq hd 2 rfl)
      have e10 := h10 (zdq hd 10 rfl)
      rw [if_pos (by simp [Region.wanted])]
      go_wp2_with fail
      exact hK _ (.bool (irB p f)) _ (by simp only [Act.put, pA, pB, pC, e2, e10]) ⟨hB, hz, s0, h0, h1, h2, h3, h4, h5, h6, h7, h8, h9, h10, (fun _ => rfl), h12⟩
    · intro L v wx hd hn ⟨hB, hz, s0, h0, h1, h2, h3, h4, h5, h6, h7, h8, h9, h10, h11, h12⟩ K hK
      have e11 := h11 (zdq hd 11 rfl)
      rw [if_pos (by simp [Region.wanted])]
      go_wp2_with fail
      exact hK _ (.bool (irB p f)) _ (by simp only [Act.put, pA, pB, pC, e11]) ⟨hB, hz, s0, h0, h1, h2, h3, h4, h5, h6, h7, h8, h9, h10, h11, (fun _ => rfl)⟩
  · intro L v wx hL ⟨hB, hz, s0, h0, h1, h2, h3, h4, h5, h6, h7, h8, h9, h10, h11, h12⟩
    have e12 := h12 (hL 12 (by decide))
    simp only [Exit.then, e12]
    go_wp2_with fail
    go_ret
    exact ⟨by rw [HV.out]; rfl, hB⟩
end Go.Proofs.Ytoncepgcfifgbaa
namespace Go.Proofs.Ytoncepgcfifgbaa
open Go Go.RowKit
set_option linter.unusedVariables false
set_option linter.unusedSimpArgs false
theorem addK_subP {p : Nat} {f g : Nat → Nat} (hp : 0 < p) (hg : ∀ i, i < 64 → g i < p) : ∀ i, i < 64 → addK p f g (-1) i = subP p f g i := fun i hi => addK_neg hp hg hi
attribute [local irreducible] deg invN dS qS stp stpr quoP resP oneP eqS ofN dvo pmP eqf foI run bzD bzU bzW subP addK lowf monL TP monUp monB
set_option maxRecDepth 100000 in
theorem l01T_any (w : World) : Calls Try.prog 151 #[] w fun e w' => e = .returned (.agg (zb 64 TP)) ∧ Below w.heap.size w w' := by
 go_enter Try.func151, Try.ntmps151
 go_upto_region 1 with (fail)
 rw [← z64]
 have b0 := Blk.new w 64 23 (fun _ => 0)
 go_wp2_with (first | (refine zbo rfl 23 _ rfl (zb 64 TP) (by rw [Array.toList_map]; exact built_T) ?_) | (refine wpList_store_blk rfl 23 _ _ rfl _ 64 TP rfl rfl 23 _ b0 Try.size23 ?_))
 refine bodyPost_ret (zrb rfl _ _ _ 64 23 5 _ rfl (b0.row _) Try.underlying23 Try.size23) rfl ⟨rfl, zr (zal _ _) (Nat.le_refl _) _⟩
/-- the Frobenius of T, again and again -/
def Fc (p : Nat) (f : Nat → Nat) : Nat → (Nat → Nat)
 | 0 => resP p TP f
 | j + 1 => pmP p (Fc p f j) p f
def Cc (p : Nat) (f : Nat → Nat) (j : Nat) : Nat → Nat := bzD p f (subP p (Fc p f j) TP)
theorem Fc_ok {p : Nat} {f : Nat → Nat} (hp : p = 2 ∨ p = 3 ∨ p = 5 ∨ p = 7) (lf : ∀ k, k < 64 → f k < p) (h0 : 0 ≤ deg f) : ∀ j, (∀ k, k < 64 → Fc p f j k < p) ∧ rm p (lz f) (lz (Fc p f j)) (pwz TS (p ^ j))
 | 0 => by
  refine ⟨fun k hk => resP_lt (by omega) (fun k _ => TP_lt (by omega) k) k hk, ?_⟩
  have := res_rm (a := TP) hp (fun k _ => TP_lt (by omega) k) lf h0
  rw [lz_TP] at this
  rw [Nat.pow_zero, show pwz TS 1 = TS from mz_one TS]
  exact rm_symm this
 | j + 1 => by
  obtain ⟨i1, i2⟩ := Fc_ok hp lf h0 j
  exact ⟨(pmP_spec hp i1 lf h0 (Nat.lt_of_le_of_lt (by omega : p ≤ 7) (by decide))).1, frob_next hp lf h0 i1 i2⟩
theorem irr_of {p d : Nat} {f : Nat → Nat} (hp : p = 2 ∨ p = 3 ∨ p = 5 ∨ p = 7) (lf : ∀ k, f k < p) (hm : mon f d) (hd : 1 ≤ d) : (∃ e, irr p f e) ↔ ∀ j, 1 ≤ j → 2 * j ≤ d → deg (Cc p f j) = 0 := by
 have h0 : 0 ≤ deg f := by rw [hm.1]; omega
 have := irr_test hp lf hd hm (Cc p f) (fun j _ _ => stageC hp (fun k _ => lf k) h0 (Fc_ok hp (fun k _ => lf k) h0 j).1 (Fc_ok hp (fun k _ => lf k) h0 j).2)
 rw [← this]
 constructor
 · rintro ⟨e, he⟩
   have e1 := he.2.1.1
   have e2 := hm.1
   rw [e1] at e2
   have : e = d := by omega
   subst this; exact he
 · exact fun h => ⟨d, h⟩
noncomputable def irC (p : Nat) (f : Nat → Nat) : Bool := @decide (∃ d, irr p f d) (Classical.propDecidable _)
theorem irC_true {p : Nat} {f : Nat → Nat} (h : ∃ d, irr p f d) : irC p f = true := by unfold irC; exact (@decide_eq_true_iff _ (Classical.propDecidable _)).2 h
theorem irC_false {p : Nat} {f : Nat → Nat} (h : ¬ ∃ d, irr p f d) : irC p f = false := by unfold irC; exact (@decide_eq_false_iff_not _ (Classical.propDecidable _)).2 h
set_option maxRecDepth 100000 in
set_option maxHeartbeats 3200000 in
theorem l01Irr_core (p : Nat) (f : Nat → Nat) (d : Nat) (w : World) (hpr : p = 2 ∨ p = 3 ∨ p = 5 ∨ p = 7) (laf : ∀ k, f k < p) (hmon : mon f d) (hd12 : d ≤ 12) :
 Calls Try.prog 105 #[.int .i64 (p : Int), .agg (zb 64 f)] w fun e w' => e = .returned (.bool (irC p f)) ∧ Below w.heap.size w w' := by
 have p2 : 2 ≤ p := by omega
 have p7 : p ≤ 7 := by omega
 have p0 : 0 < p := by omega
 have lf : ∀ k, k < 64 → f k < p := fun k _ => laf k
 have hdf := hmon.1
 have h0 : 0 ≤ deg f := by omega
 have HLF := Lib.hid lf
 have HD := Lib.hid hdf
 have HFK := Lib.hid (fun j => (Fc_ok hpr lf h0 j).1)
 have HMT := Lib.hid (fun W => l01Mod_any p TP f W hpr (fun k _ => TP_lt p2 k) lf h0)
 have HPM := Lib.hid (show ∀ j W, Calls Try.prog 96 #[.int .i64 (p : Int), .agg (zb 64 (Fc p f j)), .int .i64 (p : Int), .agg (zb 64 f)] W fun e w' => e = .returned (.agg (zb 64 (Fc p f (j + 1)))) ∧ Below W.heap.size W w' from fun j W => l01PowMod_any p (Fc p f j) p f W hpr (HFK.out j) lf h0 (by omega))
 have HSB := Lib.hid (show ∀ j W, Calls Try.prog 153 #[.int .i64 (p : Int), .agg (zb 64 (Fc p f j)), .agg (zb 64 TP), .int .i64 (-1)] W fun e w' => e = .returned (.agg (zb 64 (subP p (Fc p f j) TP))) ∧ Below W.heap.size W w' from fun j W => (by have := l01Add_any p (Fc p f j) TP (-1) W p2 p7 (by omega) (by omega) (HFK.out j) (fun k _ => TP_lt p2 k); rwa [zbc (g := subP p (Fc p f j) TP) (addK_subP p0 (fun k _ => TP_lt p2 k))] at this))
 have HGC := Lib.hid (show ∀ j W, Calls Try.prog 152 #[.int .i64 (p : Int), .agg (zb 64 f), .agg (zb 64 (subP p (Fc p f j) TP))] W fun e w' => e = .returned (.agg (zb 64 (Cc p f j))) ∧ Below W.heap.size W w' from fun j W => l01Gcd_any p f (subP p (Fc p f j) TP) W hpr lf (fun k _ => subP_lt p0 k) (fun h => absurd h.1 (by omega)))
 have HIR := Lib.hid (fun hd1 => irr_of hpr laf hmon hd1)
 have HNO := Lib.hid (show d = 0 → ¬ ∃ e, irr p f e from fun h0 ⟨e, he⟩ => by have e1 := he.2.1.1; have e2 := he.1; rw [hdf] at e1; omega)
 clear lf laf hmon hdf
 go_enter Try.func105, Try.ntmps105
 go_upto_region 1 with (fail)
 obtain ⟨W1, hwo⟩ : ∃ v : World, v = (w.alloc (.cells (zb 64 (f)) 23)) := ⟨_, rfl⟩
 have B0 : Blk W1 (w.heap.size) 64 23 (f) := by subst hwo; have := (Blk.new w 64 23 (f)); simpa using this
 have hb : Below w.heap.size w W1 := by subst hwo; exact ((Below.refl _ _).alloc (Nat.le_refl _) _)
 rw [← hwo]
 clear hwo
 have lt_B0 : (w.heap.size) < W1.heap.size := B0.lt
 have hbase : w.heap.size ≤ W1.heap.size := hb.size
 refine zq Try.mixed (by kernel_rfl) (by kernel_rfl) (fun v => by (simp only [frL, Act.put, pA, pB, pC, Nat.reduceAdd, Nat.zero_add]; exact rfl))
  (fun L v W2 => Below w.heap.size w W2 ∧ W1.heap.size ≤ W2.heap.size ∧ Blk W2 (w.heap.size) 64 23 (f) ∧ (L 0 = true → v 0 = (.agg (zb 64 (f)))) ∧ (L 1 = true → v 1 = (.int .i64 (deg f))) ∧ (L 2 = true → v 2 = (.int .i64 (p : Int))) ∧ (L 3 = true → v 3 = (.agg (zb 64 (TP)))) ∧ (L 4 = true → v 4 = (.agg (zb 64 (f)))) ∧ (L 5 = true → v 5 = (.agg (zb 64 (resP p TP f)))) ∧ (L 6 = true → AF (v 6) W2 W1.heap.size 64 23) ∧ (L 7 = true → v 7 = (.int .i64 (deg f))) ∧ (L 8 = true → PF (v 6) W2 W1.heap.size 64 23 (resP p TP f))) ?_ ?_ ?_
 · intro v hv0
   exact ⟨hb.drew, Nat.le_refl _, B0.drew, (fun h => by cases h), (fun h => by cases h), (fun h => by cases h), (fun h => by cases h), (fun h => by cases h), (fun h => by cases h), (fun h => by cases h), (fun h => by cases h), (fun h => by cases h)⟩
 · refine (.cons rfl ?_ (.cons rfl ?_ (.cons rfl ?_ (.cons rfl ?_ (.cons rfl ?_ (.cons rfl ?_ (.cons rfl ?_ (.cons rfl ?_ (.cons rfl ?_ (.nil _))))))))))
   all_goals intro L v W2 hd hn ⟨hB, hz, s0, h0, h1, h2, h3, h4, h5, h6, h7, h8⟩ K hK
   · refine zlc s0 Try.underlying23 Try.size23 ?_
     exact hK _ _ _ rfl ⟨hB, hz, s0, (fun _ => rfl), h1, h2, h3, h4, h5, h6, h7, h8⟩
   · have e0 := h0 (zdq hd 0 rfl)
     go_wp2_with (go_at_call 88; refine (l01Deg_any f _).mono ?_; rintro e wy ⟨rfl, hy⟩)
     exact hK _ (.int .i64 (deg f)) _ (by simp only [Act.put, pA, pB, pC, e0]) ⟨hB.trans (hy.mono hB.size), (Nat.le_trans hz hy.size), s0.zw hy, h0, (fun _ => rfl), h2, h3, h4, h5, (fun h => (h6 h).below hy), h7, (fun h => (h8 h).below hy)⟩
   · go_wp2_with fail
     exact hK _ (.int .i64 (p : Int)) _ (by simp only [Act.put, pA, pB, pC ]) ⟨hB, hz, s0, h0, h1, (fun _ => rfl), h3, h4, h5, h6, h7, h8⟩
   · go_wp2_with (go_at_call 151; refine (l01T_any _).mono ?_; rintro e wy ⟨rfl, hy⟩)
     exact hK _ (.agg (zb 64 (TP))) _ (by simp only [Act.put, pA, pB, pC ]) ⟨hB.trans (hy.mono hB.size), (Nat.le_trans hz hy.size), s0.zw hy, h0, h1, h2, (fun _ => rfl), h4, h5, (fun h => (h6 h).below hy), h7, (fun h => (h8 h).below hy)⟩
   · refine zlc s0 Try.underlying23 Try.size23 ?_
     exact hK _ _ _ rfl ⟨hB, hz, s0, h0, h1, h2, h3, (fun _ => rfl), h5, h6, h7, h8⟩
   · have e2 := h2 (zdq hd 2 rfl)
     have e3 := h3 (zdq hd 3 rfl)
     have e4 := h4 (zdq hd 4 rfl)
     go_wp2_with (go_at_call 146; refine (HMT.out _).mono ?_; rintro e wy ⟨rfl, hy⟩)
     exact hK _ (.agg (zb 64 (resP p TP f))) _ (by simp only [Act.put, pA, pB, pC, e2, e3, e4]) ⟨hB.trans (hy.mono hB.size), (Nat.le_trans hz hy.size), s0.zw hy, h0, h1, h2, h3, h4, (fun _ => rfl), (fun h => (h6 h).below hy), h7, (fun h => (h8 h).below hy)⟩
   · go_wp2_with fail
     rw [← z64]
     exact hK _ (.pointer (some ⟨W2.heap.size, 0, none⟩)) _ (by simp only [Act.put, pA, pB, pC ]) ⟨hB.alloc hB.size _, (by simp; omega), (s0).alloc _, h0, h1, h2, h3, h4, h5, (fun _ => (PF.new W2 64 23 _ hz).af), h7, (fun h => absurd rfl (hn 8 _ rfl h ⟨6, .data⟩ (by simp) rfl))⟩
   · have e1 := h1 (zdq hd 1 rfl)
     go_wp2_with fail
     exact hK _ (.int .i64 (deg f)) _ (by simp only [Act.put, pA, pB, pC, e1]) ⟨hB, hz, s0, h0, h1, h2, h3, h4, h5, h6, (fun _ => rfl), h8⟩
   · have e5 := h5 (zdq hd 5 rfl)
     obtain ⟨gz, b, ea, hN, hk⟩ := (h6 (zdq hd 6 rfl)).out
     refine zsb 23 _ _ rfl b 64 (resP p TP f) ea e5 23 gz hk Try.size23 ?_
     exact hK _ undef _ rfl ⟨zr hB (Nat.le_trans hbase hN) _, (by simpa [World.setRow] using hz), (s0).rowOther (by omega), h0, h1, h2, h3, h4, h5, (fun h => (h6 h).row hk), h7, (fun _ => by rw [show updV v 8 undef 6 = v 6 from rfl, ea]; exact PF.row hk hN _)⟩
 · intro L v W2 hL ⟨hB, hz, s0, h0, h1, h2, h3, h4, h5, h6, h7, h8⟩
   have e0 := h0 (hL 0 (by decide))
   have e1 := h1 (hL 1 (by decide))
   have e2 := h2 (hL 2 (by decide))
   have e3 := h3 (hL 3 (by decide))
   have e4 := h4 (hL 4 (by decide))
   have e5 := h5 (hL 5 (by decide))
   have e7 := h7 (hL 7 (by decide))
   obtain ⟨k1_6, e6, hNk1_6, hk1_6⟩ := (h8 (hL 8 (by decide))).out
   clear hL h0 h1 h2 h3 h4 h5 h6 h7 h8
   simp only [Exit.then, e0, e1, e2, e3, e4, e5, e7, e6]
   clear e0 e1 e2 e3 e4 e5 e7 e6
   replace B0 := s0
   clear s0
   replace hb := hB
   clear hB
   have B1 := hk1_6
   clear hk1_6
   have zk1_6_0 : w.heap.size < k1_6 := by omega
   clear hbase hz lt_B0
   rw [HD.out]
   by_cases hd0 : d = 0
   · have HV := Lib.hid (irC_false (HNO.out hd0))
     have hd1 : (d : Int) < 1 := by omega
     clear hd0
     go_upto_region 2 with (fail)
     go_wp2_with fail
     go_ret
     exact ⟨by rw [HV.out]; rfl, hb⟩
   · have hd1 : 1 ≤ (d : Int) := by omega
     have HIR2 := Lib.hid (HIR.out (by omega))
     clear hd0
     go_upto_region 4 with (fail)
     go_wp2_with fail
     go_loopw [7] (fun i wr => ∃ n : Nat, i = .int .i64 ((n : Int) + 1) ∧ n ≤ d ∧ Hid (∀ j, 1 ≤ j → j ≤ n → deg (Cc p f j) = 0) ∧ Below w.heap.size w wr ∧ Blk wr (w.heap.size) 64 23 f ∧ Blk wr (k1_6) 64 23 (Fc p f n)) (fun i _ => 80 - (intOf i).toNat)
     case atStart => exact ⟨0, rfl, Nat.zero_le _, Lib.hid (fun j h1 h2 => by omega), hb, B0, B1⟩
     case round =>
      clear hb B0 B1
      obtain ⟨n, rfl, hnd, hall, hb, B0, B1⟩ := hrel
      by_cases h2 : 2 * (n + 1) ≤ d
      · have h3 : 2 * ((n : Int) + 1) ≤ (d : Int) := by omega
        go_upto_region 7 with (fail)
        have lt_B0 := B0.lt
        have lt_B1 := B1.lt
        go_upto_region 8 with (first | rw [← z64] | (refine zla (.tmp 6) B1 Try.underlying23 Try.size23 ?_) | (refine zla (.tmp 3) B0 Try.underlying23 Try.size23 ?_) | (go_at_call 96; refine (HPM.out n _).mono ?_; rintro e W3 ⟨rfl, hW3⟩; replace B0 := B0.zw hW3; replace B1 := B1.zw hW3; replace hb := (hb).trans (hW3.mono (hb).size)) | (refine zsr (.tmp 6) (.tmp 26) (Fc p f (n + 1)) B1 Try.size23 ?_; try simp only [Act.put]))
        obtain ⟨W4, hwo, hzQ⟩ : ∃ v : World, v = (W3.setRow (k1_6) (zb 64 (Fc p f (n + 1)))) ∧ Blk v (w.heap.size) 64 23 (f) ∧ Blk v (k1_6) 64 23 (Fc p f (n + 1)) ∧ Below w.heap.size w v := ⟨_, rfl, (B0.rowOther (by omega)), (B1.row (Fc p f (n + 1))), (zr hb (by omega) _)⟩
        rw [← hwo]
        clear hwo B0 B1 hb
        obtain ⟨B0, B1, hb⟩ := hzQ
        try simp only [Act.put, pA, pB, pC]
        by_cases hz : deg (Cc p f (n + 1)) = 0
        · have hq : ((deg (Cc p f (n + 1))) != 0) = false := by rw [hz]; rfl
          have HA := Lib.hid (show ∀ j, 1 ≤ j → j ≤ n + 1 → deg (Cc p f j) = 0 from fun j j1 j2 => by by_cases e : j = n + 1; (subst e; exact hz); exact hall.out j j1 (by omega))
          clear hz hall
          have lt_B0 : (w.heap.size) < W4.heap.size := B0.lt
          have lt_B1 : (k1_6) < W4.heap.size := B1.lt
          have hbase : w.heap.size ≤ W4.heap.size := hb.size
          refine zq Try.mixed (by kernel_rfl) (by kernel_rfl) (fun v => by (simp only [frL, Act.put, pA, pB, pC, Nat.reduceAdd, Nat.zero_add]; exact rfl))
           (fun L v W5 => Below w.heap.size w W5 ∧ W4.heap.size ≤ W5.heap.size ∧ Blk W5 (w.heap.size) 64 23 (f) ∧ Blk W5 (k1_6) 64 23 (Fc p f (n + 1)) ∧ (L 0 = true → v 0 = (.int .i64 (p : Int))) ∧ (L 1 = true → v 1 = (.agg (zb 64 (f)))) ∧ (L 2 = true → v 2 = (.int .i64 (p : Int))) ∧ (L 3 = true → v 3 = (.agg (zb 64 (Fc p f (n + 1))))) ∧ (L 4 = true → v 4 = (.agg (zb 64 (TP)))) ∧ (L 5 = true → v 5 = (.agg (zb 64 (subP p (Fc p f (n + 1)) TP)))) ∧ (L 6 = true → v 6 = (.agg (zb 64 (Cc p f (n + 1))))) ∧ (L 7 = true → v 7 = (.int .i64 (deg (Cc p f (n + 1))))) ∧ (L 8 = true → v 8 = (.bool false))) ?_ ?_ ?_
          · intro v hv0
            exact ⟨hb.drew, Nat.le_refl _, B0.drew, B1.drew, (fun h => by cases h), (fun h => by cases h), (fun h => by cases h), (fun h => by cases h), (fun h => by cases h), (fun h => by cases h), (fun h => by cases h), (fun h => by cases h), (fun h => by cases h)⟩
          · refine (.cons rfl ?_ (.cons rfl ?_ (.cons rfl ?_ (.cons rfl ?_ (.cons rfl ?_ (.cons rfl ?_ (.cons rfl ?_ (.cons rfl ?_ (.cons rfl ?_ (.nil _))))))))))
            all_goals intro L v W5 hd hn ⟨hB, hz, s0, s1, h0, h1, h2, h3, h4, h5, h6, h7, h8⟩ K hK
            · go_wp2_with fail
              exact hK _ (.int .i64 (p : Int)) _ (by simp only [Act.put, pA, pB, pC ]) ⟨hB, hz, s0, s1, (fun _ => rfl), h1, h2, h3, h4, h5, h6, h7, h8⟩
            · refine zlc s0 Try.underlying23 Try.size23 ?_
              exact hK _ _ _ rfl ⟨hB, hz, s0, s1, h0, (fun _ => rfl), h2, h3, h4, h5, h6, h7, h8⟩
            · go_wp2_with fail
              exact hK _ (.int .i64 (p : Int)) _ (by simp only [Act.put, pA, pB, pC ]) ⟨hB, hz, s0, s1, h0, h1, (fun _ => rfl), h3, h4, h5, h6, h7, h8⟩
            · refine zlc s1 Try.underlying23 Try.size23 ?_
              exact hK _ _ _ rfl ⟨hB, hz, s0, s1, h0, h1, h2, (fun _ => rfl), h4, h5, h6, h7, h8⟩
            · go_wp2_with (go_at_call 151; refine (l01T_any _).mono ?_; rintro e wy ⟨rfl, hy⟩)
              exact hK _ (.agg (zb 64 (TP))) _ (by simp only [Act.put, pA, pB, pC ]) ⟨hB.trans (hy.mono hB.size), (Nat.le_trans hz hy.size), s0.zw hy, s1.zw hy, h0, h1, h2, h3, (fun _ => rfl), h5, h6, h7, h8⟩
            · have e2 := h2 (zdq hd 2 rfl)
              have e3 := h3 (zdq hd 3 rfl)
              have e4 := h4 (zdq hd 4 rfl)
              go_wp2_with (go_at_call 153; refine (HSB.out (n + 1) _).mono ?_; rintro e wy ⟨rfl, hy⟩)
              exact hK _ (.agg (zb 64 (subP p (Fc p f (n + 1)) TP))) _ (by simp only [Act.put, pA, pB, pC, e2, e3, e4]) ⟨hB.trans (hy.mono hB.size), (Nat.le_trans hz hy.size), s0.zw hy, s1.zw hy, h0, h1, h2, h3, h4, (fun _ => rfl), h6, h7, h8⟩
            · have e0 := h0 (zdq hd 0 rfl)
              have e1 := h1 (zdq hd 1 rfl)
              have e5 := h5 (zdq hd 5 rfl)
              go_wp2_with (go_at_call 152; refine (HGC.out (n + 1) _).mono ?_; rintro e wy ⟨rfl, hy⟩)
              exact hK _ (.agg (zb 64 (Cc p f (n + 1)))) _ (by simp only [Act.put, pA, pB, pC, e0, e1, e5]) ⟨hB.trans (hy.mono hB.size), (Nat.le_trans hz hy.size), s0.zw hy, s1.zw hy, h0, h1, h2, h3, h4, h5, (fun _ => rfl), h7, h8⟩
            · have e6 := h6 (zdq hd 6 rfl)
              go_wp2_with (go_at_call 88; refine (l01Deg_any (Cc p f (n + 1)) _).mono ?_; rintro e wy ⟨rfl, hy⟩)
              exact hK _ (.int .i64 (deg (Cc p f (n + 1)))) _ (by simp only [Act.put, pA, pB, pC, e6]) ⟨hB.trans (hy.mono hB.size), (Nat.le_trans hz hy.size), s0.zw hy, s1.zw hy, h0, h1, h2, h3, h4, h5, h6, (fun _ => rfl), h8⟩
            · have e7 := h7 (zdq hd 7 rfl)
              go_wp2_with fail
              exact hK _ (.bool false) _ (by simp only [Act.put, pA, pB, pC, e7]) ⟨hB, hz, s0, s1, h0, h1, h2, h3, h4, h5, h6, h7, (fun _ => rfl)⟩
          · intro L v W5 hL ⟨hB, hz, s0, s1, h0, h1, h2, h3, h4, h5, h6, h7, h8⟩
            have e0 := h0 (hL 0 (by decide))
            have e1 := h1 (hL 1 (by decide))
            have e2 := h2 (hL 2 (by decide))
            have e3 := h3 (hL 3 (by decide))
            have e4 := h4 (hL 4 (by decide))
            have e5 := h5 (hL 5 (by decide))
            have e6 := h6 (hL 6 (by decide))
            have e7 := h7 (hL 7 (by decide))
            have e8 := h8 (hL 8 (by decide))
            clear hL h0 h1 h2 h3 h4 h5 h6 h7 h8
            simp only [Exit.then, e0, e1, e2, e3, e4, e5, e6, e7, e8]
            clear e0 e1 e2 e3 e4 e5 e6 e7 e8
            replace B0 := s0
            clear s0
            replace B1 := s1
            clear s1
            replace hb := hB
            clear hB
            clear hbase hz lt_B0 lt_B1
            go_wp2_with fail
            go_roundw
            case rel => exact ⟨n + 1, by go_num, by omega, HA, hb, B0, B1⟩
            case measure => simp [intOf] <;> omega
        · have hq : ((deg (Cc p f (n + 1))) != 0) = true := bne_iff_ne.2 hz
          have HV := Lib.hid (irC_false (fun h => hz (HIR2.out.1 h (n + 1) (by omega) h2)))
          clear hz hall
          have lt_B0 : (w.heap.size) < W4.heap.size := B0.lt
          have lt_B1 : (k1_6) < W4.heap.size := B1.lt
          have hbase : w.heap.size ≤ W4.heap.size := hb.size
          refine zq Try.mixed (by kernel_rfl) (by kernel_rfl) (fun v => by (simp only [frL, Act.put, pA, pB, pC, Nat.reduceAdd, Nat.zero_add]; exact rfl))
           (fun L v W5 => Below w.heap.size w W5 ∧ W4.heap.size ≤ W5.heap.size ∧ Blk W5 (w.heap.size) 64 23 (f) ∧ Blk W5 (k1_6) 64 23 (Fc p f (n + 1)) ∧ (L 0 = true → v 0 = (.int .i64 (p : Int))) ∧ (L 1 = true → v 1 = (.agg (zb 64 (f)))) ∧ (L 2 = true → v 2 = (.int .i64 (p : Int))) ∧ (L 3 = true → v 3 = (.agg (zb 64 (Fc p f (n + 1))))) ∧ (L 4 = true → v 4 = (.agg (zb 64 (TP)))) ∧ (L 5 = true → v 5 = (.agg (zb 64 (subP p (Fc p f (n + 1)) TP)))) ∧ (L 6 = true → v 6 = (.agg (zb 64 (Cc p f (n + 1))))) ∧ (L 7 = true → v 7 = (.int .i64 (deg (Cc p f (n + 1))))) ∧ (L 8 = true → v 8 = (.bool true))) ?_ ?_ ?_
          · intro v hv0
            exact ⟨hb.drew, Nat.le_refl _, B0.drew, B1.drew, (fun h => by cases h), (fun h => by cases h), (fun h => by cases h), (fun h => by cases h), (fun h => by cases h), (fun h => by cases h), (fun h => by cases h), (fun h => by cases h), (fun h => by cases h)⟩
          · refine (.cons rfl ?_ (.cons rfl ?_ (.cons rfl ?_ (.cons rfl ?_ (.cons rfl ?_ (.cons rfl ?_ (.cons rfl ?_ (.cons rfl ?_ (.cons rfl ?_ (.nil _))))))))))
            all_goals intro L v W5 hd hn ⟨hB, hz, s0, s1, h0, h1, h2, h3, h4, h5, h6, h7, h8⟩ K hK
            · go_wp2_with fail
              exact hK _ (.int .i64 (p : Int)) _ (by simp only [Act.put, pA, pB, pC ]) ⟨hB, hz, s0, s1, (fun _ => rfl), h1, h2, h3, h4, h5, h6, h7, h8⟩
            · refine zlc s0 Try.underlying23 Try.size23 ?_
              exact hK _ _ _ rfl ⟨hB, hz, s0, s1, h0, (fun _ => rfl), h2, h3, h4, h5, h6, h7, h8⟩
            · go_wp2_with fail
              exact hK _ (.int .i64 (p : Int)) _ (by simp only [Act.put, pA, pB, pC ]) ⟨hB, hz, s0, s1, h0, h1, (fun _ => rfl), h3, h4, h5, h6, h7, h8⟩
            · refine zlc s1 Try.underlying23 Try.size23 ?_
              exact hK _ _ _ rfl ⟨hB, hz, s0, s1, h0, h1, h2, (fun _ => rfl), h4, h5, h6, h7, h8⟩
            · go_wp2_with (go_at_call 151; refine (l01T_any _).mono ?_; rintro e wy ⟨rfl, hy⟩)
              exact hK _ (.agg (zb 64 (TP))) _ (by simp only [Act.put, pA, pB, pC ]) ⟨hB.trans (hy.mono hB.size), (Nat.le_trans hz hy.size), s0.zw hy, s1.zw hy, h0, h1, h2, h3, (fun _ => rfl), h5, h6, h7, h8⟩
            · have e2 := h2 (zdq hd 2 rfl)
              have e3 := h3 (zdq hd 3 rfl)
              have e4 := h4 (zdq hd 4 rfl)
              go_wp2_with (go_at_call 153; refine (HSB.out (n + 1) _).mono ?_; rintro e wy ⟨rfl, hy⟩)
              exact hK _ (.agg (zb 64 (subP p (Fc p f (n + 1)) TP))) _ (by simp only [Act.put, pA, pB, pC, e2, e3, e4]) ⟨hB.trans (hy.mono hB.size), (Nat.le_trans hz hy.size), s0.zw hy, s1.zw hy, h0, h1, h2, h3, h4, (fun _ => rfl), h6, h7, h8⟩
            · have e0 := h0 (zdq hd 0 rfl)
              have e1 := h1 (zdq hd 1 rfl)
              have e5 := h5 (zdq hd 5 rfl)
              go_wp2_with (go_at_call 152; refine (HGC.out (n + 1) _).mono ?_; rintro e wy ⟨rfl, hy⟩)
              exact hK _ (.agg (zb 64 (Cc p f (n + 1)))) _ (by simp only [Act.put, pA, pB, pC, e0, e1, e5]) ⟨hB.trans (hy.mono hB.size), (Nat.le_trans hz hy.size), s0.zw hy, s1.zw hy, h0, h1, h2, h3, h4, h5, (fun _ => rfl), h7, h8⟩
            · have e6 := h6 (zdq hd 6 rfl)
              go_wp2_with (go_at_call 88; refine (l01Deg_any (Cc p f (n + 1)) _).mono ?_; rintro e wy ⟨rfl, hy⟩)
              exact hK _ (.int .i64 (deg (Cc p f (n + 1)))) _ (by simp only [Act.put, pA, pB, pC, e6]) ⟨hB.trans (hy.mono hB.size), (Nat.le_trans hz hy.size), s0.zw hy, s1.zw hy, h0, h1, h2, h3, h4, h5, h6, (fun _ => rfl), h8⟩
            · have e7 := h7 (zdq hd 7 rfl)
              go_wp2_with fail
              exact hK _ (.bool true) _ (by simp only [Act.put, pA, pB, pC, e7]) ⟨hB, hz, s0, s1, h0, h1, h2, h3, h4, h5, h6, h7, (fun _ => rfl)⟩
          · intro L v W5 hL ⟨hB, hz, s0, s1, h0, h1, h2, h3, h4, h5, h6, h7, h8⟩
            have e0 := h0 (hL 0 (by decide))
            have e1 := h1 (hL 1 (by decide))
            have e2 := h2 (hL 2 (by decide))
            have e3 := h3 (hL 3 (by decide))
            have e4 := h4 (hL 4 (by decide))
            have e5 := h5 (hL 5 (by decide))
            have e6 := h6 (hL 6 (by decide))
            have e7 := h7 (hL 7 (by decide))
            have e8 := h8 (hL 8 (by decide))
            clear hL h0 h1 h2 h3 h4 h5 h6 h7 h8
            simp only [Exit.then, e0, e1, e2, e3, e4, e5, e6, e7, e8]
            clear e0 e1 e2 e3 e4 e5 e6 e7 e8
            replace B0 := s0
            clear s0
            replace B1 := s1
            clear s1
            replace hb := hB
            clear hB
            clear hbase hz lt_B0 lt_B1
            go_wp2_with fail
            go_ret
            exact ⟨by rw [HV.out]; rfl, hb⟩
      · have h3 : ¬ 2 * ((n : Int) + 1) ≤ (d : Int) := by omega
        have HV := Lib.hid (irC_true (HIR2.out.2 (fun j j1 j2 => hall.out j j1 (by omega))))
        clear h2
        go_upto_region 10 with (fail)
        go_wp2_with fail
        go_ret
        exact ⟨by rw [HV.out]; rfl, hb⟩
theorem l01Irreducible_any (p : Nat) (f : Nat → Nat) (d : Nat) (w : World) (hpr : p = 2 ∨ p = 3 ∨ p = 5 ∨ p = 7) (lf : ∀ k, k < 64 → f k < p) (hmon : mon f d) (hd12 : d ≤ 12) :
 Calls Try.prog 105 #[.int .i64 (p : Int), .agg (zb 64 f)] w fun e w' => e = .returned (.bool (irB p f)) ∧ Below w.heap.size w w' := by
 have := l01Irr_core p (cut f) d w hpr (cut_lt2 (by omega) lf) (mon_cut hmon) hd12
 rw [bcells_cut] at this
 exact this
end Go.Proofs.Ytoncepgcfifgbaa
namespace Go.Proofs.Ytoncepgcfifgbaa
open Go Go.RowKit
set_option linter.unusedVariables false
set_option linter.unusedSimpArgs false
attribute [local irreducible] deg irB monUp monB
/-- the code of a polynomial of a degree in lo..12 -/
def spV (p : Int) (f : Nat → Nat) (lo : Int) : Int := if codeL p [f] = 0 then (if lo ≤ deg f ∧ deg f ≤ 12 then 0 else 2) else 1
theorem spV_1 {p lo : Int} {f : Nat → Nat} (h : codeL p [f] = 1) : spV p f lo = 1 := by unfold spV; rw [if_neg (by omega)]
theorem spV_2 {p lo : Int} {f : Nat → Nat} (h : codeL p [f] = 0) (h2 : ¬ (lo ≤ deg f ∧ deg f ≤ 12)) : spV p f lo = 2 := by unfold spV; rw [if_pos h, if_neg h2]
theorem spV_0 {p lo : Int} {f : Nat → Nat} (h : codeL p [f] = 0) (h2 : lo ≤ deg f ∧ deg f ≤ 12) : spV p f lo = 0 := by unfold spV; rw [if_pos h, if_pos h2]
set_option maxRecDepth 100000 in
set_option maxHeartbeats 800000 in
theorem checkSplit_any (p : Int) (f : Nat → Nat) (hf : byte f) (lo : Int) (hl1 : -1 ≤ lo) (hl2 : lo ≤ 12) (w : World) :
 Calls Try.prog 106 #[.int .i64 p, .agg (zb 64 f), .int .i64 lo] w fun e w' => e = .returned (.int .i64 (spV p f lo)) ∧ Below w.heap.size w w' := by
 obtain ⟨fb1, fb2⟩ := zdb f
 go_enter Try.func106, Try.ntmps106
 go_upto_region 1 with (fail)
 obtain ⟨W1, hwo⟩ : ∃ v : World, v = (w.alloc (.cells (zb 64 (f)) 23)) := ⟨_, rfl⟩
 have B0 : Blk W1 (w.heap.size) 64 23 (f) := by subst hwo; have := (Blk.new w 64 23 (f)); simpa using this
 have hb : Below w.heap.size w W1 := by subst hwo; exact ((Below.refl _ _).alloc (Nat.le_refl _) _)
 rw [← hwo]
 clear hwo
 go_upto_region 2 with (first | (refine zla (.tmp 4) B0 Try.underlying23 Try.size23 ?_) | (refine wpList_build_polys rfl 33 _ [f] rfl 23 rfl Try.underlying33 Try.elem23 (by simp) (by simp) rfl ?_; intro wa hwa hps hba; clear hwa) | (go_at_call 86; refine (checkPolys_any p [f] (by simp [hf]) _ _ hps (by simp)).mono ?_; rintro e W2 ⟨rfl, hbb⟩))
 have hBB : Below W1.heap.size W1 W2 := hba.trans (hbb.mono hba.size)
 replace B0 := B0.zw hBB
 replace hb := hb.trans (hBB.mono hb.size)
 clear hBB hba hbb hps
 rcases codeL_two p [f] with hc | hc
 · by_cases hr : lo ≤ deg f ∧ deg f ≤ 12
   · have HV := Lib.hid (spV_0 hc hr)
     obtain ⟨hr1, hr2⟩ := hr
     rw [hc]
     clear hc
     go_upto_region 4 with (fail)
     go_upto_region 5 with (first | (refine zla (.tmp 4) B0 Try.underlying23 Try.size23 ?_) | (go_at_call 92; refine (degree_any f _).mono ?_; rintro e W3 ⟨rfl, hW3⟩; replace B0 := B0.zw hW3; replace hb := (hb).trans (hW3.mono (hb).size)))
     go_wp2_with fail
     go_ret
     exact ⟨ret_int HV.out.symm, hb⟩
   · have HV := Lib.hid (spV_2 hc hr)
     rw [hc]
     clear hc
     go_upto_region 4 with (fail)
     go_upto_region 5 with (first | (refine zla (.tmp 4) B0 Try.underlying23 Try.size23 ?_) | (go_at_call 92; refine (degree_any f _).mono ?_; rintro e W3 ⟨rfl, hW3⟩; replace B0 := B0.zw hW3; replace hb := (hb).trans (hW3.mono (hb).size)))
     by_cases h1 : deg f < lo
     · clear hr
       go_wp2_with fail
       go_ret
       exact ⟨ret_int HV.out.symm, hb⟩
     · have h2 : 12 < deg f := by omega
       clear hr
       go_wp2_with fail
       go_ret
       exact ⟨ret_int HV.out.symm, hb⟩
 · have HV := Lib.hid (spV_1 (lo := lo) hc)
   rw [hc]
   clear hc
   go_upto_region 3 with (fail)
   go_wp2_with fail
   go_ret
   exact ⟨ret_int HV.out.symm, hb⟩
set_option maxRecDepth 100000 in
set_option maxHeartbeats 800000 in
theorem l02Degree_any (p : Int) (f : Nat → Nat) (hf : byte f) (lo : Int) (hl1 : -1 ≤ lo) (hl2 : lo ≤ 12) (w : World) :
 Calls Try.prog 103 #[.int .i64 p, .agg (zb 64 f), .int .i64 lo, .int .i64 12] w fun e w' => e = .returned (.int .i64 (spV p f lo)) ∧ Below w.heap.size w w' := by
 obtain ⟨fb1, fb2⟩ := zdb f
 go_enter Try.func103, Try.ntmps103
 go_upto_region 1 with (fail)
 obtain ⟨W1, hwo⟩ : ∃ v : World, v = (w.alloc (.cells (zb 64 (f)) 23)) := ⟨_, rfl⟩
 have B0 : Blk W1 (w.heap.size) 64 23 (f) := by subst hwo; have := (Blk.new w 64 23 (f)); simpa using this
 have hb : Below w.heap.size w W1 := by subst hwo; exact ((Below.refl _ _).alloc (Nat.le_refl _) _)
 rw [← hwo]
 clear hwo
 rcases codeL_two p [f] with hc | hc
 · by_cases hr : lo ≤ deg f ∧ deg f ≤ 12
   · have HV := Lib.hid (spV_0 hc hr)
     go_upto_region 3 with (first | (refine zla (.tmp 5) B0 Try.underlying23 Try.size23 ?_) | (refine wpList_build_polys rfl 33 _ [f] rfl 23 rfl Try.underlying33 Try.elem23 (by simp) (by simp) rfl ?_; intro wa hwa hps hba; clear hwa) | (go_at_call 85; refine (l01Code_any p [f] (by simp [hf]) _ _ hps (by simp)).mono ?_; rintro e W2 ⟨rfl, hbb⟩; rw [hc]))
     have hBB : Below W1.heap.size W1 W2 := hba.trans (hbb.mono hba.size)
     replace B0 := B0.zw hBB
     replace hb := hb.trans (hBB.mono hb.size)
     clear hBB hba hbb hps
     clear hc
     go_upto_region 5 with (first | (refine zla (.tmp 5) B0 Try.underlying23 Try.size23 ?_) | (go_at_call 88; refine (l01Deg_any f _).mono ?_; rintro e W3 ⟨rfl, hW3⟩; replace B0 := B0.zw hW3; replace hb := (hb).trans (hW3.mono (hb).size)) | (go_at_call 89; refine (l01In_any _ _ _ _).mono ?_; rintro e wS ⟨rfl, rfl⟩; rw [show decide (lo ≤ deg f ∧ deg f ≤ 12) = true by simp; omega]))
     go_wp2_with fail
     go_ret
     exact ⟨ret_int HV.out.symm, hb⟩
   · have HV := Lib.hid (spV_2 hc hr)
     go_upto_region 3 with (first | (refine zla (.tmp 5) B0 Try.underlying23 Try.size23 ?_) | (refine wpList_build_polys rfl 33 _ [f] rfl 23 rfl Try.underlying33 Try.elem23 (by simp) (by simp) rfl ?_; intro wa hwa hps hba; clear hwa) | (go_at_call 85; refine (l01Code_any p [f] (by simp [hf]) _ _ hps (by simp)).mono ?_; rintro e W2 ⟨rfl, hbb⟩; rw [hc]))
     have hBB : Below W1.heap.size W1 W2 := hba.trans (hbb.mono hba.size)
     replace B0 := B0.zw hBB
     replace hb := hb.trans (hBB.mono hb.size)
     clear hBB hba hbb hps
     clear hc
     go_upto_region 4 with (first | (refine zla (.tmp 5) B0 Try.underlying23 Try.size23 ?_) | (go_at_call 88; refine (l01Deg_any f _).mono ?_; rintro e W3 ⟨rfl, hW3⟩; replace B0 := B0.zw hW3; replace hb := (hb).trans (hW3.mono (hb).size)) | (go_at_call 89; refine (l01In_any _ _ _ _).mono ?_; rintro e wS ⟨rfl, rfl⟩; rw [show decide (lo ≤ deg f ∧ deg f ≤ 12) = false by simp; omega]))
     go_wp2_with fail
     go_ret
     exact ⟨ret_int HV.out.symm, hb⟩
 · have HV := Lib.hid (spV_1 (lo := lo) hc)
   go_upto_region 2 with (first | (refine zla (.tmp 5) B0 Try.underlying23 Try.size23 ?_) | (refine wpList_build_polys rfl 33 _ [f] rfl 23 rfl Try.underlying33 Try.elem23 (by simp) (by simp) rfl ?_; intro wa hwa hps hba; clear hwa) | (go_at_call 85; refine (l01Code_any p [f] (by simp [hf]) _ _ hps (by simp)).mono ?_; rintro e W2 ⟨rfl, hbb⟩; rw [hc]))
   have hBB : Below W1.heap.size W1 W2 := hba.trans (hbb.mono hba.size)
   replace B0 := B0.zw hBB
   replace hb := hb.trans (hBB.mono hb.size)
   clear hBB hba hbb hps
   go_wp2_with fail
   go_ret
   exact ⟨ret_int HV.out.symm, hb⟩
theorem spV_cases {p lo : Int} {f : Nat → Nat} : (∃ c, spV p f lo = c ∧ c ≠ 0 ∧ (c = 1 ∨ c = 2)) ∨ (spV p f lo = 0 ∧ codeL p [f] = 0 ∧ lo ≤ deg f ∧ deg f ≤ 12) := by
 rcases codeL_two p [f] with h1 | h1
 · by_cases h : lo ≤ deg f ∧ deg f ≤ 12
   · exact .inr ⟨spV_0 h1 h, h1, h⟩
   · exact .inl ⟨2, spV_2 h1 h, by decide, .inr rfl⟩
 · exact .inl ⟨1, spV_1 h1, by decide, .inl rfl⟩
theorem irV_B {p : Nat} {f : Nat → Nat} (h : deg f ≤ 12) : irV p f = (monB f && irB p f) := by
 unfold irV
 rw [monUp_B]
 cases hm : monB f with
 | false => rfl
 | true =>
  cases hi : irB p f with
  | false => simp
  | true =>
   obtain ⟨d, hd⟩ := irB_iff.1 hi
   have h1 := hd.1
   have h2 : deg f = (d : Int) := by rw [← hd.2.1.1]; exact (deg_congr (f := cut f) (g := f) (fun k hk => cut_in f hk)).symm
   simp; omega
end Go.Proofs.Ytoncepgcfifgbaa
end
section
namespace Go.Proofs.Ytoncepgcfifgbaa
open Go.ChangeShapes Go.WideShapes Go.ChangeAt Go.RowKit
section
variable {H : Type} {enc : TypeId × Value → H} {P : Program}
theorem trod_int_to {e : TypeId} {k : IntKind} (he : P.underlying e = some (.int k)) {w : World} (w' : World) {b : Nat} (b' : Nat) {s : Nat → Bool} (s' : Nat → Bool) {h : Bool} (h' : Bool) {m : Nat} {c : List Value} {x : DataW H × List MemPlace}
 (hx : DataW.trod enc P w b s h m e c = some x) : DataW.trod enc P w' b' s' h' m e c = some x := by
 cases m with
 | zero => simp [DataW.trod] at hx
 | succ m =>
  obtain ⟨n, rfl, rfl, hw⟩ := DataW.trod_int he hx
  unfold DataW.trod
  rw [he]
  simp [hw]
theorem trod_int_same {e : TypeId} {k : IntKind} (he : P.underlying e = some (.int k)) (w w' : World) (b b' : Nat) (s s' : Nat → Bool) (h h' : Bool) (m : Nat) (c : List Value) :
 DataW.trod enc P w b s h m e c = DataW.trod enc P w' b' s' h' m e c := by
 cases h1 : DataW.trod enc P w b s h m e c with
 | some x => rw [trod_int_to he w' b' s' h' h1]
 | none =>
  cases h2 : DataW.trod enc P w' b' s' h' m e c with
  | none => rfl
  | some x => rw [trod_int_to he w b s h h2] at h1; cases h1
theorem open_barr {t e : TypeId} {n : Nat} {w : World} {r : Reach} {b0 base : Nat} {spare : Nat → Bool} {held : Bool} {v : Value} {d : DataW H} {p : List MemPlace}
 (ht : P.underlying t = some (.array n e)) (he : P.underlying e = some (.int .u8)) (hC : P.cellsOf t = n) (hCe : P.cellsOf e = 1)
 (hv : Value.okWide P w r b0 t v) (h : DataW.Trod enc P w base spare held t v d p) :
 ∃ f : Nat → Nat, byte f ∧ v = .agg (zb n f) ∧ p = [] ∧ ∀ (w' : World) (base' : Nat) (spare' : Nat → Bool) (held' : Bool), DataW.Trod enc P w' base' spare' held' t v d [] := by
 unfold Value.okWide at hv
 rw [ht] at hv
 obtain ⟨cs, rfl, hsz, _⟩ := hv
 obtain ⟨fuel, hf⟩ := h
 obtain ⟨xs, m, hm, hx, hlen, hxl, hel⟩ := DataW.trod_array ht hf
 subst hm
 have hcs : cs.size = n := by rw [hsz, hC]
 have each : ∀ i, i < n → ∃ k : Nat, k < 256 ∧ cs[i]? = some (.int .u8 (k : Int)) ∧ xs[i]? = some (.lit (.int .u8 (k : Int)), []) := by
  intro i hi
  have h1 := hel i hi
  have hxi : xs[i]? = some (xs[i]'(by omega)) := List.getElem?_eq_getElem (by omega)
  rw [hxi, hCe] at h1
  obtain ⟨z, hz1, hz2, hz3⟩ := DataW.trod_int he h1
  have hb := bounds_u8 hz3
  obtain ⟨k, rfl⟩ := Int.eq_ofNat_of_zero_le hb.1
  refine ⟨k, by omega, ?_, by rw [hxi, hz2]⟩
  have h2 : ((cs.toList.drop (i * 1)).take 1)[0]? = some (.int .u8 (k : Int)) := by
   have h3 : (Value.agg cs).cells.toList = cs.toList := rfl
   rw [← h3, hz1]; rfl
  simpa using h2
 refine ⟨fun i => match cs[i]? with | some (.int _ z) => if i < n then z.toNat else 0 | _ => 0, ?_, ?_, ?_, ?_⟩
 · intro i
   by_cases hi : i < n
   · obtain ⟨k, hk, hc, _⟩ := each i hi
     simp only [hc, hi, if_true, Int.toNat_natCast]
     exact hk
   · have : cs[i]? = none := Array.getElem?_eq_none (by omega)
     simp [this]
 · congr 1
   apply Array.ext_getElem?
   intro i
   by_cases hi : i < n
   · obtain ⟨k, hk, hc, _⟩ := each i hi
     rw [bcells_get hi]
     simp only [hc, hi, if_true, Int.toNat_natCast]
   · rw [Array.getElem?_eq_none (by omega), Array.getElem?_eq_none (by rw [zbs]; omega)]
 · have hp : p = xs.flatMap (·.2) := by simpa using congrArg Prod.snd hx
   rw [hp]
   rw [List.flatMap_eq_nil_iff]
   intro x hxm
   obtain ⟨i, hi⟩ := List.getElem?_of_mem hxm
   have hin : i < n := by rw [← hxl]; exact (List.getElem?_eq_some_iff.1 hi).1
   obtain ⟨k, _, _, h2⟩ := each i hin
   rw [hi] at h2
   injection h2 with h2
   rw [h2]
 · intro w' base' spare' held'
   refine ⟨m + 1, ?_⟩
   have e1 : DataW.trod enc P w' base' spare' held' (m + 1) t (Value.agg cs).cells.toList = DataW.trod enc P w base spare held (m + 1) t (Value.agg cs).cells.toList := by
    unfold DataW.trod
    rw [ht]
    simp only [trod_int_same he w' w base' base spare' spare held' held m]
   rw [e1, hf]
   have hp : p = xs.flatMap (·.2) := by simpa using congrArg Prod.snd hx
   have : p = [] := by
    rw [hp, List.flatMap_eq_nil_iff]
    intro x hxm
    obtain ⟨i, hi⟩ := List.getElem?_of_mem hxm
    have hin : i < n := by rw [← hxl]; exact (List.getElem?_eq_some_iff.1 hi).1
    obtain ⟨k, _, _, h2⟩ := each i hin
    rw [hi] at h2
    injection h2 with h2
    rw [h2]
   rw [this]
/-- the row's last step where the call has only made new memory, and the row does not say 'again' -/
theorem post_of_below0 {f : Func} {s : ChangeSpec} {apart fresh handsOn : Bool} {W W' : World} {args : Array Value} {v : Value} {ds gs : List (DataW H)} {before pa pv : List MemPlace}
 (hW : DataW.Whole enc P f.params.toList s.vars apart W args.toList ds gs before)
 (hres : ∀ (b : Nat) (sp : Nat → Bool) (hd : Bool), DataW.TrodAll enc P W' b sp hd f.resultTypes.toList (v.resultList f.resultTypes.size) (s.fn H (ds ++ gs)).results [])
 (hargs : ∀ sp : Nat → Bool, (∀ p ∈ before, sp p.block = true) → DataW.TrodAll enc P W' 0 sp true f.params.toList args.toList (s.fn H (ds ++ gs)).args pa)
 (hvars : ∀ sp : Nat → Bool, (∀ p ∈ before, sp p.block = true) → DataW.TrodVars enc P W' sp s.vars (s.fn H (ds ++ gs)).vars pv)
 (hps : before = pa ++ pv) (hb : Below W.heap.size W W') : s.post enc P f apart fresh handsOn false W args v W' := by
 have held : ∀ p ∈ before, (fun b => decide (b < W.heap.size)) p.block = true := fun p hp => by simpa using hW.lt p hp
 refine ⟨ds, gs, before, [], pa, pv, hW, hres _ _ _, hargs _ held, hvars _ held, ?_, fun h => by cases h⟩
 refine World.keptBut_mono (fun p hp => ⟨hp, .inr ?_⟩) (hb.frame (· ∈ before))
 rw [hps, List.mem_append] at hp
 exact hp
end
end Go.Proofs.Ytoncepgcfifgbaa
end
section
namespace Go.Proofs.Ytoncepgcfifgbaa
open Go
def cutW : List Char := [Char.ofNat 99, Char.ofNat 117, Char.ofNat 116]
theorem strip_cut (rest : List (List Char)) : stripLifts liftWords (cutW :: rest) = ([], cutW :: rest) := by
 have key : ∀ os : List String, (os.all fun o => !(cutW == o.toList)) = true → stripLifts os (cutW :: rest) = ([], cutW :: rest) := by
  intro os
  induction os with
  | nil => intro _; rfl
  | cons o os ih =>
   intro h
   simp only [List.all_cons, Bool.and_eq_true, Bool.not_eq_true'] at h
   unfold stripLifts
   rw [h.1]
   exact ih h.2
 exact key _ (by decide +kernel)
theorem make_cut {P : Program} {rest : List (List Char)} (h : behindMainWord (wordsSigns P.initOrder.toList) = cutW :: rest) : P.make = some .cut := by
 unfold Program.make
 rw [h]
 have e1 : (cutW == "gc".toList || cutW == "spec".toList) = false := by decide +kernel
 have e2 : (cutW == "cut".toList) = true := by decide +kernel
 simp only [e1, e2, Bool.true_or]
 rfl
theorem mayEnter_cut {P : Program} {rest : List (List Char)} (h : behindMainWord (wordsSigns P.initOrder.toList) = cutW :: rest) (h1 : P.laysLater = false) (h2 : P.bearsReflect = false) (h3 : P.doorFits [] = true) : P.mayEnter = true := by
 unfold Program.mayEnter
 rw [h]
 have e2 : (some cutW == some "cut".toList) = true := by decide +kernel
 simp only [strip_cut, h1, h2, h3, List.head?_cons, e2]
 simp
theorem lifts_cut {P : Program} {rest : List (List Char)} (h : behindMainWord (wordsSigns P.initOrder.toList) = cutW :: rest) : P.liftsFinal = false := by
 unfold Program.liftsFinal Program.headLifts
 rw [h]
 have e2 : (some cutW == some "cut".toList) = true := by decide +kernel
 have e3 : (some cutW == some "carried".toList) = false := by decide +kernel
 simp only [strip_cut, List.head?_cons, e2, e3]
 simp
/-- the signs of the head, and its words behind the first three -/
def initRest : List (List Nat) := [[97, 116], [108, 111, 111, 112, 46, 101, 120, 97, 109, 112, 108, 101, 47, 103, 48, 49, 50, 52, 53, 47, 108, 97, 119, 115, 46, 70, 110, 69, 120, 97, 99, 116, 68, 101, 114, 105, 118, 97, 116, 105, 118, 101, 79, 102], [108, 111, 111, 112, 46, 101, 120, 97, 109, 112, 108, 101, 47, 103, 48, 49, 50, 52, 53, 47, 108, 97, 119, 115, 46, 70, 110, 69, 120, 97, 99, 116, 80, 111, 119, 101, 114, 79, 102], [108, 111, 111, 112, 46, 101, 120, 97, 109, 112, 108, 101, 47, 103, 48, 49, 50, 52, 53, 47, 108, 97, 119, 115, 46, 70, 110, 69, 120, 97, 99, 116, 80, 111, 119, 101, 114, 77, 111, 100, 117, 108, 111], [108, 111, 111, 112, 46, 101, 120, 97, 109, 112, 108, 101, 47, 103, 48, 49, 50, 52, 53, 47, 108, 97, 119, 115, 46, 70, 110, 69, 120, 97, 99, 116, 77, 111, 110, 105, 99, 80, 111, 108, 121, 115], [108, 111, 111, 112, 46, 101, 120, 97, 109, 112, 108, 101, 47, 103, 48, 49, 50, 52, 53, 47, 108, 97, 119, 115, 46, 70, 110, 69, 120, 97, 99, 116, 73, 115, 73, 114, 114, 101, 100, 117, 99, 105, 98, 108, 101], [108, 111, 111, 112, 46, 101, 120, 97, 109, 112, 108, 101, 47, 103, 48, 49, 50, 52, 53, 47, 108, 97, 119, 115, 46, 70, 110, 69, 120, 97, 99, 116, 73, 114, 114, 101, 100, 117, 99, 105, 98, 108, 101, 115, 79, 102], [108, 111, 111, 112, 46, 101, 120, 97, 109, 112, 108, 101, 47, 103, 48, 49, 50, 52, 53, 47, 108, 97, 119, 115, 46, 70, 110, 69, 120, 97, 99, 116, 70, 97, 99, 116, 111, 114, 115, 79, 102], [108, 111, 111, 112, 46, 101, 120, 97, 109, 112, 108, 101, 47, 103, 48, 49, 50, 52, 53, 47, 108, 97, 119, 115, 46, 70, 110, 69, 120, 97, 99, 116, 77, 111, 101, 98, 105, 117, 115, 79, 102], [108, 111, 111, 112, 46, 101, 120, 97, 109, 112, 108, 101, 47, 103, 48, 49, 50, 52, 53, 47, 108, 97, 119, 115, 46, 70, 110, 69, 120, 97, 99, 116, 69, 117, 108, 101, 114, 79, 102], [108, 111, 111, 112, 46, 101, 120, 97, 109, 112, 108, 101, 47, 103, 48, 49, 50, 52, 53, 47, 108, 97, 119, 115, 46, 70, 110, 69, 120, 97, 99, 116, 79, 114, 100, 101, 114, 77, 111, 100, 117, 108, 111], [108, 111, 111, 112, 46, 101, 120, 97, 109, 112, 108, 101, 47, 103, 48, 49, 50, 52, 53, 47, 108, 97, 119, 115, 46, 70, 110, 69, 120, 97, 99, 116, 80, 114, 105, 109, 105, 116, 105, 118, 101, 79, 102], [108, 111, 111, 112, 46, 101, 120, 97, 109, 112, 108, 101, 47, 103, 48, 49, 50, 52, 53, 47, 108, 97, 119, 115, 46, 70, 110, 69, 120, 97, 99, 116, 73, 115, 70, 105, 101, 108, 100], [108, 111, 111, 112, 46, 101, 120, 97, 109, 112, 108, 101, 47, 103, 48, 49, 50, 52, 53, 47, 108, 97, 119, 115, 46, 70, 110, 69, 120, 97, 99, 116, 73, 115, 68, 105, 115, 99, 114, 105, 109, 105, 110, 97, 110, 116], [108, 111, 111, 112, 46, 101, 120, 97, 109, 112, 108, 101, 47, 103, 48, 49, 50, 52, 53, 47, 108, 97, 119, 115, 46, 70, 110, 69, 120, 97, 99, 116, 73, 115, 70, 111, 114, 109], [108, 111, 111, 112, 46, 101, 120, 97, 109, 112, 108, 101, 47, 103, 48, 49, 50, 52, 53, 47, 108, 97, 119, 115, 46, 70, 110, 69, 120, 97, 99, 116, 82, 101, 100, 117, 99, 101, 70, 111, 114, 109], [108, 111, 111, 112, 46, 101, 120, 97, 109, 112, 108, 101, 47, 103, 48, 49, 50, 52, 53, 47, 108, 97, 119, 115, 46, 70, 110, 69, 120, 97, 99, 116, 82, 101, 100, 117, 99, 101, 100, 70, 111, 114, 109, 115], [108, 111, 111, 112, 46, 101, 120, 97, 109, 112, 108, 101, 47, 103, 48, 49, 50, 52, 53, 47, 108, 97, 119, 115, 46, 70, 110, 69, 120, 97, 99, 116, 67, 108, 97, 115, 115, 78, 117, 109, 98, 101, 114], [108, 111, 111, 112, 46, 101, 120, 97, 109, 112, 108, 101, 47, 103, 48, 49, 50, 52, 53, 47, 108, 97, 119, 115, 46, 70, 110, 69, 120, 97, 99, 116, 67, 111, 109, 112, 111, 115, 101, 70, 111, 114, 109, 115], [108, 111, 111, 112, 46, 101, 120, 97, 109, 112, 108, 101, 47, 103, 48, 49, 50, 52, 53, 47, 108, 97, 119, 115, 46, 70, 110, 69, 120, 97, 99, 116, 73, 110, 118, 101, 114, 115, 101, 70, 111, 114, 109], [108, 111, 111, 112, 46, 101, 120, 97, 109, 112, 108, 101, 47, 103, 48, 49, 50, 52, 53, 47, 108, 97, 119, 115, 46, 70, 110, 69, 120, 97, 99, 116, 80, 111, 119, 101, 114, 79, 102, 70, 111, 114, 109], [108, 111, 111, 112, 46, 101, 120, 97, 109, 112, 108, 101, 47, 103, 48, 49, 50, 52, 53, 47, 108, 97, 119, 115, 46, 70, 110, 69, 120, 97, 99, 116, 79, 114, 100, 101, 114, 79, 102, 70, 111, 114, 109], [108, 111, 111, 112, 46, 101, 120, 97, 109, 112, 108, 101, 47, 103, 48, 49, 50, 52, 53, 47, 108, 97, 119, 115, 46, 70, 110, 69, 120, 97, 99, 116, 71, 114, 111, 117, 112, 79, 114, 100, 101, 114, 115]]
def initSigns : List Nat := [104, 97, 114, 110, 101, 115, 115, 32, 54, 99, 102, 49, 53, 49, 53, 53, 52, 52, 52, 99, 55, 99, 57, 49, 55, 97, 101, 98, 56, 53, 98, 101, 56, 49, 49, 51, 101, 55, 102, 51, 55, 49, 102, 53, 49, 49, 53, 98, 55, 51, 55, 54, 53, 100, 53, 55, 49, 55, 50, 97, 102, 52, 98, 51, 97, 98, 97, 55, 100, 98, 53, 50, 32, 99, 117, 116] ++ initRest.flatMap fun x => 32 :: x
theorem init_split : behindMainWord (wordsSigns (initSigns.map Char.ofNat)) = cutW :: initRest.map (fun w => w.map Char.ofNat) := by kernel_rfl
theorem init_order : Try.prog.initOrder = String.ofList (initSigns.map Char.ofNat) := by kernel_rfl
theorem init_cut : behindMainWord (wordsSigns Try.prog.initOrder.toList) = cutW :: initRest.map (fun w => w.map Char.ofNat) :=
 (congrArg (fun s : String => behindMainWord (wordsSigns s.toList)) init_order).trans ((congrArg (fun l => behindMainWord (wordsSigns l)) String.toList_ofList).trans init_split)
theorem Try.laysLater : Try.prog.laysLater = false := by kernel_rfl
theorem Try.bearsReflect : Try.prog.bearsReflect = false := by kernel_rfl
theorem Try.doorFits : Try.prog.doorFits [] = true := by kernel_rfl
theorem Try.mayEnter : Try.pinned.checked.prog.mayEnter = true := mayEnter_cut init_cut Try.laysLater Try.bearsReflect Try.doorFits
theorem Try.liftsFinal : Try.pinned.checked.prog.liftsFinal = false := lifts_cut init_cut
theorem Try.make : Try.pinned.checked.prog.make = some .cut := make_cut init_cut
end Go.Proofs.Ytoncepgcfifgbaa
end
