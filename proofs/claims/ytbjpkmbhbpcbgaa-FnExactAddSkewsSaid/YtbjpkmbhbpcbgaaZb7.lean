/-
  What the rows of this claim rest on: arrays of bytes, walks of the functions, plain mathematics.
-/
import Derived.Test.YtbjpkmbhbpcbgaaZb6
import Derived.OpenShut
import Derived.ProofKit
import Derived.Test.YtbjpkmbhbpcbgaaRows
import Derived.JoinedOf
section
namespace Go.Proofs.Ytbjpkmbhbpcbgaa
open Go Go.RowKit
set_option linter.unusedVariables false
set_option linter.unusedSimpArgs false
attribute [local irreducible] deg irB monUp monB okA
/-- p and m are a field -/
noncomputable def flV (p : Int) (f : Nat → Nat) : Bool := okA p f && (monUp 4 f && irB p.toNat f)
theorem flV_1 {p : Int} {f : Nat → Nat} (h : okA p f = false) : flV p f = false := by unfold flV; rw [h]; rfl
theorem flV_2 {p : Int} {f : Nat → Nat} (h : monUp 4 f = false) : flV p f = false := by unfold flV; rw [h]; simp
theorem flV_3 {n : Nat} {f : Nat → Nat} (h : okA (n : Int) f = true) (h2 : monUp 4 f = true) : flV (n : Int) f = irB n f := by unfold flV; rw [h, h2]; rfl
theorem irV_up {p : Nat} {f : Nat → Nat} (h : monUp 4 f = true) : irV p f = irB p f := by
  have h2 : monUp 12 f = true := by
    rw [monUp_B] at h ⊢
    simp only [Bool.and_eq_true, decide_eq_true_eq] at h ⊢
    exact ⟨h.1, by omega⟩
  unfold irV; rw [h2]; rfl
theorem okA_nat {p : Int} {f : Nat → Nat} (h : okA p f = true) : ∃ n : Nat, p = (n : Int) ∧ (n = 2 ∨ n = 3 ∨ n = 5 ∨ n = 7) ∧ ∀ k, k < 64 → f k < n := by
  obtain ⟨n, hn, n2, n7⟩ := okP_nat (okA_p h)
  refine ⟨n, hn, ?_, fun k hk => ?_⟩
  · rcases okP_cases (okA_p h) with e | e | e | e <;> omega
  · have := okA_lt h hk; omega
set_option maxRecDepth 100000 in
set_option maxHeartbeats 800000 in
theorem impl_IsField_any (p : Int) (f : Nat → Nat) (hf : byte f) (w : World) :
    Calls Try.prog 160 #[.int .i64 p, .agg (bcells 64 f)] w fun e w' => e = .returned (.bool (flV p f)) ∧ Below w.heap.size w w' := by
  go_enter Try.func160, Try.ntmps160
  go_upto_region 1 with (fail)
  obtain ⟨W1, hwo⟩ : ∃ v : World, v = (w.alloc (.cells (bcells 64 (f)) 23)) := ⟨_, rfl⟩
  have B0 : Blk W1 (w.heap.size) 64 23 (f) := by subst hwo; have := (Blk.new w 64 23 (f)); simpa using this
  have hb : Below w.heap.size w W1 := by subst hwo; exact ((Below.refl _ _).alloc (Nat.le_refl _) _)
  rw [← hwo]
  clear hwo
  cases ho : okA p f with
  | false =>
    have HV := Lib.hid (flV_1 ho)
    go_wp2_with (first | (refine wpList_load_any rfl 23 (.tmp 3) rfl _ rfl 64 23 _ (B0) _ Try.underlying23 rfl Try.size23 ?_) | (go_at_call 150; refine (IsPoly_any _ f hf _).mono ?_; rintro e W2 ⟨rfl, hW2⟩; replace B0 := B0.below hW2 B0.lt; replace hb := (hb).trans (hW2.mono (hb).size); try rw [ho]))
    go_ret
    exact ⟨by rw [HV.out]; rfl, hb⟩
  | true =>
    obtain ⟨n, rfl, hpr, lf⟩ := okA_nat ho
    cases hm : monUp 4 f with
    | false =>
      have HV := Lib.hid (flV_2 (p := (n : Int)) hm)
      go_wp2_with (first | (refine wpList_load_any rfl 23 (.tmp 3) rfl _ rfl 64 23 _ (B0) _ Try.underlying23 rfl Try.size23 ?_) | (go_at_call 150; refine (IsPoly_any _ f hf _).mono ?_; rintro e W2 ⟨rfl, hW2⟩; replace B0 := B0.below hW2 B0.lt; replace hb := (hb).trans (hW2.mono (hb).size); try rw [ho]) | (refine wpList_load_any_g rfl 23 (.tmp 3) rfl _ rfl 64 23 _ (B0) _ Try.underlying23 rfl Try.size23 ?_) | (go_at_call 123; refine (isMonicUpTo_any 4 f hf _ (by decide) (by decide)).mono ?_; rintro e W3 ⟨rfl, hW3⟩; replace B0 := B0.below hW3 B0.lt; replace hb := (hb).trans (hW3.mono (hb).size); try rw [hm]))
      go_ret
      exact ⟨by rw [HV.out]; rfl, hb⟩
    | true =>
      have HV := Lib.hid (flV_3 ho hm)
      have HI := Lib.hid (fun W => isIrreducible_any n f W hpr lf)
      rw [irV_up hm] at HI
      go_wp2_with (first | (refine wpList_load_any rfl 23 (.tmp 3) rfl _ rfl 64 23 _ (B0) _ Try.underlying23 rfl Try.size23 ?_) | (go_at_call 150; refine (IsPoly_any _ f hf _).mono ?_; rintro e W2 ⟨rfl, hW2⟩; replace B0 := B0.below hW2 B0.lt; replace hb := (hb).trans (hW2.mono (hb).size); try rw [ho]) | (refine wpList_load_any_g rfl 23 (.tmp 3) rfl _ rfl 64 23 _ (B0) _ Try.underlying23 rfl Try.size23 ?_) | (go_at_call 123; refine (isMonicUpTo_any 4 f hf _ (by decide) (by decide)).mono ?_; rintro e W3 ⟨rfl, hW3⟩; replace B0 := B0.below hW3 B0.lt; replace hb := (hb).trans (hW3.mono (hb).size); try rw [hm]) | (refine wpList_load_any_g rfl 23 (.tmp 3) rfl _ rfl 64 23 _ (B0) _ Try.underlying23 rfl Try.size23 ?_) | (go_at_call 88; refine (HI.out _).mono ?_; rintro e W4 ⟨rfl, hW4⟩; replace B0 := B0.below hW4 B0.lt; replace hb := (hb).trans (hW4.mono (hb).size)))
      go_ret
      exact ⟨by rw [HV.out]; rfl, hb⟩
set_option maxRecDepth 100000 in
set_option maxHeartbeats 800000 in
theorem l03Field_any (p : Int) (f : Nat → Nat) (hf : byte f) (w : World) :
    Calls Try.prog 92 #[.int .i64 p, .agg (bcells 64 f)] w fun e w' => e = .returned (.bool (flV p f)) ∧ Below w.heap.size w w' := by
  go_enter Try.func92, Try.ntmps92
  go_upto_region 1 with (fail)
  obtain ⟨W1, hwo⟩ : ∃ v : World, v = (w.alloc (.cells (bcells 64 (f)) 23)) := ⟨_, rfl⟩
  have B0 : Blk W1 (w.heap.size) 64 23 (f) := by subst hwo; have := (Blk.new w 64 23 (f)); simpa using this
  have hb : Below w.heap.size w W1 := by subst hwo; exact ((Below.refl _ _).alloc (Nat.le_refl _) _)
  rw [← hwo]
  clear hwo
  cases ho : okA p f with
  | false =>
    have HV := Lib.hid (flV_1 ho)
    go_wp2_with (first | (refine wpList_load_any rfl 23 (.tmp 3) rfl _ rfl 64 23 _ (B0) _ Try.underlying23 rfl Try.size23 ?_) | (go_at_call 148; refine (l01Is_any _ f hf _).mono ?_; rintro e W2 ⟨rfl, hW2⟩; replace B0 := B0.below hW2 B0.lt; replace hb := (hb).trans (hW2.mono (hb).size); try rw [ho]))
    go_ret
    exact ⟨by rw [HV.out]; rfl, hb⟩
  | true =>
    obtain ⟨n, rfl, hpr, lf⟩ := okA_nat ho
    have hmB := monUp_B (c := 4) (f := f)
    cases hm : monB f with
    | false =>
      have HV := Lib.hid (flV_2 (p := (n : Int)) (by rw [hmB, hm]; rfl))
      clear hmB
      go_wp2_with (first | (refine wpList_load_any rfl 23 (.tmp 3) rfl _ rfl 64 23 _ (B0) _ Try.underlying23 rfl Try.size23 ?_) | (go_at_call 148; refine (l01Is_any _ f hf _).mono ?_; rintro e W2 ⟨rfl, hW2⟩; replace B0 := B0.below hW2 B0.lt; replace hb := (hb).trans (hW2.mono (hb).size); try rw [ho]) | (refine wpList_load_any_g rfl 23 (.tmp 3) rfl _ rfl 64 23 _ (B0) _ Try.underlying23 rfl Try.size23 ?_) | (go_at_call 121; refine (l01Monic_any f hf _).mono ?_; rintro e W3 ⟨rfl, hW3⟩; replace B0 := B0.below hW3 B0.lt; replace hb := (hb).trans (hW3.mono (hb).size); try rw [hm]))
      go_ret
      exact ⟨by rw [HV.out]; rfl, hb⟩
    | true =>
      by_cases hr : 1 ≤ deg f ∧ deg f ≤ 4
      · have HV := Lib.hid (flV_3 ho (by rw [hmB, hm]; simp; omega))
        have hmm := hm
        unfold monB at hmm
        simp only [decide_eq_true_eq] at hmm
        obtain ⟨d, hd⟩ : ∃ d : Nat, deg f = (d : Int) := ⟨(deg f).toNat, by omega⟩
        have hmon : mon f d := ⟨hd, by have := hmm.2; rwa [hd, Int.toNat_natCast] at this⟩
        have HI := Lib.hid (fun W => l01Irreducible_any n f d W hpr lf hmon (by omega))
        clear hmm hmon hmB hd
        go_wp2_with (first | (refine wpList_load_any rfl 23 (.tmp 3) rfl _ rfl 64 23 _ (B0) _ Try.underlying23 rfl Try.size23 ?_) | (go_at_call 148; refine (l01Is_any _ f hf _).mono ?_; rintro e W2 ⟨rfl, hW2⟩; replace B0 := B0.below hW2 B0.lt; replace hb := (hb).trans (hW2.mono (hb).size); try rw [ho]) | (refine wpList_load_any_g rfl 23 (.tmp 3) rfl _ rfl 64 23 _ (B0) _ Try.underlying23 rfl Try.size23 ?_) | (go_at_call 121; refine (l01Monic_any f hf _).mono ?_; rintro e W3 ⟨rfl, hW3⟩; replace B0 := B0.below hW3 B0.lt; replace hb := (hb).trans (hW3.mono (hb).size); try rw [hm]) | (refine wpList_load_any_g rfl 23 (.tmp 3) rfl _ rfl 64 23 _ (B0) _ Try.underlying23 rfl Try.size23 ?_) | (go_at_call 73; refine (l01Deg_any f _).mono ?_; rintro e W4 ⟨rfl, hW4⟩; replace B0 := B0.below hW4 B0.lt; replace hb := (hb).trans (hW4.mono (hb).size)) | (go_at_call 74; refine (l01In_any _ _ _ _).mono ?_; rintro e wS ⟨rfl, rfl⟩; rw [show decide ((1 : Int) ≤ deg f ∧ deg f ≤ 4) = true by simp; omega]) | (refine wpList_load_any_g rfl 23 (.tmp 3) rfl _ rfl 64 23 _ (B0) _ Try.underlying23 rfl Try.size23 ?_) | (go_at_call 83; refine (HI.out _).mono ?_; rintro e W5 ⟨rfl, hW5⟩; replace B0 := B0.below hW5 B0.lt; replace hb := (hb).trans (hW5.mono (hb).size)))
        go_ret
        exact ⟨by rw [HV.out]; rfl, hb⟩
      · have HV := Lib.hid (flV_2 (p := (n : Int)) (by rw [hmB, hm]; simp; omega))
        clear hmB
        go_wp2_with (first | (refine wpList_load_any rfl 23 (.tmp 3) rfl _ rfl 64 23 _ (B0) _ Try.underlying23 rfl Try.size23 ?_) | (go_at_call 148; refine (l01Is_any _ f hf _).mono ?_; rintro e W2 ⟨rfl, hW2⟩; replace B0 := B0.below hW2 B0.lt; replace hb := (hb).trans (hW2.mono (hb).size); try rw [ho]) | (refine wpList_load_any_g rfl 23 (.tmp 3) rfl _ rfl 64 23 _ (B0) _ Try.underlying23 rfl Try.size23 ?_) | (go_at_call 121; refine (l01Monic_any f hf _).mono ?_; rintro e W3 ⟨rfl, hW3⟩; replace B0 := B0.below hW3 B0.lt; replace hb := (hb).trans (hW3.mono (hb).size); try rw [hm]) | (refine wpList_load_any_g rfl 23 (.tmp 3) rfl _ rfl 64 23 _ (B0) _ Try.underlying23 rfl Try.size23 ?_) | (go_at_call 73; refine (l01Deg_any f _).mono ?_; rintro e W4 ⟨rfl, hW4⟩; replace B0 := B0.below hW4 B0.lt; replace hb := (hb).trans (hW4.mono (hb).size)) | (go_at_call 74; refine (l01In_any _ _ _ _).mono ?_; rintro e wS ⟨rfl, rfl⟩; rw [show decide ((1 : Int) ≤ deg f ∧ deg f ≤ 4) = false by simp; omega]))
        go_ret
        exact ⟨by rw [HV.out]; rfl, hb⟩
end Go.Proofs.Ytbjpkmbhbpcbgaa
end
section
namespace Go.Proofs.Ytbjpkmbhbpcbgaa
open Go Go.RowKit
set_option linter.unusedVariables false
set_option linter.unusedSimpArgs false
attribute [local irreducible] deg addK okA flV
/-- a residue -/
noncomputable def rsB (p : Int) (m x : Nat → Nat) : Bool := okA p x && decide (deg x < deg m)
theorem rsB_1 {p : Int} {m x : Nat → Nat} (h : okA p x = false) : rsB p m x = false := by unfold rsB; rw [h]; rfl
theorem rsB_2 {p : Int} {m x : Nat → Nat} (h : okA p x = true) (h2 : deg x < deg m) : rsB p m x = true := by unfold rsB; rw [h]; simpa using h2
theorem rsB_3 {p : Int} {m x : Nat → Nat} (h : okA p x = true) (h2 : ¬ deg x < deg m) : rsB p m x = false := by unfold rsB; rw [h]; simpa using h2
/-- a skew polynomial -/
noncomputable def skB (p : Int) (m : Nat → Nat) (F : Nat → Nat → Nat) : Bool := (List.range 8).all fun i => rsB p m (F i)
theorem skB_yes {p : Int} {m : Nat → Nat} {F : Nat → Nat → Nat} (h : ∀ i, i < 8 → rsB p m (F i) = true) : skB p m F = true := by
  unfold skB; rw [List.all_eq_true]; intro i hi; exact h i (by simpa using hi)
theorem skB_no {p : Int} {m : Nat → Nat} {F : Nat → Nat → Nat} {i : Nat} (hi : i < 8) (h : rsB p m (F i) = false) : skB p m F = false := by
  cases h2 : skB p m F with
  | false => rfl
  | true =>
    unfold skB at h2; rw [List.all_eq_true] at h2
    have := h2 i (by simpa using hi)
    rw [h] at this; cases this
theorem skB_at {p : Int} {m : Nat → Nat} {F : Nat → Nat → Nat} (h : skB p m F = true) {i : Nat} (hi : i < 8) : rsB p m (F i) = true := by
  unfold skB at h; rw [List.all_eq_true] at h; exact h i (by simpa using hi)
/-- the code of a field and skew polynomials -/
noncomputable def ckS (p : Int) (m : Nat → Nat) (Fs : List (Nat → Nat → Nat)) : Int := if flV p m = true ∧ (∀ F, F ∈ Fs → skB p m F = true) then 0 else 1
theorem ckS_f {p : Int} {m : Nat → Nat} {Fs : List (Nat → Nat → Nat)} (h : flV p m = false) : ckS p m Fs = 1 := if_neg (fun a => by rw [h] at a; exact absurd a.1 (by simp))
theorem ckS_no {p : Int} {m : Nat → Nat} {Fs : List (Nat → Nat → Nat)} {F : Nat → Nat → Nat} {j : Nat} (hj : Fs[j]? = some F) (h : skB p m F = false) : ckS p m Fs = 1 := if_neg (fun a => by
  have := a.2 F (List.mem_of_getElem? hj); rw [h] at this; cases this)
theorem ckS_yes {p : Int} {m : Nat → Nat} {Fs : List (Nat → Nat → Nat)} (h : flV p m = true) (h2 : ∀ (i : Nat) (F : Nat → Nat → Nat), Fs[i]? = some F → skB p m F = true) : ckS p m Fs = 0 := if_pos ⟨h, fun F hF => by
  obtain ⟨i, hi, e⟩ := List.getElem_of_mem hF
  exact h2 i F (by rw [← e]; exact List.getElem?_eq_getElem hi)⟩
theorem ckS_two (p : Int) (m : Nat → Nat) (Fs : List (Nat → Nat → Nat)) : ckS p m Fs = 0 ∨ ckS p m Fs = 1 := by unfold ckS; split <;> simp
theorem ckS_zero {p : Int} {m : Nat → Nat} {Fs : List (Nat → Nat → Nat)} (h : ckS p m Fs = 0) : flV p m = true ∧ ∀ F, F ∈ Fs → skB p m F = true := by
  unfold ckS at h
  by_cases a : flV p m = true ∧ (∀ F, F ∈ Fs → skB p m F = true)
  · exact a
  · rw [if_neg a] at h; omega
attribute [irreducible] rsB skB ckS
set_option maxRecDepth 100000 in
set_option maxHeartbeats 1600000 in
theorem l03Residue_any (p : Int) (m x : Nat → Nat) (hm : byte m) (hx : byte x) (w : World) :
    Calls Try.prog 102 #[.int .i64 p, .agg (bcells 64 m), .agg (bcells 64 x)] w fun e w' => e = .returned (.bool (rsB p m x)) ∧ Below w.heap.size w w' := by
  go_enter Try.func102, Try.ntmps102
  go_upto_region 1 with (fail)
  obtain ⟨W1, hwo⟩ : ∃ v : World, v = ((w.alloc (.cells (bcells 64 (m)) 23)).alloc (.cells (bcells 64 (x)) 23)) := ⟨_, rfl⟩
  have B0 : Blk W1 (w.heap.size) 64 23 (m) := by subst hwo; have := ((Blk.new w 64 23 (m)).alloc (.cells (bcells 64 (x)) 23)); simpa using this
  have B1 : Blk W1 (w.heap.size + 1) 64 23 (x) := by subst hwo; have := (Blk.new (w.alloc (.cells (bcells 64 (m)) 23)) 64 23 (x)); simpa using this
  have hb : Below w.heap.size w W1 := by subst hwo; exact (((Below.refl _ _).alloc (Nat.le_refl _) _).alloc (by simp) _)
  rw [← hwo]
  clear hwo
  cases ho : okA p x with
  | false =>
    have HV := Lib.hid (rsB_1 (m := m) ho)
    have HOK := Lib.hid (fun W => l01Is_any p x hx W)
    rw [ho] at HOK
    have HDG := Lib.hid (fun f W => l01Deg_any f W)
    clear ho
    have lt_B0 : (w.heap.size) < W1.heap.size := B0.lt
    have lt_B1 : (w.heap.size + 1) < W1.heap.size := B1.lt
    have hbase : w.heap.size ≤ W1.heap.size := hb.size
    refine wp_region_stepsG Try.mixed (by kernel_rfl) (by kernel_rfl) (fun v => by (simp only [frL, Act.put, List.setIfInBounds_toArray, List.set_cons_zero, List.set_cons_succ, Nat.reduceAdd, Nat.zero_add]; exact rfl))
      (fun L v W2 => Below w.heap.size w W2 ∧ W1.heap.size ≤ W2.heap.size ∧ Blk W2 (w.heap.size) 64 23 (m) ∧ Blk W2 (w.heap.size + 1) 64 23 (x) ∧ (L 0 = true → v 0 = (.int .i64 p)) ∧ (L 1 = true → v 1 = (.agg (bcells 64 (x)))) ∧ (L 2 = true → v 2 = (.bool false)) ∧ (L 3 = true → v 3 = (.bool false)) ∧ (L 4 = true → v 4 = undef) ∧ (L 5 = true → v 5 = undef) ∧ (L 6 = true → v 6 = undef) ∧ (L 7 = true → v 7 = undef) ∧ (L 8 = true → v 8 = undef) ∧ (L 9 = true → v 9 = (.bool false)) ∧ (L 10 = true → v 10 = (.bool false))) ?_ ?_ ?_
    · intro v hv0
      exact ⟨hb.drew, Nat.le_refl _, B0.drew, B1.drew, (fun h => by cases h), (fun h => by cases h), (fun h => by cases h), (fun h => by cases h), (fun h => by cases h), (fun h => by cases h), (fun h => by cases h), (fun h => by cases h), (fun h => by cases h), (fun h => by cases h), (fun h => by cases h)⟩
    · refine (.cons ?_ (.cons ?_ (.cons ?_ (.cons ?_ (.cons ?_ (.cons ?_ (.cons ?_ (.cons ?_ (.cons ?_ (.cons ?_ (.cons ?_ (.nil _))))))))))))
      · intro L v W2 hd hn ⟨hB, hz, s0, s1, h0, h1, h2, h3, h4, h5, h6, h7, h8, h9, h10⟩ K hK
        rw [if_pos (by simp [Region.wanted])]
        go_wp2_with fail
        exact hK _ (.int .i64 p) _ (by simp only [Act.put, List.setIfInBounds_toArray, List.set_cons_zero, List.set_cons_succ ]) ⟨hB, hz, s0, s1, (fun _ => rfl), h1, h2, h3, h4, h5, h6, h7, h8, h9, h10⟩
      · intro L v W2 hd hn ⟨hB, hz, s0, s1, h0, h1, h2, h3, h4, h5, h6, h7, h8, h9, h10⟩ K hK
        rw [if_pos (by simp [Region.wanted])]
        refine wp_load_any 23 _ rfl _ rfl 64 23 _ s1 _ Try.underlying23 rfl Try.size23 ?_
        exact hK _ _ _ rfl ⟨hB, hz, s0, s1, h0, (fun _ => rfl), h2, h3, h4, h5, h6, h7, h8, h9, h10⟩
      · intro L v W2 hd hn ⟨hB, hz, s0, s1, h0, h1, h2, h3, h4, h5, h6, h7, h8, h9, h10⟩ K hK
        have e0 := h0 (hd ⟨0, .data⟩ (by simp) rfl)
        have e1 := h1 (hd ⟨1, .data⟩ (by simp) rfl)
        rw [if_pos (by simp [Region.wanted])]
        go_wp2_with (go_at_call 148; refine (HOK.out _).mono ?_; rintro e wy ⟨rfl, hy⟩)
        exact hK _ (.bool false) _ (by simp only [Act.put, List.setIfInBounds_toArray, List.set_cons_zero, List.set_cons_succ, e0, e1]) ⟨hB.trans (hy.mono hB.size), (Nat.le_trans hz hy.size), (s0).below hy (s0).lt, (s1).below hy (s1).lt, h0, h1, (fun _ => rfl), h3, h4, h5, h6, h7, h8, h9, h10⟩
      · intro L v W2 hd hn ⟨hB, hz, s0, s1, h0, h1, h2, h3, h4, h5, h6, h7, h8, h9, h10⟩ K hK
        have e2 := h2 (hd ⟨2, .data⟩ (by simp) rfl)
        rw [if_pos (by simp [Region.wanted])]
        go_wp2_with fail
        exact hK _ (.bool false) _ (by simp only [Act.put, List.setIfInBounds_toArray, List.set_cons_zero, List.set_cons_succ, e2]) ⟨hB, hz, s0, s1, h0, h1, h2, (fun _ => rfl), h4, h5, h6, h7, h8, h9, h10⟩
      · intro L v W2 hd hn ⟨hB, hz, s0, s1, h0, h1, h2, h3, h4, h5, h6, h7, h8, h9, h10⟩ K hK
        have e3 := h3 (hd ⟨3, .guard⟩ (by simp) rfl)
        rw [if_neg (by simp [Region.wanted, yielded, e3])]
        exact hK _ undef _ rfl ⟨hB, hz, s0, s1, h0, h1, h2, h3, (fun _ => rfl), h5, h6, h7, h8, h9, h10⟩
      · intro L v W2 hd hn ⟨hB, hz, s0, s1, h0, h1, h2, h3, h4, h5, h6, h7, h8, h9, h10⟩ K hK
        have e4 := h4 (hd ⟨4, .data⟩ (by simp) rfl)
        have e3 := h3 (hd ⟨3, .chain⟩ (by simp) rfl)
        rw [if_neg (by simp [Region.wanted, yielded, e3])]
        exact hK _ undef _ rfl ⟨hB, hz, s0, s1, h0, h1, h2, h3, h4, (fun _ => rfl), h6, h7, h8, h9, h10⟩
      · intro L v W2 hd hn ⟨hB, hz, s0, s1, h0, h1, h2, h3, h4, h5, h6, h7, h8, h9, h10⟩ K hK
        have e3 := h3 (hd ⟨3, .guard⟩ (by simp) rfl)
        rw [if_neg (by simp [Region.wanted, yielded, e3])]
        exact hK _ undef _ rfl ⟨hB, hz, s0, s1, h0, h1, h2, h3, h4, h5, (fun _ => rfl), h7, h8, h9, h10⟩
      · intro L v W2 hd hn ⟨hB, hz, s0, s1, h0, h1, h2, h3, h4, h5, h6, h7, h8, h9, h10⟩ K hK
        have e6 := h6 (hd ⟨6, .data⟩ (by simp) rfl)
        have e3 := h3 (hd ⟨3, .guard⟩ (by simp) rfl)
        rw [if_neg (by simp [Region.wanted, yielded, e3])]
        exact hK _ undef _ rfl ⟨hB, hz, s0, s1, h0, h1, h2, h3, h4, h5, h6, (fun _ => rfl), h8, h9, h10⟩
      · intro L v W2 hd hn ⟨hB, hz, s0, s1, h0, h1, h2, h3, h4, h5, h6, h7, h8, h9, h10⟩ K hK
        have e5 := h5 (hd ⟨5, .data⟩ (by simp) rfl)
        have e7 := h7 (hd ⟨7, .data⟩ (by simp) rfl)
        have e3 := h3 (hd ⟨3, .guard⟩ (by simp) rfl)
        rw [if_neg (by simp [Region.wanted, yielded, e3])]
        exact hK _ undef _ rfl ⟨hB, hz, s0, s1, h0, h1, h2, h3, h4, h5, h6, h7, (fun _ => rfl), h9, h10⟩
      · intro L v W2 hd hn ⟨hB, hz, s0, s1, h0, h1, h2, h3, h4, h5, h6, h7, h8, h9, h10⟩ K hK
        have e3 := h3 (hd ⟨3, .data⟩ (by simp) rfl)
        have e8 := h8 (hd ⟨8, .data⟩ (by simp) rfl)
        rw [if_pos (by simp [Region.wanted])]
        go_wp2_with fail
        exact hK _ (.bool false) _ (by simp only [Act.put, List.setIfInBounds_toArray, List.set_cons_zero, List.set_cons_succ, e3, e8]) ⟨hB, hz, s0, s1, h0, h1, h2, h3, h4, h5, h6, h7, h8, (fun _ => rfl), h10⟩
      · intro L v W2 hd hn ⟨hB, hz, s0, s1, h0, h1, h2, h3, h4, h5, h6, h7, h8, h9, h10⟩ K hK
        have e9 := h9 (hd ⟨9, .data⟩ (by simp) rfl)
        rw [if_pos (by simp [Region.wanted])]
        go_wp2_with fail
        exact hK _ (.bool false) _ (by simp only [Act.put, List.setIfInBounds_toArray, List.set_cons_zero, List.set_cons_succ, e9]) ⟨hB, hz, s0, s1, h0, h1, h2, h3, h4, h5, h6, h7, h8, h9, (fun _ => rfl)⟩
    · intro L v W2 hL ⟨hB, hz, s0, s1, h0, h1, h2, h3, h4, h5, h6, h7, h8, h9, h10⟩
      have e0 := h0 (hL 0 (by decide))
      have e1 := h1 (hL 1 (by decide))
      have e2 := h2 (hL 2 (by decide))
      have e3 := h3 (hL 3 (by decide))
      have e4 := h4 (hL 4 (by decide))
      have e5 := h5 (hL 5 (by decide))
      have e6 := h6 (hL 6 (by decide))
      have e7 := h7 (hL 7 (by decide))
      have e8 := h8 (hL 8 (by decide))
      have e9 := h9 (hL 9 (by decide))
      have e10 := h10 (hL 10 (by decide))
      clear hL h0 h1 h2 h3 h4 h5 h6 h7 h8 h9 h10
      simp only [Exit.then, e0, e1, e2, e3, e4, e5, e6, e7, e8, e9, e10]
      clear e0 e1 e2 e3 e4 e5 e6 e7 e8 e9 e10
      clear B0
      have B0 := s0
      clear s0
      clear B1
      have B1 := s1
      clear s1
      clear hb
      have hb := hB
      clear hB
      clear hbase hz lt_B0 lt_B1
      go_wp2_with fail
      go_ret
      exact ⟨by rw [HV.out]; rfl, hb⟩
  | true =>
    by_cases hlt : deg x < deg m
    · skip
      have HV := Lib.hid (rsB_2 ho hlt)
      have HOK := Lib.hid (fun W => l01Is_any p x hx W)
      rw [ho] at HOK
      have HDG := Lib.hid (fun f W => l01Deg_any f W)
      clear ho
      have lt_B0 : (w.heap.size) < W1.heap.size := B0.lt
      have lt_B1 : (w.heap.size + 1) < W1.heap.size := B1.lt
      have hbase : w.heap.size ≤ W1.heap.size := hb.size
      refine wp_region_stepsG Try.mixed (by kernel_rfl) (by kernel_rfl) (fun v => by (simp only [frL, Act.put, List.setIfInBounds_toArray, List.set_cons_zero, List.set_cons_succ, Nat.reduceAdd, Nat.zero_add]; exact rfl))
        (fun L v W2 => Below w.heap.size w W2 ∧ W1.heap.size ≤ W2.heap.size ∧ Blk W2 (w.heap.size) 64 23 (m) ∧ Blk W2 (w.heap.size + 1) 64 23 (x) ∧ (L 0 = true → v 0 = (.int .i64 p)) ∧ (L 1 = true → v 1 = (.agg (bcells 64 (x)))) ∧ (L 2 = true → v 2 = (.bool true)) ∧ (L 3 = true → v 3 = (.bool true)) ∧ (L 4 = true → v 4 = (.agg (bcells 64 (x)))) ∧ (L 5 = true → v 5 = (.int .i64 (deg x))) ∧ (L 6 = true → v 6 = (.agg (bcells 64 (m)))) ∧ (L 7 = true → v 7 = (.int .i64 (deg m))) ∧ (L 8 = true → v 8 = (.bool true)) ∧ (L 9 = true → v 9 = (.bool true)) ∧ (L 10 = true → v 10 = (.bool true))) ?_ ?_ ?_
      · intro v hv0
        exact ⟨hb.drew, Nat.le_refl _, B0.drew, B1.drew, (fun h => by cases h), (fun h => by cases h), (fun h => by cases h), (fun h => by cases h), (fun h => by cases h), (fun h => by cases h), (fun h => by cases h), (fun h => by cases h), (fun h => by cases h), (fun h => by cases h), (fun h => by cases h)⟩
      · refine (.cons ?_ (.cons ?_ (.cons ?_ (.cons ?_ (.cons ?_ (.cons ?_ (.cons ?_ (.cons ?_ (.cons ?_ (.cons ?_ (.cons ?_ (.nil _))))))))))))
        · intro L v W2 hd hn ⟨hB, hz, s0, s1, h0, h1, h2, h3, h4, h5, h6, h7, h8, h9, h10⟩ K hK
          rw [if_pos (by simp [Region.wanted])]
          go_wp2_with fail
          exact hK _ (.int .i64 p) _ (by simp only [Act.put, List.setIfInBounds_toArray, List.set_cons_zero, List.set_cons_succ ]) ⟨hB, hz, s0, s1, (fun _ => rfl), h1, h2, h3, h4, h5, h6, h7, h8, h9, h10⟩
        · intro L v W2 hd hn ⟨hB, hz, s0, s1, h0, h1, h2, h3, h4, h5, h6, h7, h8, h9, h10⟩ K hK
          rw [if_pos (by simp [Region.wanted])]
          refine wp_load_any 23 _ rfl _ rfl 64 23 _ s1 _ Try.underlying23 rfl Try.size23 ?_
          exact hK _ _ _ rfl ⟨hB, hz, s0, s1, h0, (fun _ => rfl), h2, h3, h4, h5, h6, h7, h8, h9, h10⟩
        · intro L v W2 hd hn ⟨hB, hz, s0, s1, h0, h1, h2, h3, h4, h5, h6, h7, h8, h9, h10⟩ K hK
          have e0 := h0 (hd ⟨0, .data⟩ (by simp) rfl)
          have e1 := h1 (hd ⟨1, .data⟩ (by simp) rfl)
          rw [if_pos (by simp [Region.wanted])]
          go_wp2_with (go_at_call 148; refine (HOK.out _).mono ?_; rintro e wy ⟨rfl, hy⟩)
          exact hK _ (.bool true) _ (by simp only [Act.put, List.setIfInBounds_toArray, List.set_cons_zero, List.set_cons_succ, e0, e1]) ⟨hB.trans (hy.mono hB.size), (Nat.le_trans hz hy.size), (s0).below hy (s0).lt, (s1).below hy (s1).lt, h0, h1, (fun _ => rfl), h3, h4, h5, h6, h7, h8, h9, h10⟩
        · intro L v W2 hd hn ⟨hB, hz, s0, s1, h0, h1, h2, h3, h4, h5, h6, h7, h8, h9, h10⟩ K hK
          have e2 := h2 (hd ⟨2, .data⟩ (by simp) rfl)
          rw [if_pos (by simp [Region.wanted])]
          go_wp2_with fail
          exact hK _ (.bool true) _ (by simp only [Act.put, List.setIfInBounds_toArray, List.set_cons_zero, List.set_cons_succ, e2]) ⟨hB, hz, s0, s1, h0, h1, h2, (fun _ => rfl), h4, h5, h6, h7, h8, h9, h10⟩
        · intro L v W2 hd hn ⟨hB, hz, s0, s1, h0, h1, h2, h3, h4, h5, h6, h7, h8, h9, h10⟩ K hK
          have e3 := h3 (hd ⟨3, .guard⟩ (by simp) rfl)
          rw [if_pos (by simp [Region.wanted, yielded, e3])]
          refine wp_load_any 23 _ rfl _ rfl 64 23 _ s1 _ Try.underlying23 rfl Try.size23 ?_
          exact hK _ _ _ rfl ⟨hB, hz, s0, s1, h0, h1, h2, h3, (fun _ => rfl), h5, h6, h7, h8, h9, h10⟩
        · intro L v W2 hd hn ⟨hB, hz, s0, s1, h0, h1, h2, h3, h4, h5, h6, h7, h8, h9, h10⟩ K hK
          have e4 := h4 (hd ⟨4, .data⟩ (by simp) rfl)
          have e3 := h3 (hd ⟨3, .chain⟩ (by simp) rfl)
          rw [if_pos (by simp [Region.wanted, yielded, e3])]
          go_wp2_with (go_at_call 73; refine (HDG.out _ _).mono ?_; rintro e wy ⟨rfl, hy⟩)
          exact hK _ (.int .i64 (deg x)) _ (by simp only [Act.put, List.setIfInBounds_toArray, List.set_cons_zero, List.set_cons_succ, e4, e3]) ⟨hB.trans (hy.mono hB.size), (Nat.le_trans hz hy.size), (s0).below hy (s0).lt, (s1).below hy (s1).lt, h0, h1, h2, h3, h4, (fun _ => rfl), h6, h7, h8, h9, h10⟩
        · intro L v W2 hd hn ⟨hB, hz, s0, s1, h0, h1, h2, h3, h4, h5, h6, h7, h8, h9, h10⟩ K hK
          have e3 := h3 (hd ⟨3, .guard⟩ (by simp) rfl)
          rw [if_pos (by simp [Region.wanted, yielded, e3])]
          refine wp_load_any 23 _ rfl _ rfl 64 23 _ s0 _ Try.underlying23 rfl Try.size23 ?_
          exact hK _ _ _ rfl ⟨hB, hz, s0, s1, h0, h1, h2, h3, h4, h5, (fun _ => rfl), h7, h8, h9, h10⟩
        · intro L v W2 hd hn ⟨hB, hz, s0, s1, h0, h1, h2, h3, h4, h5, h6, h7, h8, h9, h10⟩ K hK
          have e6 := h6 (hd ⟨6, .data⟩ (by simp) rfl)
          have e3 := h3 (hd ⟨3, .guard⟩ (by simp) rfl)
          rw [if_pos (by simp [Region.wanted, yielded, e3])]
          go_wp2_with (go_at_call 73; refine (HDG.out _ _).mono ?_; rintro e wy ⟨rfl, hy⟩)
          exact hK _ (.int .i64 (deg m)) _ (by simp only [Act.put, List.setIfInBounds_toArray, List.set_cons_zero, List.set_cons_succ, e6, e3]) ⟨hB.trans (hy.mono hB.size), (Nat.le_trans hz hy.size), (s0).below hy (s0).lt, (s1).below hy (s1).lt, h0, h1, h2, h3, h4, h5, h6, (fun _ => rfl), h8, h9, h10⟩
        · intro L v W2 hd hn ⟨hB, hz, s0, s1, h0, h1, h2, h3, h4, h5, h6, h7, h8, h9, h10⟩ K hK
          have e5 := h5 (hd ⟨5, .data⟩ (by simp) rfl)
          have e7 := h7 (hd ⟨7, .data⟩ (by simp) rfl)
          have e3 := h3 (hd ⟨3, .guard⟩ (by simp) rfl)
          rw [if_pos (by simp [Region.wanted, yielded, e3])]
          go_wp2_with fail
          exact hK _ (.bool true) _ (by simp only [Act.put, List.setIfInBounds_toArray, List.set_cons_zero, List.set_cons_succ, e5, e7, e3]) ⟨hB, hz, s0, s1, h0, h1, h2, h3, h4, h5, h6, h7, (fun _ => rfl), h9, h10⟩
        · intro L v W2 hd hn ⟨hB, hz, s0, s1, h0, h1, h2, h3, h4, h5, h6, h7, h8, h9, h10⟩ K hK
          have e3 := h3 (hd ⟨3, .data⟩ (by simp) rfl)
          have e8 := h8 (hd ⟨8, .data⟩ (by simp) rfl)
          rw [if_pos (by simp [Region.wanted])]
          go_wp2_with fail
          exact hK _ (.bool true) _ (by simp only [Act.put, List.setIfInBounds_toArray, List.set_cons_zero, List.set_cons_succ, e3, e8]) ⟨hB, hz, s0, s1, h0, h1, h2, h3, h4, h5, h6, h7, h8, (fun _ => rfl), h10⟩
        · intro L v W2 hd hn ⟨hB, hz, s0, s1, h0, h1, h2, h3, h4, h5, h6, h7, h8, h9, h10⟩ K hK
          have e9 := h9 (hd ⟨9, .data⟩ (by simp) rfl)
          rw [if_pos (by simp [Region.wanted])]
          go_wp2_with fail
          exact hK _ (.bool true) _ (by simp only [Act.put, List.setIfInBounds_toArray, List.set_cons_zero, List.set_cons_succ, e9]) ⟨hB, hz, s0, s1, h0, h1, h2, h3, h4, h5, h6, h7, h8, h9, (fun _ => rfl)⟩
      · intro L v W2 hL ⟨hB, hz, s0, s1, h0, h1, h2, h3, h4, h5, h6, h7, h8, h9, h10⟩
        have e0 := h0 (hL 0 (by decide))
        have e1 := h1 (hL 1 (by decide))
        have e2 := h2 (hL 2 (by decide))
        have e3 := h3 (hL 3 (by decide))
        have e4 := h4 (hL 4 (by decide))
        have e5 := h5 (hL 5 (by decide))
        have e6 := h6 (hL 6 (by decide))
        have e7 := h7 (hL 7 (by decide))
        have e8 := h8 (hL 8 (by decide))
        have e9 := h9 (hL 9 (by decide))
        have e10 := h10 (hL 10 (by decide))
        clear hL h0 h1 h2 h3 h4 h5 h6 h7 h8 h9 h10
        simp only [Exit.then, e0, e1, e2, e3, e4, e5, e6, e7, e8, e9, e10]
        clear e0 e1 e2 e3 e4 e5 e6 e7 e8 e9 e10
        clear B0
        have B0 := s0
        clear s0
        clear B1
        have B1 := s1
        clear s1
        clear hb
        have hb := hB
        clear hB
        clear hbase hz lt_B0 lt_B1
        go_wp2_with fail
        go_ret
        exact ⟨by rw [HV.out]; rfl, hb⟩
    · skip
      have HV := Lib.hid (rsB_3 ho hlt)
      have HOK := Lib.hid (fun W => l01Is_any p x hx W)
      rw [ho] at HOK
      have HDG := Lib.hid (fun f W => l01Deg_any f W)
      clear ho
      have lt_B0 : (w.heap.size) < W1.heap.size := B0.lt
      have lt_B1 : (w.heap.size + 1) < W1.heap.size := B1.lt
      have hbase : w.heap.size ≤ W1.heap.size := hb.size
      refine wp_region_stepsG Try.mixed (by kernel_rfl) (by kernel_rfl) (fun v => by (simp only [frL, Act.put, List.setIfInBounds_toArray, List.set_cons_zero, List.set_cons_succ, Nat.reduceAdd, Nat.zero_add]; exact rfl))
        (fun L v W2 => Below w.heap.size w W2 ∧ W1.heap.size ≤ W2.heap.size ∧ Blk W2 (w.heap.size) 64 23 (m) ∧ Blk W2 (w.heap.size + 1) 64 23 (x) ∧ (L 0 = true → v 0 = (.int .i64 p)) ∧ (L 1 = true → v 1 = (.agg (bcells 64 (x)))) ∧ (L 2 = true → v 2 = (.bool true)) ∧ (L 3 = true → v 3 = (.bool true)) ∧ (L 4 = true → v 4 = (.agg (bcells 64 (x)))) ∧ (L 5 = true → v 5 = (.int .i64 (deg x))) ∧ (L 6 = true → v 6 = (.agg (bcells 64 (m)))) ∧ (L 7 = true → v 7 = (.int .i64 (deg m))) ∧ (L 8 = true → v 8 = (.bool false)) ∧ (L 9 = true → v 9 = (.bool false)) ∧ (L 10 = true → v 10 = (.bool false))) ?_ ?_ ?_
      · intro v hv0
        exact ⟨hb.drew, Nat.le_refl _, B0.drew, B1.drew, (fun h => by cases h), (fun h => by cases h), (fun h => by cases h), (fun h => by cases h), (fun h => by cases h), (fun h => by cases h), (fun h => by cases h), (fun h => by cases h), (fun h => by cases h), (fun h => by cases h), (fun h => by cases h)⟩
      · refine (.cons ?_ (.cons ?_ (.cons ?_ (.cons ?_ (.cons ?_ (.cons ?_ (.cons ?_ (.cons ?_ (.cons ?_ (.cons ?_ (.cons ?_ (.nil _))))))))))))
        · intro L v W2 hd hn ⟨hB, hz, s0, s1, h0, h1, h2, h3, h4, h5, h6, h7, h8, h9, h10⟩ K hK
          rw [if_pos (by simp [Region.wanted])]
          go_wp2_with fail
          exact hK _ (.int .i64 p) _ (by simp only [Act.put, List.setIfInBounds_toArray, List.set_cons_zero, List.set_cons_succ ]) ⟨hB, hz, s0, s1, (fun _ => rfl), h1, h2, h3, h4, h5, h6, h7, h8, h9, h10⟩
        · intro L v W2 hd hn ⟨hB, hz, s0, s1, h0, h1, h2, h3, h4, h5, h6, h7, h8, h9, h10⟩ K hK
          rw [if_pos (by simp [Region.wanted])]
          refine wp_load_any 23 _ rfl _ rfl 64 23 _ s1 _ Try.underlying23 rfl Try.size23 ?_
          exact hK _ _ _ rfl ⟨hB, hz, s0, s1, h0, (fun _ => rfl), h2, h3, h4, h5, h6, h7, h8, h9, h10⟩
        · intro L v W2 hd hn ⟨hB, hz, s0, s1, h0, h1, h2, h3, h4, h5, h6, h7, h8, h9, h10⟩ K hK
          have e0 := h0 (hd ⟨0, .data⟩ (by simp) rfl)
          have e1 := h1 (hd ⟨1, .data⟩ (by simp) rfl)
          rw [if_pos (by simp [Region.wanted])]
          go_wp2_with (go_at_call 148; refine (HOK.out _).mono ?_; rintro e wy ⟨rfl, hy⟩)
          exact hK _ (.bool true) _ (by simp only [Act.put, List.setIfInBounds_toArray, List.set_cons_zero, List.set_cons_succ, e0, e1]) ⟨hB.trans (hy.mono hB.size), (Nat.le_trans hz hy.size), (s0).below hy (s0).lt, (s1).below hy (s1).lt, h0, h1, (fun _ => rfl), h3, h4, h5, h6, h7, h8, h9, h10⟩
        · intro L v W2 hd hn ⟨hB, hz, s0, s1, h0, h1, h2, h3, h4, h5, h6, h7, h8, h9, h10⟩ K hK
          have e2 := h2 (hd ⟨2, .data⟩ (by simp) rfl)
          rw [if_pos (by simp [Region.wanted])]
          go_wp2_with fail
          exact hK _ (.bool true) _ (by simp only [Act.put, List.setIfInBounds_toArray, List.set_cons_zero, List.set_cons_succ, e2]) ⟨hB, hz, s0, s1, h0, h1, h2, (fun _ => rfl), h4, h5, h6, h7, h8, h9, h10⟩
        · intro L v W2 hd hn ⟨hB, hz, s0, s1, h0, h1, h2, h3, h4, h5, h6, h7, h8, h9, h10⟩ K hK
          have e3 := h3 (hd ⟨3, .guard⟩ (by simp) rfl)
          rw [if_pos (by simp [Region.wanted, yielded, e3])]
          refine wp_load_any 23 _ rfl _ rfl 64 23 _ s1 _ Try.underlying23 rfl Try.size23 ?_
          exact hK _ _ _ rfl ⟨hB, hz, s0, s1, h0, h1, h2, h3, (fun _ => rfl), h5, h6, h7, h8, h9, h10⟩
        · intro L v W2 hd hn ⟨hB, hz, s0, s1, h0, h1, h2, h3, h4, h5, h6, h7, h8, h9, h10⟩ K hK
          have e4 := h4 (hd ⟨4, .data⟩ (by simp) rfl)
          have e3 := h3 (hd ⟨3, .chain⟩ (by simp) rfl)
          rw [if_pos (by simp [Region.wanted, yielded, e3])]
          go_wp2_with (go_at_call 73; refine (HDG.out _ _).mono ?_; rintro e wy ⟨rfl, hy⟩)
          exact hK _ (.int .i64 (deg x)) _ (by simp only [Act.put, List.setIfInBounds_toArray, List.set_cons_zero, List.set_cons_succ, e4, e3]) ⟨hB.trans (hy.mono hB.size), (Nat.le_trans hz hy.size), (s0).below hy (s0).lt, (s1).below hy (s1).lt, h0, h1, h2, h3, h4, (fun _ => rfl), h6, h7, h8, h9, h10⟩
        · intro L v W2 hd hn ⟨hB, hz, s0, s1, h0, h1, h2, h3, h4, h5, h6, h7, h8, h9, h10⟩ K hK
          have e3 := h3 (hd ⟨3, .guard⟩ (by simp) rfl)
          rw [if_pos (by simp [Region.wanted, yielded, e3])]
          refine wp_load_any 23 _ rfl _ rfl 64 23 _ s0 _ Try.underlying23 rfl Try.size23 ?_
          exact hK _ _ _ rfl ⟨hB, hz, s0, s1, h0, h1, h2, h3, h4, h5, (fun _ => rfl), h7, h8, h9, h10⟩
        · intro L v W2 hd hn ⟨hB, hz, s0, s1, h0, h1, h2, h3, h4, h5, h6, h7, h8, h9, h10⟩ K hK
          have e6 := h6 (hd ⟨6, .data⟩ (by simp) rfl)
          have e3 := h3 (hd ⟨3, .guard⟩ (by simp) rfl)
          rw [if_pos (by simp [Region.wanted, yielded, e3])]
          go_wp2_with (go_at_call 73; refine (HDG.out _ _).mono ?_; rintro e wy ⟨rfl, hy⟩)
          exact hK _ (.int .i64 (deg m)) _ (by simp only [Act.put, List.setIfInBounds_toArray, List.set_cons_zero, List.set_cons_succ, e6, e3]) ⟨hB.trans (hy.mono hB.size), (Nat.le_trans hz hy.size), (s0).below hy (s0).lt, (s1).below hy (s1).lt, h0, h1, h2, h3, h4, h5, h6, (fun _ => rfl), h8, h9, h10⟩
        · intro L v W2 hd hn ⟨hB, hz, s0, s1, h0, h1, h2, h3, h4, h5, h6, h7, h8, h9, h10⟩ K hK
          have e5 := h5 (hd ⟨5, .data⟩ (by simp) rfl)
          have e7 := h7 (hd ⟨7, .data⟩ (by simp) rfl)
          have e3 := h3 (hd ⟨3, .guard⟩ (by simp) rfl)
          rw [if_pos (by simp [Region.wanted, yielded, e3])]
          go_wp2_with fail
          exact hK _ (.bool false) _ (by simp only [Act.put, List.setIfInBounds_toArray, List.set_cons_zero, List.set_cons_succ, e5, e7, e3]) ⟨hB, hz, s0, s1, h0, h1, h2, h3, h4, h5, h6, h7, (fun _ => rfl), h9, h10⟩
        · intro L v W2 hd hn ⟨hB, hz, s0, s1, h0, h1, h2, h3, h4, h5, h6, h7, h8, h9, h10⟩ K hK
          have e3 := h3 (hd ⟨3, .data⟩ (by simp) rfl)
          have e8 := h8 (hd ⟨8, .data⟩ (by simp) rfl)
          rw [if_pos (by simp [Region.wanted])]
          go_wp2_with fail
          exact hK _ (.bool false) _ (by simp only [Act.put, List.setIfInBounds_toArray, List.set_cons_zero, List.set_cons_succ, e3, e8]) ⟨hB, hz, s0, s1, h0, h1, h2, h3, h4, h5, h6, h7, h8, (fun _ => rfl), h10⟩
        · intro L v W2 hd hn ⟨hB, hz, s0, s1, h0, h1, h2, h3, h4, h5, h6, h7, h8, h9, h10⟩ K hK
          have e9 := h9 (hd ⟨9, .data⟩ (by simp) rfl)
          rw [if_pos (by simp [Region.wanted])]
          go_wp2_with fail
          exact hK _ (.bool false) _ (by simp only [Act.put, List.setIfInBounds_toArray, List.set_cons_zero, List.set_cons_succ, e9]) ⟨hB, hz, s0, s1, h0, h1, h2, h3, h4, h5, h6, h7, h8, h9, (fun _ => rfl)⟩
      · intro L v W2 hL ⟨hB, hz, s0, s1, h0, h1, h2, h3, h4, h5, h6, h7, h8, h9, h10⟩
        have e0 := h0 (hL 0 (by decide))
        have e1 := h1 (hL 1 (by decide))
        have e2 := h2 (hL 2 (by decide))
        have e3 := h3 (hL 3 (by decide))
        have e4 := h4 (hL 4 (by decide))
        have e5 := h5 (hL 5 (by decide))
        have e6 := h6 (hL 6 (by decide))
        have e7 := h7 (hL 7 (by decide))
        have e8 := h8 (hL 8 (by decide))
        have e9 := h9 (hL 9 (by decide))
        have e10 := h10 (hL 10 (by decide))
        clear hL h0 h1 h2 h3 h4 h5 h6 h7 h8 h9 h10
        simp only [Exit.then, e0, e1, e2, e3, e4, e5, e6, e7, e8, e9, e10]
        clear e0 e1 e2 e3 e4 e5 e6 e7 e8 e9 e10
        clear B0
        have B0 := s0
        clear s0
        clear B1
        have B1 := s1
        clear s1
        clear hb
        have hb := hB
        clear hB
        clear hbase hz lt_B0 lt_B1
        go_wp2_with fail
        go_ret
        exact ⟨by rw [HV.out]; rfl, hb⟩
set_option maxRecDepth 100000 in
set_option maxHeartbeats 1600000 in
theorem isResidue_any (p : Int) (m x : Nat → Nat) (hm : byte m) (hx : byte x) (w : World) :
    Calls Try.prog 104 #[.agg (fdC p m).toArray, .agg (bcells 64 x)] w fun e w' => e = .returned (.bool (rsB p m x)) ∧ Below w.heap.size w w' := by
  go_enter Try.func104, Try.ntmps104
  go_upto_region 1 with (fail)
  obtain ⟨W1, hwo⟩ : ∃ v : World, v = ((w.alloc (.cells (fdC p m).toArray 83)).alloc (.cells (bcells 64 (x)) 23)) := ⟨_, rfl⟩
  have B0 : Row W1 (w.heap.size) 83 (fdC p m).toArray := by subst hwo; have := ((Row.new w 83 (fdC p m).toArray).alloc (.cells (bcells 64 (x)) 23)); simpa using this
  have B1 : Blk W1 (w.heap.size + 1) 64 23 (x) := by subst hwo; have := (Blk.new (w.alloc (.cells (fdC p m).toArray 83)) 64 23 (x)); simpa using this
  have hb : Below w.heap.size w W1 := by subst hwo; exact (((Below.refl _ _).alloc (Nat.le_refl _) _).alloc (by simp) _)
  rw [← hwo]
  clear hwo
  cases ho : okA p x with
  | false =>
    have HV := Lib.hid (rsB_1 (m := m) ho)
    have HOK := Lib.hid (fun W => IsPoly_any p x hx W)
    rw [ho] at HOK
    have HDG := Lib.hid (fun f W => degree_any f W)
    clear ho
    have lt_B0 : (w.heap.size) < W1.heap.size := B0.lt
    have lt_B1 : (w.heap.size + 1) < W1.heap.size := B1.lt
    have hbase : w.heap.size ≤ W1.heap.size := hb.size
    refine wp_region_stepsG Try.mixed (by kernel_rfl) (by kernel_rfl) (fun v => by (simp only [frL, Act.put, List.setIfInBounds_toArray, List.set_cons_zero, List.set_cons_succ, Nat.reduceAdd, Nat.zero_add]; exact rfl))
      (fun L v W2 => Below w.heap.size w W2 ∧ W1.heap.size ≤ W2.heap.size ∧ Row W2 (w.heap.size) 83 (fdC p m).toArray ∧ Blk W2 (w.heap.size + 1) 64 23 (x) ∧ (L 0 = true → v 0 = (.pointer (some ⟨w.heap.size, 0, none⟩))) ∧ (L 1 = true → v 1 = (.int .i64 p)) ∧ (L 2 = true → v 2 = (.agg (bcells 64 (x)))) ∧ (L 3 = true → v 3 = (.bool false)) ∧ (L 4 = true → v 4 = (.bool false)) ∧ (L 5 = true → v 5 = undef) ∧ (L 6 = true → v 6 = undef) ∧ (L 7 = true → v 7 = undef) ∧ (L 8 = true → v 8 = undef) ∧ (L 9 = true → v 9 = undef) ∧ (L 10 = true → v 10 = undef) ∧ (L 11 = true → v 11 = (.bool false)) ∧ (L 12 = true → v 12 = (.bool false))) ?_ ?_ ?_
    · intro v hv0
      exact ⟨hb.drew, Nat.le_refl _, B0.drew, B1.drew, (fun h => by cases h), (fun h => by cases h), (fun h => by cases h), (fun h => by cases h), (fun h => by cases h), (fun h => by cases h), (fun h => by cases h), (fun h => by cases h), (fun h => by cases h), (fun h => by cases h), (fun h => by cases h), (fun h => by cases h), (fun h => by cases h)⟩
    · refine (.cons ?_ (.cons ?_ (.cons ?_ (.cons ?_ (.cons ?_ (.cons ?_ (.cons ?_ (.cons ?_ (.cons ?_ (.cons ?_ (.cons ?_ (.cons ?_ (.cons ?_ (.nil _))))))))))))))
      · intro L v W2 hd hn ⟨hB, hz, s0, s1, h0, h1, h2, h3, h4, h5, h6, h7, h8, h9, h10, h11, h12⟩ K hK
        rw [if_pos (by simp [Region.wanted])]
        go_wp2_with fail
        exact hK _ (.pointer (some ⟨w.heap.size, 0, none⟩)) _ (by simp only [Act.put, List.setIfInBounds_toArray, List.set_cons_zero, List.set_cons_succ ]) ⟨hB, hz, s0, s1, (fun _ => rfl), h1, h2, h3, h4, h5, h6, h7, h8, h9, h10, h11, h12⟩
      · intro L v W2 hd hn ⟨hB, hz, s0, s1, h0, h1, h2, h3, h4, h5, h6, h7, h8, h9, h10, h11, h12⟩ K hK
        have e0 := h0 (hd ⟨0, .data⟩ (by simp) rfl)
        rw [if_pos (by simp [Region.wanted])]
        have cc := s0.cell (i := 0) (v := .int .i64 p) (fdC_at p m)
        go_wp2_with fail
        exact hK _ (.int .i64 p) _ (by simp only [Act.put, List.setIfInBounds_toArray, List.set_cons_zero, List.set_cons_succ, e0]) ⟨hB, hz, s0, s1, h0, (fun _ => rfl), h2, h3, h4, h5, h6, h7, h8, h9, h10, h11, h12⟩
      · intro L v W2 hd hn ⟨hB, hz, s0, s1, h0, h1, h2, h3, h4, h5, h6, h7, h8, h9, h10, h11, h12⟩ K hK
        rw [if_pos (by simp [Region.wanted])]
        refine wp_load_any 23 _ rfl _ rfl 64 23 _ s1 _ Try.underlying23 rfl Try.size23 ?_
        exact hK _ _ _ rfl ⟨hB, hz, s0, s1, h0, h1, (fun _ => rfl), h3, h4, h5, h6, h7, h8, h9, h10, h11, h12⟩
      · intro L v W2 hd hn ⟨hB, hz, s0, s1, h0, h1, h2, h3, h4, h5, h6, h7, h8, h9, h10, h11, h12⟩ K hK
        have e1 := h1 (hd ⟨1, .data⟩ (by simp) rfl)
        have e2 := h2 (hd ⟨2, .data⟩ (by simp) rfl)
        rw [if_pos (by simp [Region.wanted])]
        go_wp2_with (go_at_call 150; refine (HOK.out _).mono ?_; rintro e wy ⟨rfl, hy⟩)
        exact hK _ (.bool false) _ (by simp only [Act.put, List.setIfInBounds_toArray, List.set_cons_zero, List.set_cons_succ, e1, e2]) ⟨hB.trans (hy.mono hB.size), (Nat.le_trans hz hy.size), (s0).below hy (s0).lt, (s1).below hy (s1).lt, h0, h1, h2, (fun _ => rfl), h4, h5, h6, h7, h8, h9, h10, h11, h12⟩
      · intro L v W2 hd hn ⟨hB, hz, s0, s1, h0, h1, h2, h3, h4, h5, h6, h7, h8, h9, h10, h11, h12⟩ K hK
        have e3 := h3 (hd ⟨3, .data⟩ (by simp) rfl)
        rw [if_pos (by simp [Region.wanted])]
        go_wp2_with fail
        exact hK _ (.bool false) _ (by simp only [Act.put, List.setIfInBounds_toArray, List.set_cons_zero, List.set_cons_succ, e3]) ⟨hB, hz, s0, s1, h0, h1, h2, h3, (fun _ => rfl), h5, h6, h7, h8, h9, h10, h11, h12⟩
      · intro L v W2 hd hn ⟨hB, hz, s0, s1, h0, h1, h2, h3, h4, h5, h6, h7, h8, h9, h10, h11, h12⟩ K hK
        have e4 := h4 (hd ⟨4, .guard⟩ (by simp) rfl)
        rw [if_neg (by simp [Region.wanted, yielded, e4])]
        exact hK _ undef _ rfl ⟨hB, hz, s0, s1, h0, h1, h2, h3, h4, (fun _ => rfl), h6, h7, h8, h9, h10, h11, h12⟩
      · intro L v W2 hd hn ⟨hB, hz, s0, s1, h0, h1, h2, h3, h4, h5, h6, h7, h8, h9, h10, h11, h12⟩ K hK
        have e5 := h5 (hd ⟨5, .data⟩ (by simp) rfl)
        have e4 := h4 (hd ⟨4, .chain⟩ (by simp) rfl)
        rw [if_neg (by simp [Region.wanted, yielded, e4])]
        exact hK _ undef _ rfl ⟨hB, hz, s0, s1, h0, h1, h2, h3, h4, h5, (fun _ => rfl), h7, h8, h9, h10, h11, h12⟩
      · intro L v W2 hd hn ⟨hB, hz, s0, s1, h0, h1, h2, h3, h4, h5, h6, h7, h8, h9, h10, h11, h12⟩ K hK
        have e4 := h4 (hd ⟨4, .guard⟩ (by simp) rfl)
        rw [if_neg (by simp [Region.wanted, yielded, e4])]
        exact hK _ undef _ rfl ⟨hB, hz, s0, s1, h0, h1, h2, h3, h4, h5, h6, (fun _ => rfl), h8, h9, h10, h11, h12⟩
      · intro L v W2 hd hn ⟨hB, hz, s0, s1, h0, h1, h2, h3, h4, h5, h6, h7, h8, h9, h10, h11, h12⟩ K hK
        have e7 := h7 (hd ⟨7, .data⟩ (by simp) rfl)
        have e4 := h4 (hd ⟨4, .guard⟩ (by simp) rfl)
        rw [if_neg (by simp [Region.wanted, yielded, e4])]
        exact hK _ undef _ rfl ⟨hB, hz, s0, s1, h0, h1, h2, h3, h4, h5, h6, h7, (fun _ => rfl), h9, h10, h11, h12⟩
      · intro L v W2 hd hn ⟨hB, hz, s0, s1, h0, h1, h2, h3, h4, h5, h6, h7, h8, h9, h10, h11, h12⟩ K hK
        have e8 := h8 (hd ⟨8, .data⟩ (by simp) rfl)
        have e4 := h4 (hd ⟨4, .guard⟩ (by simp) rfl)
        rw [if_neg (by simp [Region.wanted, yielded, e4])]
        exact hK _ undef _ rfl ⟨hB, hz, s0, s1, h0, h1, h2, h3, h4, h5, h6, h7, h8, (fun _ => rfl), h10, h11, h12⟩
      · intro L v W2 hd hn ⟨hB, hz, s0, s1, h0, h1, h2, h3, h4, h5, h6, h7, h8, h9, h10, h11, h12⟩ K hK
        have e6 := h6 (hd ⟨6, .data⟩ (by simp) rfl)
        have e9 := h9 (hd ⟨9, .data⟩ (by simp) rfl)
        have e4 := h4 (hd ⟨4, .guard⟩ (by simp) rfl)
        rw [if_neg (by simp [Region.wanted, yielded, e4])]
        exact hK _ undef _ rfl ⟨hB, hz, s0, s1, h0, h1, h2, h3, h4, h5, h6, h7, h8, h9, (fun _ => rfl), h11, h12⟩
      · intro L v W2 hd hn ⟨hB, hz, s0, s1, h0, h1, h2, h3, h4, h5, h6, h7, h8, h9, h10, h11, h12⟩ K hK
        have e4 := h4 (hd ⟨4, .data⟩ (by simp) rfl)
        have e10 := h10 (hd ⟨10, .data⟩ (by simp) rfl)
        rw [if_pos (by simp [Region.wanted])]
        go_wp2_with fail
        exact hK _ (.bool false) _ (by simp only [Act.put, List.setIfInBounds_toArray, List.set_cons_zero, List.set_cons_succ, e4, e10]) ⟨hB, hz, s0, s1, h0, h1, h2, h3, h4, h5, h6, h7, h8, h9, h10, (fun _ => rfl), h12⟩
      · intro L v W2 hd hn ⟨hB, hz, s0, s1, h0, h1, h2, h3, h4, h5, h6, h7, h8, h9, h10, h11, h12⟩ K hK
        have e11 := h11 (hd ⟨11, .data⟩ (by simp) rfl)
        rw [if_pos (by simp [Region.wanted])]
        go_wp2_with fail
        exact hK _ (.bool false) _ (by simp only [Act.put, List.setIfInBounds_toArray, List.set_cons_zero, List.set_cons_succ, e11]) ⟨hB, hz, s0, s1, h0, h1, h2, h3, h4, h5, h6, h7, h8, h9, h10, h11, (fun _ => rfl)⟩
    · intro L v W2 hL ⟨hB, hz, s0, s1, h0, h1, h2, h3, h4, h5, h6, h7, h8, h9, h10, h11, h12⟩
      have e0 := h0 (hL 0 (by decide))
      have e1 := h1 (hL 1 (by decide))
      have e2 := h2 (hL 2 (by decide))
      have e3 := h3 (hL 3 (by decide))
      have e4 := h4 (hL 4 (by decide))
      have e5 := h5 (hL 5 (by decide))
      have e6 := h6 (hL 6 (by decide))
      have e7 := h7 (hL 7 (by decide))
      have e8 := h8 (hL 8 (by decide))
      have e9 := h9 (hL 9 (by decide))
      have e10 := h10 (hL 10 (by decide))
      have e11 := h11 (hL 11 (by decide))
      have e12 := h12 (hL 12 (by decide))
      clear hL h0 h1 h2 h3 h4 h5 h6 h7 h8 h9 h10 h11 h12
      simp only [Exit.then, e0, e1, e2, e3, e4, e5, e6, e7, e8, e9, e10, e11, e12]
      clear e0 e1 e2 e3 e4 e5 e6 e7 e8 e9 e10 e11 e12
      clear B0
      have B0 := s0
      clear s0
      clear B1
      have B1 := s1
      clear s1
      clear hb
      have hb := hB
      clear hB
      clear hbase hz lt_B0 lt_B1
      go_wp2_with fail
      go_ret
      exact ⟨by rw [HV.out]; rfl, hb⟩
  | true =>
    by_cases hlt : deg x < deg m
    · skip
      have HV := Lib.hid (rsB_2 ho hlt)
      have HOK := Lib.hid (fun W => IsPoly_any p x hx W)
      rw [ho] at HOK
      have HDG := Lib.hid (fun f W => degree_any f W)
      clear ho
      have lt_B0 : (w.heap.size) < W1.heap.size := B0.lt
      have lt_B1 : (w.heap.size + 1) < W1.heap.size := B1.lt
      have hbase : w.heap.size ≤ W1.heap.size := hb.size
      refine wp_region_stepsG Try.mixed (by kernel_rfl) (by kernel_rfl) (fun v => by (simp only [frL, Act.put, List.setIfInBounds_toArray, List.set_cons_zero, List.set_cons_succ, Nat.reduceAdd, Nat.zero_add]; exact rfl))
        (fun L v W2 => Below w.heap.size w W2 ∧ W1.heap.size ≤ W2.heap.size ∧ Row W2 (w.heap.size) 83 (fdC p m).toArray ∧ Blk W2 (w.heap.size + 1) 64 23 (x) ∧ (L 0 = true → v 0 = (.pointer (some ⟨w.heap.size, 0, none⟩))) ∧ (L 1 = true → v 1 = (.int .i64 p)) ∧ (L 2 = true → v 2 = (.agg (bcells 64 (x)))) ∧ (L 3 = true → v 3 = (.bool true)) ∧ (L 4 = true → v 4 = (.bool true)) ∧ (L 5 = true → v 5 = (.agg (bcells 64 (x)))) ∧ (L 6 = true → v 6 = (.int .i64 (deg x))) ∧ (L 7 = true → v 7 = (.pointer (some ⟨w.heap.size, 1, none⟩))) ∧ (L 8 = true → v 8 = (.agg (bcells 64 (m)))) ∧ (L 9 = true → v 9 = (.int .i64 (deg m))) ∧ (L 10 = true → v 10 = (.bool true)) ∧ (L 11 = true → v 11 = (.bool true)) ∧ (L 12 = true → v 12 = (.bool true))) ?_ ?_ ?_
      · intro v hv0
        exact ⟨hb.drew, Nat.le_refl _, B0.drew, B1.drew, (fun h => by cases h), (fun h => by cases h), (fun h => by cases h), (fun h => by cases h), (fun h => by cases h), (fun h => by cases h), (fun h => by cases h), (fun h => by cases h), (fun h => by cases h), (fun h => by cases h), (fun h => by cases h), (fun h => by cases h), (fun h => by cases h)⟩
      · refine (.cons ?_ (.cons ?_ (.cons ?_ (.cons ?_ (.cons ?_ (.cons ?_ (.cons ?_ (.cons ?_ (.cons ?_ (.cons ?_ (.cons ?_ (.cons ?_ (.cons ?_ (.nil _))))))))))))))
        · intro L v W2 hd hn ⟨hB, hz, s0, s1, h0, h1, h2, h3, h4, h5, h6, h7, h8, h9, h10, h11, h12⟩ K hK
          rw [if_pos (by simp [Region.wanted])]
          go_wp2_with fail
          exact hK _ (.pointer (some ⟨w.heap.size, 0, none⟩)) _ (by simp only [Act.put, List.setIfInBounds_toArray, List.set_cons_zero, List.set_cons_succ ]) ⟨hB, hz, s0, s1, (fun _ => rfl), h1, h2, h3, h4, h5, h6, h7, h8, h9, h10, h11, h12⟩
        · intro L v W2 hd hn ⟨hB, hz, s0, s1, h0, h1, h2, h3, h4, h5, h6, h7, h8, h9, h10, h11, h12⟩ K hK
          have e0 := h0 (hd ⟨0, .data⟩ (by simp) rfl)
          rw [if_pos (by simp [Region.wanted])]
          have cc := s0.cell (i := 0) (v := .int .i64 p) (fdC_at p m)
          go_wp2_with fail
          exact hK _ (.int .i64 p) _ (by simp only [Act.put, List.setIfInBounds_toArray, List.set_cons_zero, List.set_cons_succ, e0]) ⟨hB, hz, s0, s1, h0, (fun _ => rfl), h2, h3, h4, h5, h6, h7, h8, h9, h10, h11, h12⟩
        · intro L v W2 hd hn ⟨hB, hz, s0, s1, h0, h1, h2, h3, h4, h5, h6, h7, h8, h9, h10, h11, h12⟩ K hK
          rw [if_pos (by simp [Region.wanted])]
          refine wp_load_any 23 _ rfl _ rfl 64 23 _ s1 _ Try.underlying23 rfl Try.size23 ?_
          exact hK _ _ _ rfl ⟨hB, hz, s0, s1, h0, h1, (fun _ => rfl), h3, h4, h5, h6, h7, h8, h9, h10, h11, h12⟩
        · intro L v W2 hd hn ⟨hB, hz, s0, s1, h0, h1, h2, h3, h4, h5, h6, h7, h8, h9, h10, h11, h12⟩ K hK
          have e1 := h1 (hd ⟨1, .data⟩ (by simp) rfl)
          have e2 := h2 (hd ⟨2, .data⟩ (by simp) rfl)
          rw [if_pos (by simp [Region.wanted])]
          go_wp2_with (go_at_call 150; refine (HOK.out _).mono ?_; rintro e wy ⟨rfl, hy⟩)
          exact hK _ (.bool true) _ (by simp only [Act.put, List.setIfInBounds_toArray, List.set_cons_zero, List.set_cons_succ, e1, e2]) ⟨hB.trans (hy.mono hB.size), (Nat.le_trans hz hy.size), (s0).below hy (s0).lt, (s1).below hy (s1).lt, h0, h1, h2, (fun _ => rfl), h4, h5, h6, h7, h8, h9, h10, h11, h12⟩
        · intro L v W2 hd hn ⟨hB, hz, s0, s1, h0, h1, h2, h3, h4, h5, h6, h7, h8, h9, h10, h11, h12⟩ K hK
          have e3 := h3 (hd ⟨3, .data⟩ (by simp) rfl)
          rw [if_pos (by simp [Region.wanted])]
          go_wp2_with fail
          exact hK _ (.bool true) _ (by simp only [Act.put, List.setIfInBounds_toArray, List.set_cons_zero, List.set_cons_succ, e3]) ⟨hB, hz, s0, s1, h0, h1, h2, h3, (fun _ => rfl), h5, h6, h7, h8, h9, h10, h11, h12⟩
        · intro L v W2 hd hn ⟨hB, hz, s0, s1, h0, h1, h2, h3, h4, h5, h6, h7, h8, h9, h10, h11, h12⟩ K hK
          have e4 := h4 (hd ⟨4, .guard⟩ (by simp) rfl)
          rw [if_pos (by simp [Region.wanted, yielded, e4])]
          refine wp_load_any 23 _ rfl _ rfl 64 23 _ s1 _ Try.underlying23 rfl Try.size23 ?_
          exact hK _ _ _ rfl ⟨hB, hz, s0, s1, h0, h1, h2, h3, h4, (fun _ => rfl), h6, h7, h8, h9, h10, h11, h12⟩
        · intro L v W2 hd hn ⟨hB, hz, s0, s1, h0, h1, h2, h3, h4, h5, h6, h7, h8, h9, h10, h11, h12⟩ K hK
          have e5 := h5 (hd ⟨5, .data⟩ (by simp) rfl)
          have e4 := h4 (hd ⟨4, .chain⟩ (by simp) rfl)
          rw [if_pos (by simp [Region.wanted, yielded, e4])]
          go_wp2_with (go_at_call 78; refine (HDG.out _ _).mono ?_; rintro e wy ⟨rfl, hy⟩)
          exact hK _ (.int .i64 (deg x)) _ (by simp only [Act.put, List.setIfInBounds_toArray, List.set_cons_zero, List.set_cons_succ, e5, e4]) ⟨hB.trans (hy.mono hB.size), (Nat.le_trans hz hy.size), (s0).below hy (s0).lt, (s1).below hy (s1).lt, h0, h1, h2, h3, h4, h5, (fun _ => rfl), h7, h8, h9, h10, h11, h12⟩
        · intro L v W2 hd hn ⟨hB, hz, s0, s1, h0, h1, h2, h3, h4, h5, h6, h7, h8, h9, h10, h11, h12⟩ K hK
          have e4 := h4 (hd ⟨4, .guard⟩ (by simp) rfl)
          rw [if_pos (by simp [Region.wanted, yielded, e4])]
          go_wp2_with fail
          exact hK _ (.pointer (some ⟨w.heap.size, 1, none⟩)) _ (by simp only [Act.put, List.setIfInBounds_toArray, List.set_cons_zero, List.set_cons_succ, e4]) ⟨hB, hz, s0, s1, h0, h1, h2, h3, h4, h5, h6, (fun _ => rfl), h8, h9, h10, h11, h12⟩
        · intro L v W2 hd hn ⟨hB, hz, s0, s1, h0, h1, h2, h3, h4, h5, h6, h7, h8, h9, h10, h11, h12⟩ K hK
          have e7 := h7 (hd ⟨7, .data⟩ (by simp) rfl)
          have e4 := h4 (hd ⟨4, .guard⟩ (by simp) rfl)
          rw [if_pos (by simp [Region.wanted, yielded, e4])]
          refine wp_load_mid 23 _ rfl _ 1 e7 _ _ (s0.fd) Try.underlying23 rfl (by rw [bl_length]; exact Try.size23) ?_
          exact hK _ _ _ rfl ⟨hB, hz, s0, s1, h0, h1, h2, h3, h4, h5, h6, h7, (fun _ => rfl), h9, h10, h11, h12⟩
        · intro L v W2 hd hn ⟨hB, hz, s0, s1, h0, h1, h2, h3, h4, h5, h6, h7, h8, h9, h10, h11, h12⟩ K hK
          have e8 := h8 (hd ⟨8, .data⟩ (by simp) rfl)
          have e4 := h4 (hd ⟨4, .guard⟩ (by simp) rfl)
          rw [if_pos (by simp [Region.wanted, yielded, e4])]
          go_wp2_with (go_at_call 78; refine (HDG.out _ _).mono ?_; rintro e wy ⟨rfl, hy⟩)
          exact hK _ (.int .i64 (deg m)) _ (by simp only [Act.put, List.setIfInBounds_toArray, List.set_cons_zero, List.set_cons_succ, e8, e4]) ⟨hB.trans (hy.mono hB.size), (Nat.le_trans hz hy.size), (s0).below hy (s0).lt, (s1).below hy (s1).lt, h0, h1, h2, h3, h4, h5, h6, h7, h8, (fun _ => rfl), h10, h11, h12⟩
        · intro L v W2 hd hn ⟨hB, hz, s0, s1, h0, h1, h2, h3, h4, h5, h6, h7, h8, h9, h10, h11, h12⟩ K hK
          have e6 := h6 (hd ⟨6, .data⟩ (by simp) rfl)
          have e9 := h9 (hd ⟨9, .data⟩ (by simp) rfl)
          have e4 := h4 (hd ⟨4, .guard⟩ (by simp) rfl)
          rw [if_pos (by simp [Region.wanted, yielded, e4])]
          go_wp2_with fail
          exact hK _ (.bool true) _ (by simp only [Act.put, List.setIfInBounds_toArray, List.set_cons_zero, List.set_cons_succ, e6, e9, e4]) ⟨hB, hz, s0, s1, h0, h1, h2, h3, h4, h5, h6, h7, h8, h9, (fun _ => rfl), h11, h12⟩
        · intro L v W2 hd hn ⟨hB, hz, s0, s1, h0, h1, h2, h3, h4, h5, h6, h7, h8, h9, h10, h11, h12⟩ K hK
          have e4 := h4 (hd ⟨4, .data⟩ (by simp) rfl)
          have e10 := h10 (hd ⟨10, .data⟩ (by simp) rfl)
          rw [if_pos (by simp [Region.wanted])]
          go_wp2_with fail
          exact hK _ (.bool true) _ (by simp only [Act.put, List.setIfInBounds_toArray, List.set_cons_zero, List.set_cons_succ, e4, e10]) ⟨hB, hz, s0, s1, h0, h1, h2, h3, h4, h5, h6, h7, h8, h9, h10, (fun _ => rfl), h12⟩
        · intro L v W2 hd hn ⟨hB, hz, s0, s1, h0, h1, h2, h3, h4, h5, h6, h7, h8, h9, h10, h11, h12⟩ K hK
          have e11 := h11 (hd ⟨11, .data⟩ (by simp) rfl)
          rw [if_pos (by simp [Region.wanted])]
          go_wp2_with fail
          exact hK _ (.bool true) _ (by simp only [Act.put, List.setIfInBounds_toArray, List.set_cons_zero, List.set_cons_succ, e11]) ⟨hB, hz, s0, s1, h0, h1, h2, h3, h4, h5, h6, h7, h8, h9, h10, h11, (fun _ => rfl)⟩
      · intro L v W2 hL ⟨hB, hz, s0, s1, h0, h1, h2, h3, h4, h5, h6, h7, h8, h9, h10, h11, h12⟩
        have e0 := h0 (hL 0 (by decide))
        have e1 := h1 (hL 1 (by decide))
        have e2 := h2 (hL 2 (by decide))
        have e3 := h3 (hL 3 (by decide))
        have e4 := h4 (hL 4 (by decide))
        have e5 := h5 (hL 5 (by decide))
        have e6 := h6 (hL 6 (by decide))
        have e7 := h7 (hL 7 (by decide))
        have e8 := h8 (hL 8 (by decide))
        have e9 := h9 (hL 9 (by decide))
        have e10 := h10 (hL 10 (by decide))
        have e11 := h11 (hL 11 (by decide))
        have e12 := h12 (hL 12 (by decide))
        clear hL h0 h1 h2 h3 h4 h5 h6 h7 h8 h9 h10 h11 h12
        simp only [Exit.then, e0, e1, e2, e3, e4, e5, e6, e7, e8, e9, e10, e11, e12]
        clear e0 e1 e2 e3 e4 e5 e6 e7 e8 e9 e10 e11 e12
        clear B0
        have B0 := s0
        clear s0
        clear B1
        have B1 := s1
        clear s1
        clear hb
        have hb := hB
        clear hB
        clear hbase hz lt_B0 lt_B1
        go_wp2_with fail
        go_ret
        exact ⟨by rw [HV.out]; rfl, hb⟩
    · skip
      have HV := Lib.hid (rsB_3 ho hlt)
      have HOK := Lib.hid (fun W => IsPoly_any p x hx W)
      rw [ho] at HOK
      have HDG := Lib.hid (fun f W => degree_any f W)
      clear ho
      have lt_B0 : (w.heap.size) < W1.heap.size := B0.lt
      have lt_B1 : (w.heap.size + 1) < W1.heap.size := B1.lt
      have hbase : w.heap.size ≤ W1.heap.size := hb.size
      refine wp_region_stepsG Try.mixed (by kernel_rfl) (by kernel_rfl) (fun v => by (simp only [frL, Act.put, List.setIfInBounds_toArray, List.set_cons_zero, List.set_cons_succ, Nat.reduceAdd, Nat.zero_add]; exact rfl))
        (fun L v W2 => Below w.heap.size w W2 ∧ W1.heap.size ≤ W2.heap.size ∧ Row W2 (w.heap.size) 83 (fdC p m).toArray ∧ Blk W2 (w.heap.size + 1) 64 23 (x) ∧ (L 0 = true → v 0 = (.pointer (some ⟨w.heap.size, 0, none⟩))) ∧ (L 1 = true → v 1 = (.int .i64 p)) ∧ (L 2 = true → v 2 = (.agg (bcells 64 (x)))) ∧ (L 3 = true → v 3 = (.bool true)) ∧ (L 4 = true → v 4 = (.bool true)) ∧ (L 5 = true → v 5 = (.agg (bcells 64 (x)))) ∧ (L 6 = true → v 6 = (.int .i64 (deg x))) ∧ (L 7 = true → v 7 = (.pointer (some ⟨w.heap.size, 1, none⟩))) ∧ (L 8 = true → v 8 = (.agg (bcells 64 (m)))) ∧ (L 9 = true → v 9 = (.int .i64 (deg m))) ∧ (L 10 = true → v 10 = (.bool false)) ∧ (L 11 = true → v 11 = (.bool false)) ∧ (L 12 = true → v 12 = (.bool false))) ?_ ?_ ?_
      · intro v hv0
        exact ⟨hb.drew, Nat.le_refl _, B0.drew, B1.drew, (fun h => by cases h), (fun h => by cases h), (fun h => by cases h), (fun h => by cases h), (fun h => by cases h), (fun h => by cases h), (fun h => by cases h), (fun h => by cases h), (fun h => by cases h), (fun h => by cases h), (fun h => by cases h), (fun h => by cases h), (fun h => by cases h)⟩
      · refine (.cons ?_ (.cons ?_ (.cons ?_ (.cons ?_ (.cons ?_ (.cons ?_ (.cons ?_ (.cons ?_ (.cons ?_ (.cons ?_ (.cons ?_ (.cons ?_ (.cons ?_ (.nil _))))))))))))))
        · intro L v W2 hd hn ⟨hB, hz, s0, s1, h0, h1, h2, h3, h4, h5, h6, h7, h8, h9, h10, h11, h12⟩ K hK
          rw [if_pos (by simp [Region.wanted])]
          go_wp2_with fail
          exact hK _ (.pointer (some ⟨w.heap.size, 0, none⟩)) _ (by simp only [Act.put, List.setIfInBounds_toArray, List.set_cons_zero, List.set_cons_succ ]) ⟨hB, hz, s0, s1, (fun _ => rfl), h1, h2, h3, h4, h5, h6, h7, h8, h9, h10, h11, h12⟩
        · intro L v W2 hd hn ⟨hB, hz, s0, s1, h0, h1, h2, h3, h4, h5, h6, h7, h8, h9, h10, h11, h12⟩ K hK
          have e0 := h0 (hd ⟨0, .data⟩ (by simp) rfl)
          rw [if_pos (by simp [Region.wanted])]
          have cc := s0.cell (i := 0) (v := .int .i64 p) (fdC_at p m)
          go_wp2_with fail
          exact hK _ (.int .i64 p) _ (by simp only [Act.put, List.setIfInBounds_toArray, List.set_cons_zero, List.set_cons_succ, e0]) ⟨hB, hz, s0, s1, h0, (fun _ => rfl), h2, h3, h4, h5, h6, h7, h8, h9, h10, h11, h12⟩
        · intro L v W2 hd hn ⟨hB, hz, s0, s1, h0, h1, h2, h3, h4, h5, h6, h7, h8, h9, h10, h11, h12⟩ K hK
          rw [if_pos (by simp [Region.wanted])]
          refine wp_load_any 23 _ rfl _ rfl 64 23 _ s1 _ Try.underlying23 rfl Try.size23 ?_
          exact hK _ _ _ rfl ⟨hB, hz, s0, s1, h0, h1, (fun _ => rfl), h3, h4, h5, h6, h7, h8, h9, h10, h11, h12⟩
        · intro L v W2 hd hn ⟨hB, hz, s0, s1, h0, h1, h2, h3, h4, h5, h6, h7, h8, h9, h10, h11, h12⟩ K hK
          have e1 := h1 (hd ⟨1, .data⟩ (by simp) rfl)
          have e2 := h2 (hd ⟨2, .data⟩ (by simp) rfl)
          rw [if_pos (by simp [Region.wanted])]
          go_wp2_with (go_at_call 150; refine (HOK.out _).mono ?_; rintro e wy ⟨rfl, hy⟩)
          exact hK _ (.bool true) _ (by simp only [Act.put, List.setIfInBounds_toArray, List.set_cons_zero, List.set_cons_succ, e1, e2]) ⟨hB.trans (hy.mono hB.size), (Nat.le_trans hz hy.size), (s0).below hy (s0).lt, (s1).below hy (s1).lt, h0, h1, h2, (fun _ => rfl), h4, h5, h6, h7, h8, h9, h10, h11, h12⟩
        · intro L v W2 hd hn ⟨hB, hz, s0, s1, h0, h1, h2, h3, h4, h5, h6, h7, h8, h9, h10, h11, h12⟩ K hK
          have e3 := h3 (hd ⟨3, .data⟩ (by simp) rfl)
          rw [if_pos (by simp [Region.wanted])]
          go_wp2_with fail
          exact hK _ (.bool true) _ (by simp only [Act.put, List.setIfInBounds_toArray, List.set_cons_zero, List.set_cons_succ, e3]) ⟨hB, hz, s0, s1, h0, h1, h2, h3, (fun _ => rfl), h5, h6, h7, h8, h9, h10, h11, h12⟩
        · intro L v W2 hd hn ⟨hB, hz, s0, s1, h0, h1, h2, h3, h4, h5, h6, h7, h8, h9, h10, h11, h12⟩ K hK
          have e4 := h4 (hd ⟨4, .guard⟩ (by simp) rfl)
          rw [if_pos (by simp [Region.wanted, yielded, e4])]
          refine wp_load_any 23 _ rfl _ rfl 64 23 _ s1 _ Try.underlying23 rfl Try.size23 ?_
          exact hK _ _ _ rfl ⟨hB, hz, s0, s1, h0, h1, h2, h3, h4, (fun _ => rfl), h6, h7, h8, h9, h10, h11, h12⟩
        · intro L v W2 hd hn ⟨hB, hz, s0, s1, h0, h1, h2, h3, h4, h5, h6, h7, h8, h9, h10, h11, h12⟩ K hK
          have e5 := h5 (hd ⟨5, .data⟩ (by simp) rfl)
          have e4 := h4 (hd ⟨4, .chain⟩ (by simp) rfl)
          rw [if_pos (by simp [Region.wanted, yielded, e4])]
          go_wp2_with (go_at_call 78; refine (HDG.out _ _).mono ?_; rintro e wy ⟨rfl, hy⟩)
          exact hK _ (.int .i64 (deg x)) _ (by simp only [Act.put, List.setIfInBounds_toArray, List.set_cons_zero, List.set_cons_succ, e5, e4]) ⟨hB.trans (hy.mono hB.size), (Nat.le_trans hz hy.size), (s0).below hy (s0).lt, (s1).below hy (s1).lt, h0, h1, h2, h3, h4, h5, (fun _ => rfl), h7, h8, h9, h10, h11, h12⟩
        · intro L v W2 hd hn ⟨hB, hz, s0, s1, h0, h1, h2, h3, h4, h5, h6, h7, h8, h9, h10, h11, h12⟩ K hK
          have e4 := h4 (hd ⟨4, .guard⟩ (by simp) rfl)
          rw [if_pos (by simp [Region.wanted, yielded, e4])]
          go_wp2_with fail
          exact hK _ (.pointer (some ⟨w.heap.size, 1, none⟩)) _ (by simp only [Act.put, List.setIfInBounds_toArray, List.set_cons_zero, List.set_cons_succ, e4]) ⟨hB, hz, s0, s1, h0, h1, h2, h3, h4, h5, h6, (fun _ => rfl), h8, h9, h10, h11, h12⟩
        · intro L v W2 hd hn ⟨hB, hz, s0, s1, h0, h1, h2, h3, h4, h5, h6, h7, h8, h9, h10, h11, h12⟩ K hK
          have e7 := h7 (hd ⟨7, .data⟩ (by simp) rfl)
          have e4 := h4 (hd ⟨4, .guard⟩ (by simp) rfl)
          rw [if_pos (by simp [Region.wanted, yielded, e4])]
          refine wp_load_mid 23 _ rfl _ 1 e7 _ _ (s0.fd) Try.underlying23 rfl (by rw [bl_length]; exact Try.size23) ?_
          exact hK _ _ _ rfl ⟨hB, hz, s0, s1, h0, h1, h2, h3, h4, h5, h6, h7, (fun _ => rfl), h9, h10, h11, h12⟩
        · intro L v W2 hd hn ⟨hB, hz, s0, s1, h0, h1, h2, h3, h4, h5, h6, h7, h8, h9, h10, h11, h12⟩ K hK
          have e8 := h8 (hd ⟨8, .data⟩ (by simp) rfl)
          have e4 := h4 (hd ⟨4, .guard⟩ (by simp) rfl)
          rw [if_pos (by simp [Region.wanted, yielded, e4])]
          go_wp2_with (go_at_call 78; refine (HDG.out _ _).mono ?_; rintro e wy ⟨rfl, hy⟩)
          exact hK _ (.int .i64 (deg m)) _ (by simp only [Act.put, List.setIfInBounds_toArray, List.set_cons_zero, List.set_cons_succ, e8, e4]) ⟨hB.trans (hy.mono hB.size), (Nat.le_trans hz hy.size), (s0).below hy (s0).lt, (s1).below hy (s1).lt, h0, h1, h2, h3, h4, h5, h6, h7, h8, (fun _ => rfl), h10, h11, h12⟩
        · intro L v W2 hd hn ⟨hB, hz, s0, s1, h0, h1, h2, h3, h4, h5, h6, h7, h8, h9, h10, h11, h12⟩ K hK
          have e6 := h6 (hd ⟨6, .data⟩ (by simp) rfl)
          have e9 := h9 (hd ⟨9, .data⟩ (by simp) rfl)
          have e4 := h4 (hd ⟨4, .guard⟩ (by simp) rfl)
          rw [if_pos (by simp [Region.wanted, yielded, e4])]
          go_wp2_with fail
          exact hK _ (.bool false) _ (by simp only [Act.put, List.setIfInBounds_toArray, List.set_cons_zero, List.set_cons_succ, e6, e9, e4]) ⟨hB, hz, s0, s1, h0, h1, h2, h3, h4, h5, h6, h7, h8, h9, (fun _ => rfl), h11, h12⟩
        · intro L v W2 hd hn ⟨hB, hz, s0, s1, h0, h1, h2, h3, h4, h5, h6, h7, h8, h9, h10, h11, h12⟩ K hK
          have e4 := h4 (hd ⟨4, .data⟩ (by simp) rfl)
          have e10 := h10 (hd ⟨10, .data⟩ (by simp) rfl)
          rw [if_pos (by simp [Region.wanted])]
          go_wp2_with fail
          exact hK _ (.bool false) _ (by simp only [Act.put, List.setIfInBounds_toArray, List.set_cons_zero, List.set_cons_succ, e4, e10]) ⟨hB, hz, s0, s1, h0, h1, h2, h3, h4, h5, h6, h7, h8, h9, h10, (fun _ => rfl), h12⟩
        · intro L v W2 hd hn ⟨hB, hz, s0, s1, h0, h1, h2, h3, h4, h5, h6, h7, h8, h9, h10, h11, h12⟩ K hK
          have e11 := h11 (hd ⟨11, .data⟩ (by simp) rfl)
          rw [if_pos (by simp [Region.wanted])]
          go_wp2_with fail
          exact hK _ (.bool false) _ (by simp only [Act.put, List.setIfInBounds_toArray, List.set_cons_zero, List.set_cons_succ, e11]) ⟨hB, hz, s0, s1, h0, h1, h2, h3, h4, h5, h6, h7, h8, h9, h10, h11, (fun _ => rfl)⟩
      · intro L v W2 hL ⟨hB, hz, s0, s1, h0, h1, h2, h3, h4, h5, h6, h7, h8, h9, h10, h11, h12⟩
        have e0 := h0 (hL 0 (by decide))
        have e1 := h1 (hL 1 (by decide))
        have e2 := h2 (hL 2 (by decide))
        have e3 := h3 (hL 3 (by decide))
        have e4 := h4 (hL 4 (by decide))
        have e5 := h5 (hL 5 (by decide))
        have e6 := h6 (hL 6 (by decide))
        have e7 := h7 (hL 7 (by decide))
        have e8 := h8 (hL 8 (by decide))
        have e9 := h9 (hL 9 (by decide))
        have e10 := h10 (hL 10 (by decide))
        have e11 := h11 (hL 11 (by decide))
        have e12 := h12 (hL 12 (by decide))
        clear hL h0 h1 h2 h3 h4 h5 h6 h7 h8 h9 h10 h11 h12
        simp only [Exit.then, e0, e1, e2, e3, e4, e5, e6, e7, e8, e9, e10, e11, e12]
        clear e0 e1 e2 e3 e4 e5 e6 e7 e8 e9 e10 e11 e12
        clear B0
        have B0 := s0
        clear s0
        clear B1
        have B1 := s1
        clear s1
        clear hb
        have hb := hB
        clear hB
        clear hbase hz lt_B0 lt_B1
        go_wp2_with fail
        go_ret
        exact ⟨by rw [HV.out]; rfl, hb⟩
set_option maxRecDepth 100000 in
set_option maxHeartbeats 1600000 in
theorem l03Is_any (p : Int) (m : Nat → Nat) (F : Nat → Nat → Nat) (hm : byte m) (hF : ∀ i, byte (F i)) (w : World) :
    Calls Try.prog 93 #[.int .i64 p, .agg (bcells 64 m), .agg (bcells 512 (fl 64 F))] w fun e w' => e = .returned (.bool (skB p m F)) ∧ Below w.heap.size w w' := by
  have HR := Lib.hid (fun i W => l03Residue_any p m (F i) hm (hF i) W)
  have HY := Lib.hid (fun h => skB_yes (p := p) (m := m) (F := F) h)
  have HN := Lib.hid (fun i (hi : i < 8) h => skB_no (p := p) (m := m) (F := F) hi h)
  go_enter Try.func93, Try.ntmps93
  go_upto_region 1 with (fail)
  obtain ⟨W1, hwo⟩ : ∃ v : World, v = ((w.alloc (.cells (bcells 64 (m)) 23)).alloc (.cells (bcells 512 (fl 64 F)) 34)) := ⟨_, rfl⟩
  have B0 : Blk W1 (w.heap.size) 64 23 (m) := by subst hwo; have := ((Blk.new w 64 23 (m)).alloc (.cells (bcells 512 (fl 64 F)) 34)); simpa using this
  have B1 : Blk W1 (w.heap.size + 1) 512 34 (fl 64 F) := by subst hwo; have := (Blk.new (w.alloc (.cells (bcells 64 (m)) 23)) 512 34 (fl 64 F)); simpa using this
  have hb : Below w.heap.size w W1 := by subst hwo; exact (((Below.refl _ _).alloc (Nat.le_refl _) _).alloc (by simp) _)
  rw [← hwo]
  clear hwo
  go_wp2_with fail
  go_loopw [7] (fun c wr => ∃ j : Nat, c = .int .i64 (j : Int) ∧ j ≤ 8 ∧ Hid (∀ i, i < j → rsB p m (F i) = true) ∧ Below w.heap.size w wr ∧ Blk wr (w.heap.size) 64 23 m ∧ Blk wr (w.heap.size + 1) 512 34 (fl 64 F)) (fun c _ => 8 - (intOf c).toNat)
  case atStart => exact ⟨0, rfl, by omega, Lib.hid (fun i hi => absurd hi (Nat.not_lt_zero i)), hb, B0, B1⟩
  case round =>
    clear hb B0 B1
    obtain ⟨j, rfl, hj8, hall, hb, B0, B1⟩ := hrel
    by_cases hj : j < 8
    · have hjI : (j : Int) < 8 := by omega
      have HRJ := Lib.hid (HR.out j)
      cases hr : rsB p m (F j) with
      | false =>
        rw [hr] at HRJ
        have HV := Lib.hid (HN.out j hj hr)
        clear hr
        go_upto_region 4 with (fail)
        have lt_B0 : (w.heap.size) < wr.heap.size := B0.lt
        have lt_B1 : (w.heap.size + 1) < wr.heap.size := B1.lt
        have hbase : w.heap.size ≤ wr.heap.size := hb.size
        refine wp_region_steps0 Try.mixed (by kernel_rfl) (by kernel_rfl) (fun v => by (simp only [frL, Act.put, List.setIfInBounds_toArray, List.set_cons_zero, List.set_cons_succ, Nat.reduceAdd, Nat.zero_add]; exact rfl))
          (fun L v W2 => Below w.heap.size w W2 ∧ wr.heap.size ≤ W2.heap.size ∧ Blk W2 (w.heap.size) 64 23 (m) ∧ Blk W2 (w.heap.size + 1) 512 34 (fl 64 F) ∧ (L 0 = true → v 0 = (.int .i64 p)) ∧ (L 1 = true → v 1 = (.agg (bcells 64 (m)))) ∧ (L 2 = true → v 2 = (.int .i64 (j : Int))) ∧ (L 3 = true → v 3 = (.pointer (some ⟨w.heap.size + 1, j * 64, none⟩))) ∧ (L 4 = true → v 4 = (.agg (bcells 64 (F j)))) ∧ (L 5 = true → v 5 = (.bool false)) ∧ (L 6 = true → v 6 = (.bool true))) ?_ ?_ ?_
        · intro v hv0
          exact ⟨hb.drew, Nat.le_refl _, B0.drew, B1.drew, (fun h => by cases h), (fun h => by cases h), (fun h => by cases h), (fun h => by cases h), (fun h => by cases h), (fun h => by cases h), (fun h => by cases h)⟩
        · refine (.cons rfl ?_ (.cons rfl ?_ (.cons rfl ?_ (.cons rfl ?_ (.cons rfl ?_ (.cons rfl ?_ (.cons rfl ?_ (.nil _))))))))
          · intro L v W2 hd hn ⟨hB, hz, s0, s1, h0, h1, h2, h3, h4, h5, h6⟩ K hK
            go_wp2_with fail
            exact hK _ (.int .i64 p) _ (by simp only [Act.put, List.setIfInBounds_toArray, List.set_cons_zero, List.set_cons_succ ]) ⟨hB, hz, s0, s1, (fun _ => rfl), h1, h2, h3, h4, h5, h6⟩
          · intro L v W2 hd hn ⟨hB, hz, s0, s1, h0, h1, h2, h3, h4, h5, h6⟩ K hK
            refine wp_load_any 23 _ rfl _ rfl 64 23 _ s0 _ Try.underlying23 rfl Try.size23 ?_
            exact hK _ _ _ rfl ⟨hB, hz, s0, s1, h0, (fun _ => rfl), h2, h3, h4, h5, h6⟩
          · intro L v W2 hd hn ⟨hB, hz, s0, s1, h0, h1, h2, h3, h4, h5, h6⟩ K hK
            go_wp2_with fail
            exact hK _ (.int .i64 (j : Int)) _ (by simp only [Act.put, List.setIfInBounds_toArray, List.set_cons_zero, List.set_cons_succ ]) ⟨hB, hz, s0, s1, h0, h1, (fun _ => rfl), h3, h4, h5, h6⟩
          · intro L v W2 hd hn ⟨hB, hz, s0, s1, h0, h1, h2, h3, h4, h5, h6⟩ K hK
            have e2 := h2 (hd ⟨2, .data⟩ (by simp) rfl)
            go_wp2_with fail
            exact hK _ (.pointer (some ⟨w.heap.size + 1, j * 64, none⟩)) _ (by simp only [Act.put, List.setIfInBounds_toArray, List.set_cons_zero, List.set_cons_succ, e2]) ⟨hB, hz, s0, s1, h0, h1, h2, (fun _ => rfl), h4, h5, h6⟩
          · intro L v W2 hd hn ⟨hB, hz, s0, s1, h0, h1, h2, h3, h4, h5, h6⟩ K hK
            have e3 := h3 (hd ⟨3, .data⟩ (by simp) rfl)
            refine wp_load_mid 23 _ rfl _ (j * 64) e3 _ _ ((s1).sk (by omega)) Try.underlying23 rfl (by rw [bl_length]; exact Try.size23) ?_
            exact hK _ _ _ rfl ⟨hB, hz, s0, s1, h0, h1, h2, h3, (fun _ => rfl), h5, h6⟩
          · intro L v W2 hd hn ⟨hB, hz, s0, s1, h0, h1, h2, h3, h4, h5, h6⟩ K hK
            have e0 := h0 (hd ⟨0, .data⟩ (by simp) rfl)
            have e1 := h1 (hd ⟨1, .data⟩ (by simp) rfl)
            have e4 := h4 (hd ⟨4, .data⟩ (by simp) rfl)
            go_wp2_with (go_at_call 102; refine (HRJ.out _).mono ?_; rintro e wy ⟨rfl, hy⟩)
            exact hK _ (.bool false) _ (by simp only [Act.put, List.setIfInBounds_toArray, List.set_cons_zero, List.set_cons_succ, e0, e1, e4]) ⟨hB.trans (hy.mono hB.size), (Nat.le_trans hz hy.size), (s0).below hy (s0).lt, (s1).below hy (s1).lt, h0, h1, h2, h3, h4, (fun _ => rfl), h6⟩
          · intro L v W2 hd hn ⟨hB, hz, s0, s1, h0, h1, h2, h3, h4, h5, h6⟩ K hK
            have e5 := h5 (hd ⟨5, .data⟩ (by simp) rfl)
            go_wp2_with fail
            exact hK _ (.bool true) _ (by simp only [Act.put, List.setIfInBounds_toArray, List.set_cons_zero, List.set_cons_succ, e5]) ⟨hB, hz, s0, s1, h0, h1, h2, h3, h4, h5, (fun _ => rfl)⟩
        · intro L v W2 hL ⟨hB, hz, s0, s1, h0, h1, h2, h3, h4, h5, h6⟩
          have e0 := h0 (hL 0 (by decide))
          have e1 := h1 (hL 1 (by decide))
          have e2 := h2 (hL 2 (by decide))
          have e3 := h3 (hL 3 (by decide))
          have e4 := h4 (hL 4 (by decide))
          have e5 := h5 (hL 5 (by decide))
          have e6 := h6 (hL 6 (by decide))
          clear hL h0 h1 h2 h3 h4 h5 h6
          simp only [Exit.then, e0, e1, e2, e3, e4, e5, e6]
          clear e0 e1 e2 e3 e4 e5 e6
          clear B0
          have B0 := s0
          clear s0
          clear B1
          have B1 := s1
          clear s1
          clear hb
          have hb := hB
          clear hB
          clear hbase hz lt_B0 lt_B1
          go_wp2_with fail
          go_ret
          exact ⟨by rw [HV.out]; rfl, hb⟩
      | true =>
        rw [hr] at HRJ
        have HA := Lib.hid (show ∀ i, i < j + 1 → rsB p m (F i) = true from fun i hi => by
          by_cases e : i = j
          · subst e; exact hr
          · exact hall.out i (by omega))
        clear hr
        go_upto_region 4 with (fail)
        have lt_B0 : (w.heap.size) < wr.heap.size := B0.lt
        have lt_B1 : (w.heap.size + 1) < wr.heap.size := B1.lt
        have hbase : w.heap.size ≤ wr.heap.size := hb.size
        refine wp_region_steps0 Try.mixed (by kernel_rfl) (by kernel_rfl) (fun v => by (simp only [frL, Act.put, List.setIfInBounds_toArray, List.set_cons_zero, List.set_cons_succ, Nat.reduceAdd, Nat.zero_add]; exact rfl))
          (fun L v W2 => Below w.heap.size w W2 ∧ wr.heap.size ≤ W2.heap.size ∧ Blk W2 (w.heap.size) 64 23 (m) ∧ Blk W2 (w.heap.size + 1) 512 34 (fl 64 F) ∧ (L 0 = true → v 0 = (.int .i64 p)) ∧ (L 1 = true → v 1 = (.agg (bcells 64 (m)))) ∧ (L 2 = true → v 2 = (.int .i64 (j : Int))) ∧ (L 3 = true → v 3 = (.pointer (some ⟨w.heap.size + 1, j * 64, none⟩))) ∧ (L 4 = true → v 4 = (.agg (bcells 64 (F j)))) ∧ (L 5 = true → v 5 = (.bool true)) ∧ (L 6 = true → v 6 = (.bool false))) ?_ ?_ ?_
        · intro v hv0
          exact ⟨hb.drew, Nat.le_refl _, B0.drew, B1.drew, (fun h => by cases h), (fun h => by cases h), (fun h => by cases h), (fun h => by cases h), (fun h => by cases h), (fun h => by cases h), (fun h => by cases h)⟩
        · refine (.cons rfl ?_ (.cons rfl ?_ (.cons rfl ?_ (.cons rfl ?_ (.cons rfl ?_ (.cons rfl ?_ (.cons rfl ?_ (.nil _))))))))
          · intro L v W2 hd hn ⟨hB, hz, s0, s1, h0, h1, h2, h3, h4, h5, h6⟩ K hK
            go_wp2_with fail
            exact hK _ (.int .i64 p) _ (by simp only [Act.put, List.setIfInBounds_toArray, List.set_cons_zero, List.set_cons_succ ]) ⟨hB, hz, s0, s1, (fun _ => rfl), h1, h2, h3, h4, h5, h6⟩
          · intro L v W2 hd hn ⟨hB, hz, s0, s1, h0, h1, h2, h3, h4, h5, h6⟩ K hK
            refine wp_load_any 23 _ rfl _ rfl 64 23 _ s0 _ Try.underlying23 rfl Try.size23 ?_
            exact hK _ _ _ rfl ⟨hB, hz, s0, s1, h0, (fun _ => rfl), h2, h3, h4, h5, h6⟩
          · intro L v W2 hd hn ⟨hB, hz, s0, s1, h0, h1, h2, h3, h4, h5, h6⟩ K hK
            go_wp2_with fail
            exact hK _ (.int .i64 (j : Int)) _ (by simp only [Act.put, List.setIfInBounds_toArray, List.set_cons_zero, List.set_cons_succ ]) ⟨hB, hz, s0, s1, h0, h1, (fun _ => rfl), h3, h4, h5, h6⟩
          · intro L v W2 hd hn ⟨hB, hz, s0, s1, h0, h1, h2, h3, h4, h5, h6⟩ K hK
            have e2 := h2 (hd ⟨2, .data⟩ (by simp) rfl)
            go_wp2_with fail
            exact hK _ (.pointer (some ⟨w.heap.size + 1, j * 64, none⟩)) _ (by simp only [Act.put, List.setIfInBounds_toArray, List.set_cons_zero, List.set_cons_succ, e2]) ⟨hB, hz, s0, s1, h0, h1, h2, (fun _ => rfl), h4, h5, h6⟩
          · intro L v W2 hd hn ⟨hB, hz, s0, s1, h0, h1, h2, h3, h4, h5, h6⟩ K hK
            have e3 := h3 (hd ⟨3, .data⟩ (by simp) rfl)
            refine wp_load_mid 23 _ rfl _ (j * 64) e3 _ _ ((s1).sk (by omega)) Try.underlying23 rfl (by rw [bl_length]; exact Try.size23) ?_
            exact hK _ _ _ rfl ⟨hB, hz, s0, s1, h0, h1, h2, h3, (fun _ => rfl), h5, h6⟩
          · intro L v W2 hd hn ⟨hB, hz, s0, s1, h0, h1, h2, h3, h4, h5, h6⟩ K hK
            have e0 := h0 (hd ⟨0, .data⟩ (by simp) rfl)
            have e1 := h1 (hd ⟨1, .data⟩ (by simp) rfl)
            have e4 := h4 (hd ⟨4, .data⟩ (by simp) rfl)
            go_wp2_with (go_at_call 102; refine (HRJ.out _).mono ?_; rintro e wy ⟨rfl, hy⟩)
            exact hK _ (.bool true) _ (by simp only [Act.put, List.setIfInBounds_toArray, List.set_cons_zero, List.set_cons_succ, e0, e1, e4]) ⟨hB.trans (hy.mono hB.size), (Nat.le_trans hz hy.size), (s0).below hy (s0).lt, (s1).below hy (s1).lt, h0, h1, h2, h3, h4, (fun _ => rfl), h6⟩
          · intro L v W2 hd hn ⟨hB, hz, s0, s1, h0, h1, h2, h3, h4, h5, h6⟩ K hK
            have e5 := h5 (hd ⟨5, .data⟩ (by simp) rfl)
            go_wp2_with fail
            exact hK _ (.bool false) _ (by simp only [Act.put, List.setIfInBounds_toArray, List.set_cons_zero, List.set_cons_succ, e5]) ⟨hB, hz, s0, s1, h0, h1, h2, h3, h4, h5, (fun _ => rfl)⟩
        · intro L v W2 hL ⟨hB, hz, s0, s1, h0, h1, h2, h3, h4, h5, h6⟩
          have e0 := h0 (hL 0 (by decide))
          have e1 := h1 (hL 1 (by decide))
          have e2 := h2 (hL 2 (by decide))
          have e3 := h3 (hL 3 (by decide))
          have e4 := h4 (hL 4 (by decide))
          have e5 := h5 (hL 5 (by decide))
          have e6 := h6 (hL 6 (by decide))
          clear hL h0 h1 h2 h3 h4 h5 h6
          simp only [Exit.then, e0, e1, e2, e3, e4, e5, e6]
          clear e0 e1 e2 e3 e4 e5 e6
          clear B0
          have B0 := s0
          clear s0
          clear B1
          have B1 := s1
          clear s1
          clear hb
          have hb := hB
          clear hB
          clear hbase hz lt_B0 lt_B1
          go_wp2_with fail
          go_roundw
          case rel => exact ⟨j + 1, by go_num, by omega, HA, hb, B0, B1⟩
          case measure => simp [intOf] <;> omega
    · have hjI : ¬ (j : Int) < 8 := by omega
      obtain rfl : j = 8 := by omega
      have HV := Lib.hid (HY.out hall.out)
      go_wp2_with fail
      go_ret
      exact ⟨by rw [HV.out]; rfl, hb⟩
set_option maxRecDepth 100000 in
set_option maxHeartbeats 1600000 in
theorem isSkew_any (p : Int) (m : Nat → Nat) (F : Nat → Nat → Nat) (hm : byte m) (hF : ∀ i, byte (F i)) (w : World) :
    Calls Try.prog 161 #[.agg (fdC p m).toArray, .agg (bcells 512 (fl 64 F))] w fun e w' => e = .returned (.bool (skB p m F)) ∧ Below w.heap.size w w' := by
  have HR := Lib.hid (fun i W => isResidue_any p m (F i) hm (hF i) W)
  have HY := Lib.hid (fun h => skB_yes (p := p) (m := m) (F := F) h)
  have HN := Lib.hid (fun i (hi : i < 8) h => skB_no (p := p) (m := m) (F := F) hi h)
  go_enter Try.func161, Try.ntmps161
  go_upto_region 1 with (fail)
  obtain ⟨W1, hwo⟩ : ∃ v : World, v = ((w.alloc (.cells (fdC p m).toArray 83)).alloc (.cells (bcells 512 (fl 64 F)) 34)) := ⟨_, rfl⟩
  have B0 : Row W1 (w.heap.size) 83 (fdC p m).toArray := by subst hwo; have := ((Row.new w 83 (fdC p m).toArray).alloc (.cells (bcells 512 (fl 64 F)) 34)); simpa using this
  have B1 : Blk W1 (w.heap.size + 1) 512 34 (fl 64 F) := by subst hwo; have := (Blk.new (w.alloc (.cells (fdC p m).toArray 83)) 512 34 (fl 64 F)); simpa using this
  have hb : Below w.heap.size w W1 := by subst hwo; exact (((Below.refl _ _).alloc (Nat.le_refl _) _).alloc (by simp) _)
  rw [← hwo]
  clear hwo
  go_upto_region 2 with (first | (refine wpList_load_any rfl 34 (.tmp 3) rfl _ rfl 512 34 _ (B1) _ Try.underlying34 rfl Try.size34 ?_))
  go_loopw [8] (fun c wr => ∃ j : Nat, c = .int .i64 (j : Int) ∧ j ≤ 8 ∧ Hid (∀ i, i < j → rsB p m (F i) = true) ∧ Below w.heap.size w wr ∧ Row wr (w.heap.size) 83 (fdC p m).toArray ∧ Blk wr (w.heap.size + 1) 512 34 (fl 64 F)) (fun c _ => 8 - (intOf c).toNat)
  case atStart => exact ⟨0, rfl, by omega, Lib.hid (fun i hi => absurd hi (Nat.not_lt_zero i)), hb, B0, B1⟩
  case round =>
    clear hb B0 B1
    obtain ⟨j, rfl, hj8, hall, hb, B0, B1⟩ := hrel
    by_cases hj : j < 8
    · have hjI : (j : Int) < 8 := by omega
      have HRJ := Lib.hid (HR.out j)
      cases hr : rsB p m (F j) with
      | false =>
        rw [hr] at HRJ
        have HV := Lib.hid (HN.out j hj hr)
        clear hr
        have hix := run_index_sk (P := Try.prog) 34 23 F .i64 j _ Try.underlying34 Try.underlying23 rfl Try.size23 hj
        go_upto_region 3 with (fail)
        have lt_B0 := B0.lt
        have lt_B1 := B1.lt
        go_upto_region 4 with (first | rw [← zero64] | (refine wpList_store_blk rfl 23 (.tmp 6) (.tmp 10) rfl _ 64 (F j) rfl rfl 23 _ ((Blk.new wr 64 23 (fun _ => 0))) Try.size23 ?_; try simp only [Act.put]))
        have lt_B0 := B0.lt
        have lt_B1 := B1.lt
        have lhb := hb.size
        have qB0 : Row ((wr.alloc (.cells (bcells 64 (fun _ => 0)) 23)).setRow (wr.heap.size) (bcells 64 (F j))) (w.heap.size) 83 (fdC p m).toArray := ((B0.alloc (.cells (bcells 64 (fun _ => 0)) 23)).rowOther (by omega))
        have qB1 : Blk ((wr.alloc (.cells (bcells 64 (fun _ => 0)) 23)).setRow (wr.heap.size) (bcells 64 (F j))) (w.heap.size + 1) 512 34 (fl 64 F) := ((B1.alloc (.cells (bcells 64 (fun _ => 0)) 23)).rowOther (by omega))
        have qB2 : Blk ((wr.alloc (.cells (bcells 64 (fun _ => 0)) 23)).setRow (wr.heap.size) (bcells 64 (F j))) (wr.heap.size) 64 23 (F j) := ((Blk.new wr 64 23 (fun _ => 0)).row (F j))
        have qhb : Below w.heap.size w ((wr.alloc (.cells (bcells 64 (fun _ => 0)) 23)).setRow (wr.heap.size) (bcells 64 (F j))) := (below_row (hb.alloc (by have := hb.size; simp; omega) (.cells (bcells 64 (fun _ => 0)) 23)) (by omega) _)
        obtain ⟨W2, hwo⟩ : ∃ v : World, v = ((wr.alloc (.cells (bcells 64 (fun _ => 0)) 23)).setRow (wr.heap.size) (bcells 64 (F j))) := ⟨_, rfl⟩
        rw [← hwo] at qB0 qB1 qB2 qhb ⊢
        clear hwo
        clear B0 B1 hb
        have B0 := qB0
        have B1 := qB1
        have B2 := qB2
        have hb := qhb
        clear qB0 qB1 qB2 qhb
        obtain ⟨N1, hNN⟩ : ∃ n : Nat, n = wr.heap.size := ⟨_, rfl⟩
        rw [← hNN] at lt_B0 lt_B1 lhb B2 ⊢
        clear hNN
        have zN1_0 := lt_B0
        have zN1_1 := lt_B1
        have zN1 := lhb
        clear lt_B0 lt_B1 lhb
        try simp only [Act.put, List.setIfInBounds_toArray, List.set_cons_zero, List.set_cons_succ]
        clear hix
        go_upto_region 5 with (first | (refine wpList_load_rowv rfl 83 (.tmp 2) rfl _ rfl 83 (fdC p m).toArray (B0) _ Try.underlying83 rfl 65 Try.size83 (by simp [fdC_len]) ?_) | (refine wpList_load_any rfl 23 (.tmp 6) rfl _ rfl 64 23 _ (B2) _ Try.underlying23 rfl Try.size23 ?_) | (go_at_call 104; refine (HRJ.out _).mono ?_; rintro e W3 ⟨rfl, hW3⟩; replace B0 := B0.below hW3 B0.lt; replace B1 := B1.below hW3 B1.lt; replace B2 := B2.below hW3 B2.lt; replace hb := (hb).trans (hW3.mono (hb).size)))
        go_wp2_with fail
        go_ret
        exact ⟨by rw [HV.out]; rfl, hb⟩
      | true =>
        rw [hr] at HRJ
        have HA := Lib.hid (show ∀ i, i < j + 1 → rsB p m (F i) = true from fun i hi => by
          by_cases e : i = j
          · subst e; exact hr
          · exact hall.out i (by omega))
        clear hr
        have hix := run_index_sk (P := Try.prog) 34 23 F .i64 j _ Try.underlying34 Try.underlying23 rfl Try.size23 hj
        go_upto_region 3 with (fail)
        have lt_B0 := B0.lt
        have lt_B1 := B1.lt
        go_upto_region 4 with (first | rw [← zero64] | (refine wpList_store_blk rfl 23 (.tmp 6) (.tmp 10) rfl _ 64 (F j) rfl rfl 23 _ ((Blk.new wr 64 23 (fun _ => 0))) Try.size23 ?_; try simp only [Act.put]))
        have lt_B0 := B0.lt
        have lt_B1 := B1.lt
        have lhb := hb.size
        have qB0 : Row ((wr.alloc (.cells (bcells 64 (fun _ => 0)) 23)).setRow (wr.heap.size) (bcells 64 (F j))) (w.heap.size) 83 (fdC p m).toArray := ((B0.alloc (.cells (bcells 64 (fun _ => 0)) 23)).rowOther (by omega))
        have qB1 : Blk ((wr.alloc (.cells (bcells 64 (fun _ => 0)) 23)).setRow (wr.heap.size) (bcells 64 (F j))) (w.heap.size + 1) 512 34 (fl 64 F) := ((B1.alloc (.cells (bcells 64 (fun _ => 0)) 23)).rowOther (by omega))
        have qB2 : Blk ((wr.alloc (.cells (bcells 64 (fun _ => 0)) 23)).setRow (wr.heap.size) (bcells 64 (F j))) (wr.heap.size) 64 23 (F j) := ((Blk.new wr 64 23 (fun _ => 0)).row (F j))
        have qhb : Below w.heap.size w ((wr.alloc (.cells (bcells 64 (fun _ => 0)) 23)).setRow (wr.heap.size) (bcells 64 (F j))) := (below_row (hb.alloc (by have := hb.size; simp; omega) (.cells (bcells 64 (fun _ => 0)) 23)) (by omega) _)
        obtain ⟨W2, hwo⟩ : ∃ v : World, v = ((wr.alloc (.cells (bcells 64 (fun _ => 0)) 23)).setRow (wr.heap.size) (bcells 64 (F j))) := ⟨_, rfl⟩
        rw [← hwo] at qB0 qB1 qB2 qhb ⊢
        clear hwo
        clear B0 B1 hb
        have B0 := qB0
        have B1 := qB1
        have B2 := qB2
        have hb := qhb
        clear qB0 qB1 qB2 qhb
        obtain ⟨N1, hNN⟩ : ∃ n : Nat, n = wr.heap.size := ⟨_, rfl⟩
        rw [← hNN] at lt_B0 lt_B1 lhb B2 ⊢
        clear hNN
        have zN1_0 := lt_B0
        have zN1_1 := lt_B1
        have zN1 := lhb
        clear lt_B0 lt_B1 lhb
        try simp only [Act.put, List.setIfInBounds_toArray, List.set_cons_zero, List.set_cons_succ]
        clear hix
        go_upto_region 6 with (first | (refine wpList_load_rowv rfl 83 (.tmp 2) rfl _ rfl 83 (fdC p m).toArray (B0) _ Try.underlying83 rfl 65 Try.size83 (by simp [fdC_len]) ?_) | (refine wpList_load_any rfl 23 (.tmp 6) rfl _ rfl 64 23 _ (B2) _ Try.underlying23 rfl Try.size23 ?_) | (go_at_call 104; refine (HRJ.out _).mono ?_; rintro e W3 ⟨rfl, hW3⟩; replace B0 := B0.below hW3 B0.lt; replace B1 := B1.below hW3 B1.lt; replace B2 := B2.below hW3 B2.lt; replace hb := (hb).trans (hW3.mono (hb).size)))
        go_wp2_with fail
        go_roundw
        case rel => exact ⟨j + 1, by go_num, by omega, HA, hb, B0, B1⟩
        case measure => simp [intOf] <;> omega
    · have hjI : ¬ (j : Int) < 8 := by omega
      obtain rfl : j = 8 := by omega
      have HV := Lib.hid (HY.out hall.out)
      go_wp2_with fail
      go_ret
      exact ⟨by rw [HV.out]; rfl, hb⟩
set_option maxRecDepth 100000 in
set_option maxHeartbeats 1600000 in
theorem l03Code_any (p : Int) (m : Nat → Nat) (hm : byte m) (Fs : List (Nat → Nat → Nat)) (hF : ∀ F, F ∈ Fs → ∀ i, byte (F i)) (hlen : Fs.length ≤ 8) (bS : Nat) (w : World) (B0 : Row w bS 34 (skL Fs).toArray) :
    Calls Try.prog 95 #[.int .i64 p, .agg (bcells 64 m), .slice (some ⟨bS, 0, none⟩) Fs.length Fs.length] w fun e w' => e = .returned (.int .i64 (ckS p m Fs)) ∧ Below w.heap.size w w' := by
  have HFL := Lib.hid (fun W => l03Field_any p m hm W)
  have HSK := Lib.hid (fun F (h : F ∈ Fs) W => l03Is_any p m F hm (hF F h) W)
  have HNO := Lib.hid (fun (j : Nat) F (hj : Fs[j]? = some F) h => ckS_no (p := p) (m := m) hj h)
  obtain ⟨NL, hNL⟩ : ∃ NL, NL = Fs.length := ⟨_, rfl⟩
  have HNL := Lib.hid hNL
  rw [← hNL] at hlen ⊢
  clear hF hNL
  have zx_0 := B0.lt
  go_enter Try.func95, Try.ntmps95
  go_upto_region 1 with (fail)
  obtain ⟨W1, hwo⟩ : ∃ v : World, v = (w.alloc (.cells (bcells 64 (m)) 23)) := ⟨_, rfl⟩
  have B1 : Blk W1 (w.heap.size) 64 23 (m) := by subst hwo; have := (Blk.new w 64 23 (m)); simpa using this
  replace B0 : Row W1 (bS) 34 (skL Fs).toArray := by subst hwo; exact (B0.alloc (.cells (bcells 64 (m)) 23))
  have hb : Below w.heap.size w W1 := by subst hwo; exact ((Below.refl _ _).alloc (Nat.le_refl _) _)
  rw [← hwo]
  clear hwo
  cases hf : flV p m with
  | false =>
    have HV := Lib.hid (ckS_f (p := p) (m := m) (Fs := Fs) hf)
    go_upto_region 2 with (first | (refine wpList_load_any rfl 23 (.tmp 4) rfl _ rfl 64 23 _ (B1) _ Try.underlying23 rfl Try.size23 ?_) | (go_at_call 92; refine (HFL.out _).mono ?_; rintro e W2 ⟨rfl, hW2⟩; replace B0 := B0.below hW2 B0.lt; replace B1 := B1.below hW2 B1.lt; replace hb := (hb).trans (hW2.mono (hb).size); rw [hf]))
    go_wp2_with fail
    go_ret
    exact ⟨by rw [HV.out]; rfl, hb⟩
  | true =>
    have HYES := Lib.hid (fun h => ckS_yes (p := p) (m := m) (Fs := Fs) hf h)
    go_upto_region 3 with (first | (refine wpList_load_any rfl 23 (.tmp 4) rfl _ rfl 64 23 _ (B1) _ Try.underlying23 rfl Try.size23 ?_) | (go_at_call 92; refine (HFL.out _).mono ?_; rintro e W2 ⟨rfl, hW2⟩; replace B0 := B0.below hW2 B0.lt; replace B1 := B1.below hW2 B1.lt; replace hb := (hb).trans (hW2.mono (hb).size); rw [hf]))
    clear hf HFL
    go_wp2_with fail
    go_loopw [7] (fun c wr => ∃ j : Nat, c = .int .i64 (j : Int) ∧ j ≤ NL ∧ Hid (∀ (i : Nat) (F : Nat → Nat → Nat), i < j → Fs[i]? = some F → skB p m F = true) ∧ Below w.heap.size w wr ∧ Row wr (bS) 34 (skL Fs).toArray ∧ Blk wr (w.heap.size) 64 23 m) (fun c _ => NL - (intOf c).toNat)
    case atStart => exact ⟨0, rfl, Nat.zero_le _, Lib.hid (fun i F hi => absurd hi (Nat.not_lt_zero i)), hb, B0, B1⟩
    case round =>
      clear hb B0 B1
      obtain ⟨j, rfl, hjn, hall, hb, B0, B1⟩ := hrel
      by_cases hj : j < NL
      · have hjI : (j : Int) < (NL : Int) := by omega
        have hj' : j < Fs.length := by rw [← HNL.out]; exact hj
        obtain ⟨F, hF⟩ : ∃ F, Fs[j]? = some F := ⟨_, List.getElem?_eq_getElem hj'⟩
        have HFJ := Lib.hid hF
        have HSF := Lib.hid (HSK.out F (List.mem_of_getElem? hF))
        clear hF hj'
        cases hr : skB p m F with
        | false =>
          rw [hr] at HSF
          have HV := Lib.hid (HNO.out j F HFJ.out hr)
          clear hr
          go_upto_region 6 with (fail)
          have lt_B0 : (bS) < wr.heap.size := B0.lt
          have lt_B1 : (w.heap.size) < wr.heap.size := B1.lt
          have hbase : w.heap.size ≤ wr.heap.size := hb.size
          refine wp_region_steps0 Try.mixed (by kernel_rfl) (by kernel_rfl) (fun v => by (simp only [frL, Act.put, List.setIfInBounds_toArray, List.set_cons_zero, List.set_cons_succ, Nat.reduceAdd, Nat.zero_add]; exact rfl))
            (fun L v W3 => Below w.heap.size w W3 ∧ wr.heap.size ≤ W3.heap.size ∧ Row W3 (bS) 34 (skL Fs).toArray ∧ Blk W3 (w.heap.size) 64 23 (m) ∧ (L 0 = true → v 0 = (.int .i64 p)) ∧ (L 1 = true → v 1 = (.agg (bcells 64 (m)))) ∧ (L 2 = true → v 2 = (.slice (some ⟨bS, 0, none⟩) NL NL)) ∧ (L 3 = true → v 3 = (.int .i64 (j : Int))) ∧ (L 4 = true → v 4 = (.pointer (some ⟨bS, j * 512, none⟩))) ∧ (L 5 = true → v 5 = (.agg (bcells 512 (fl 64 F)))) ∧ (L 6 = true → v 6 = (.bool false)) ∧ (L 7 = true → v 7 = (.bool true))) ?_ ?_ ?_
          · intro v hv0
            exact ⟨hb.drew, Nat.le_refl _, B0.drew, B1.drew, (fun h => by cases h), (fun h => by cases h), (fun h => by cases h), (fun h => by cases h), (fun h => by cases h), (fun h => by cases h), (fun h => by cases h), (fun h => by cases h)⟩
          · refine (.cons rfl ?_ (.cons rfl ?_ (.cons rfl ?_ (.cons rfl ?_ (.cons rfl ?_ (.cons rfl ?_ (.cons rfl ?_ (.cons rfl ?_ (.nil _)))))))))
            · intro L v W3 hd hn ⟨hB, hz, s0, s1, h0, h1, h2, h3, h4, h5, h6, h7⟩ K hK
              go_wp2_with fail
              exact hK _ (.int .i64 p) _ (by simp only [Act.put, List.setIfInBounds_toArray, List.set_cons_zero, List.set_cons_succ ]) ⟨hB, hz, s0, s1, (fun _ => rfl), h1, h2, h3, h4, h5, h6, h7⟩
            · intro L v W3 hd hn ⟨hB, hz, s0, s1, h0, h1, h2, h3, h4, h5, h6, h7⟩ K hK
              refine wp_load_any 23 _ rfl _ rfl 64 23 _ s1 _ Try.underlying23 rfl Try.size23 ?_
              exact hK _ _ _ rfl ⟨hB, hz, s0, s1, h0, (fun _ => rfl), h2, h3, h4, h5, h6, h7⟩
            · intro L v W3 hd hn ⟨hB, hz, s0, s1, h0, h1, h2, h3, h4, h5, h6, h7⟩ K hK
              go_wp2_with fail
              exact hK _ (.slice (some ⟨bS, 0, none⟩) NL NL) _ (by simp only [Act.put, List.setIfInBounds_toArray, List.set_cons_zero, List.set_cons_succ ]) ⟨hB, hz, s0, s1, h0, h1, (fun _ => rfl), h3, h4, h5, h6, h7⟩
            · intro L v W3 hd hn ⟨hB, hz, s0, s1, h0, h1, h2, h3, h4, h5, h6, h7⟩ K hK
              go_wp2_with fail
              exact hK _ (.int .i64 (j : Int)) _ (by simp only [Act.put, List.setIfInBounds_toArray, List.set_cons_zero, List.set_cons_succ ]) ⟨hB, hz, s0, s1, h0, h1, h2, (fun _ => rfl), h4, h5, h6, h7⟩
            · intro L v W3 hd hn ⟨hB, hz, s0, s1, h0, h1, h2, h3, h4, h5, h6, h7⟩ K hK
              have e2 := h2 (hd ⟨2, .data⟩ (by simp) rfl)
              have e3 := h3 (hd ⟨3, .data⟩ (by simp) rfl)
              go_wp2_with fail
              exact hK _ (.pointer (some ⟨bS, j * 512, none⟩)) _ (by simp only [Act.put, List.setIfInBounds_toArray, List.set_cons_zero, List.set_cons_succ, e2, e3]) ⟨hB, hz, s0, s1, h0, h1, h2, h3, (fun _ => rfl), h5, h6, h7⟩
            · intro L v W3 hd hn ⟨hB, hz, s0, s1, h0, h1, h2, h3, h4, h5, h6, h7⟩ K hK
              have e4 := h4 (hd ⟨4, .data⟩ (by simp) rfl)
              refine wp_load_mid 34 _ rfl _ (j * 512) e4 _ _ (s0.skAt HFJ.out) Try.underlying34 rfl (by rw [bl_length]; exact Try.size34) ?_
              exact hK _ _ _ rfl ⟨hB, hz, s0, s1, h0, h1, h2, h3, h4, (fun _ => rfl), h6, h7⟩
            · intro L v W3 hd hn ⟨hB, hz, s0, s1, h0, h1, h2, h3, h4, h5, h6, h7⟩ K hK
              have e0 := h0 (hd ⟨0, .data⟩ (by simp) rfl)
              have e1 := h1 (hd ⟨1, .data⟩ (by simp) rfl)
              have e5 := h5 (hd ⟨5, .data⟩ (by simp) rfl)
              go_wp2_with (go_at_call 93; refine (HSF.out _).mono ?_; rintro e wy ⟨rfl, hy⟩)
              exact hK _ (.bool false) _ (by simp only [Act.put, List.setIfInBounds_toArray, List.set_cons_zero, List.set_cons_succ, e0, e1, e5]) ⟨hB.trans (hy.mono hB.size), (Nat.le_trans hz hy.size), (s0).below hy (s0).lt, (s1).below hy (s1).lt, h0, h1, h2, h3, h4, h5, (fun _ => rfl), h7⟩
            · intro L v W3 hd hn ⟨hB, hz, s0, s1, h0, h1, h2, h3, h4, h5, h6, h7⟩ K hK
              have e6 := h6 (hd ⟨6, .data⟩ (by simp) rfl)
              go_wp2_with fail
              exact hK _ (.bool true) _ (by simp only [Act.put, List.setIfInBounds_toArray, List.set_cons_zero, List.set_cons_succ, e6]) ⟨hB, hz, s0, s1, h0, h1, h2, h3, h4, h5, h6, (fun _ => rfl)⟩
          · intro L v W3 hL ⟨hB, hz, s0, s1, h0, h1, h2, h3, h4, h5, h6, h7⟩
            have e0 := h0 (hL 0 (by decide))
            have e1 := h1 (hL 1 (by decide))
            have e2 := h2 (hL 2 (by decide))
            have e3 := h3 (hL 3 (by decide))
            have e4 := h4 (hL 4 (by decide))
            have e5 := h5 (hL 5 (by decide))
            have e6 := h6 (hL 6 (by decide))
            have e7 := h7 (hL 7 (by decide))
            clear hL h0 h1 h2 h3 h4 h5 h6 h7
            simp only [Exit.then, e0, e1, e2, e3, e4, e5, e6, e7]
            clear e0 e1 e2 e3 e4 e5 e6 e7
            clear B0
            have B0 := s0
            clear s0
            clear B1
            have B1 := s1
            clear s1
            clear hb
            have hb := hB
            clear hB
            clear hbase hz lt_B0 lt_B1
            go_wp2_with fail
            go_ret
            exact ⟨by rw [HV.out]; rfl, hb⟩
        | true =>
          rw [hr] at HSF
          have HA := Lib.hid (show ∀ (i : Nat) (G : Nat → Nat → Nat), i < j + 1 → Fs[i]? = some G → skB p m G = true from fun i G hi hG => by
            by_cases e : i = j
            · subst e; rw [HFJ.out] at hG; injection hG with hG; subst hG; exact hr
            · exact hall.out i G (by omega) hG)
          clear hr
          go_upto_region 6 with (fail)
          have lt_B0 : (bS) < wr.heap.size := B0.lt
          have lt_B1 : (w.heap.size) < wr.heap.size := B1.lt
          have hbase : w.heap.size ≤ wr.heap.size := hb.size
          refine wp_region_steps0 Try.mixed (by kernel_rfl) (by kernel_rfl) (fun v => by (simp only [frL, Act.put, List.setIfInBounds_toArray, List.set_cons_zero, List.set_cons_succ, Nat.reduceAdd, Nat.zero_add]; exact rfl))
            (fun L v W3 => Below w.heap.size w W3 ∧ wr.heap.size ≤ W3.heap.size ∧ Row W3 (bS) 34 (skL Fs).toArray ∧ Blk W3 (w.heap.size) 64 23 (m) ∧ (L 0 = true → v 0 = (.int .i64 p)) ∧ (L 1 = true → v 1 = (.agg (bcells 64 (m)))) ∧ (L 2 = true → v 2 = (.slice (some ⟨bS, 0, none⟩) NL NL)) ∧ (L 3 = true → v 3 = (.int .i64 (j : Int))) ∧ (L 4 = true → v 4 = (.pointer (some ⟨bS, j * 512, none⟩))) ∧ (L 5 = true → v 5 = (.agg (bcells 512 (fl 64 F)))) ∧ (L 6 = true → v 6 = (.bool true)) ∧ (L 7 = true → v 7 = (.bool false))) ?_ ?_ ?_
          · intro v hv0
            exact ⟨hb.drew, Nat.le_refl _, B0.drew, B1.drew, (fun h => by cases h), (fun h => by cases h), (fun h => by cases h), (fun h => by cases h), (fun h => by cases h), (fun h => by cases h), (fun h => by cases h), (fun h => by cases h)⟩
          · refine (.cons rfl ?_ (.cons rfl ?_ (.cons rfl ?_ (.cons rfl ?_ (.cons rfl ?_ (.cons rfl ?_ (.cons rfl ?_ (.cons rfl ?_ (.nil _)))))))))
            · intro L v W3 hd hn ⟨hB, hz, s0, s1, h0, h1, h2, h3, h4, h5, h6, h7⟩ K hK
              go_wp2_with fail
              exact hK _ (.int .i64 p) _ (by simp only [Act.put, List.setIfInBounds_toArray, List.set_cons_zero, List.set_cons_succ ]) ⟨hB, hz, s0, s1, (fun _ => rfl), h1, h2, h3, h4, h5, h6, h7⟩
            · intro L v W3 hd hn ⟨hB, hz, s0, s1, h0, h1, h2, h3, h4, h5, h6, h7⟩ K hK
              refine wp_load_any 23 _ rfl _ rfl 64 23 _ s1 _ Try.underlying23 rfl Try.size23 ?_
              exact hK _ _ _ rfl ⟨hB, hz, s0, s1, h0, (fun _ => rfl), h2, h3, h4, h5, h6, h7⟩
            · intro L v W3 hd hn ⟨hB, hz, s0, s1, h0, h1, h2, h3, h4, h5, h6, h7⟩ K hK
              go_wp2_with fail
              exact hK _ (.slice (some ⟨bS, 0, none⟩) NL NL) _ (by simp only [Act.put, List.setIfInBounds_toArray, List.set_cons_zero, List.set_cons_succ ]) ⟨hB, hz, s0, s1, h0, h1, (fun _ => rfl), h3, h4, h5, h6, h7⟩
            · intro L v W3 hd hn ⟨hB, hz, s0, s1, h0, h1, h2, h3, h4, h5, h6, h7⟩ K hK
              go_wp2_with fail
              exact hK _ (.int .i64 (j : Int)) _ (by simp only [Act.put, List.setIfInBounds_toArray, List.set_cons_zero, List.set_cons_succ ]) ⟨hB, hz, s0, s1, h0, h1, h2, (fun _ => rfl), h4, h5, h6, h7⟩
            · intro L v W3 hd hn ⟨hB, hz, s0, s1, h0, h1, h2, h3, h4, h5, h6, h7⟩ K hK
              have e2 := h2 (hd ⟨2, .data⟩ (by simp) rfl)
              have e3 := h3 (hd ⟨3, .data⟩ (by simp) rfl)
              go_wp2_with fail
              exact hK _ (.pointer (some ⟨bS, j * 512, none⟩)) _ (by simp only [Act.put, List.setIfInBounds_toArray, List.set_cons_zero, List.set_cons_succ, e2, e3]) ⟨hB, hz, s0, s1, h0, h1, h2, h3, (fun _ => rfl), h5, h6, h7⟩
            · intro L v W3 hd hn ⟨hB, hz, s0, s1, h0, h1, h2, h3, h4, h5, h6, h7⟩ K hK
              have e4 := h4 (hd ⟨4, .data⟩ (by simp) rfl)
              refine wp_load_mid 34 _ rfl _ (j * 512) e4 _ _ (s0.skAt HFJ.out) Try.underlying34 rfl (by rw [bl_length]; exact Try.size34) ?_
              exact hK _ _ _ rfl ⟨hB, hz, s0, s1, h0, h1, h2, h3, h4, (fun _ => rfl), h6, h7⟩
            · intro L v W3 hd hn ⟨hB, hz, s0, s1, h0, h1, h2, h3, h4, h5, h6, h7⟩ K hK
              have e0 := h0 (hd ⟨0, .data⟩ (by simp) rfl)
              have e1 := h1 (hd ⟨1, .data⟩ (by simp) rfl)
              have e5 := h5 (hd ⟨5, .data⟩ (by simp) rfl)
              go_wp2_with (go_at_call 93; refine (HSF.out _).mono ?_; rintro e wy ⟨rfl, hy⟩)
              exact hK _ (.bool true) _ (by simp only [Act.put, List.setIfInBounds_toArray, List.set_cons_zero, List.set_cons_succ, e0, e1, e5]) ⟨hB.trans (hy.mono hB.size), (Nat.le_trans hz hy.size), (s0).below hy (s0).lt, (s1).below hy (s1).lt, h0, h1, h2, h3, h4, h5, (fun _ => rfl), h7⟩
            · intro L v W3 hd hn ⟨hB, hz, s0, s1, h0, h1, h2, h3, h4, h5, h6, h7⟩ K hK
              have e6 := h6 (hd ⟨6, .data⟩ (by simp) rfl)
              go_wp2_with fail
              exact hK _ (.bool false) _ (by simp only [Act.put, List.setIfInBounds_toArray, List.set_cons_zero, List.set_cons_succ, e6]) ⟨hB, hz, s0, s1, h0, h1, h2, h3, h4, h5, h6, (fun _ => rfl)⟩
          · intro L v W3 hL ⟨hB, hz, s0, s1, h0, h1, h2, h3, h4, h5, h6, h7⟩
            have e0 := h0 (hL 0 (by decide))
            have e1 := h1 (hL 1 (by decide))
            have e2 := h2 (hL 2 (by decide))
            have e3 := h3 (hL 3 (by decide))
            have e4 := h4 (hL 4 (by decide))
            have e5 := h5 (hL 5 (by decide))
            have e6 := h6 (hL 6 (by decide))
            have e7 := h7 (hL 7 (by decide))
            clear hL h0 h1 h2 h3 h4 h5 h6 h7
            simp only [Exit.then, e0, e1, e2, e3, e4, e5, e6, e7]
            clear e0 e1 e2 e3 e4 e5 e6 e7
            clear B0
            have B0 := s0
            clear s0
            clear B1
            have B1 := s1
            clear s1
            clear hb
            have hb := hB
            clear hB
            clear hbase hz lt_B0 lt_B1
            go_wp2_with fail
            go_roundw
            case rel => exact ⟨j + 1, by go_num, by omega, HA, hb, B0, B1⟩
            case measure => simp [intOf] <;> omega
      · have hjI : ¬ (j : Int) < (NL : Int) := by omega
        have HV := Lib.hid (HYES.out (fun i F hF => hall.out i F (by have := (List.getElem?_eq_some_iff.1 hF).1; have := HNL.out; omega) hF))
        go_wp2_with fail
        go_ret
        exact ⟨by rw [HV.out]; rfl, hb⟩
set_option maxRecDepth 100000 in
set_option maxHeartbeats 1600000 in
theorem checkSkews_any (p : Int) (m : Nat → Nat) (hm : byte m) (Fs : List (Nat → Nat → Nat)) (hF : ∀ F, F ∈ Fs → ∀ i, byte (F i)) (hlen : Fs.length ≤ 8) (bS : Nat) (w : World) (B0 : Row w bS 34 (skL Fs).toArray) :
    Calls Try.prog 94 #[.int .i64 p, .agg (bcells 64 m), .slice (some ⟨bS, 0, none⟩) Fs.length Fs.length] w fun e w' => e = .returned (.int .i64 (ckS p m Fs)) ∧ Below w.heap.size w w' := by
  have HFL := Lib.hid (fun W => impl_IsField_any p m hm W)
  have HSK := Lib.hid (fun F (h : F ∈ Fs) W => isSkew_any p m F hm (hF F h) W)
  have HNO := Lib.hid (fun (j : Nat) F (hj : Fs[j]? = some F) h => ckS_no (p := p) (m := m) hj h)
  obtain ⟨NL, hNL⟩ : ∃ NL, NL = Fs.length := ⟨_, rfl⟩
  have HNL := Lib.hid hNL
  rw [← hNL] at hlen ⊢
  clear hF hNL
  have zx_0 := B0.lt
  go_enter Try.func94, Try.ntmps94
  go_upto_region 1 with (fail)
  obtain ⟨W1, hwo⟩ : ∃ v : World, v = (w.alloc (.cells (bcells 64 (m)) 23)) := ⟨_, rfl⟩
  have B1 : Blk W1 (w.heap.size) 64 23 (m) := by subst hwo; have := (Blk.new w 64 23 (m)); simpa using this
  replace B0 : Row W1 (bS) 34 (skL Fs).toArray := by subst hwo; exact (B0.alloc (.cells (bcells 64 (m)) 23))
  have hb : Below w.heap.size w W1 := by subst hwo; exact ((Below.refl _ _).alloc (Nat.le_refl _) _)
  rw [← hwo]
  clear hwo
  cases hf : flV p m with
  | false =>
    have HV := Lib.hid (ckS_f (p := p) (m := m) (Fs := Fs) hf)
    have lt_B0 := B0.lt
    have lt_B1 := B1.lt
    go_upto_region 2 with (first | rw [← zero64] | rw [← fdC_zero] | (refine wpList_load_any rfl 23 (.tmp 4) rfl _ rfl 64 23 _ (B1) _ Try.underlying23 rfl Try.size23 ?_) | (refine wpList_build_of rfl 83 _ rfl (fdC p m).toArray (by rw [Array.toList_map]; exact built_fd p m) ?_) | (refine wpList_store_rowv rfl 83 (.tmp 7) (.tmp 12) rfl _ rfl (fdC p m).toArray rfl 83 _ ((Row.new W1 83 (fdC 0 (fun _ => 0)).toArray)) 65 Try.size83 (by simp [fdC_len]) (by simp [fdC_len]) (fdC_all _ _) ?_; try simp only [Act.put]))
    have lt_B0 := B0.lt
    have lt_B1 := B1.lt
    have lhb := hb.size
    have qB0 : Row ((W1.alloc (.cells (fdC 0 (fun _ => 0)).toArray 83)).setRow (W1.heap.size) (fdC p m).toArray) (bS) 34 (skL Fs).toArray := ((B0.alloc (.cells (fdC 0 (fun _ => 0)).toArray 83)).rowOther (by omega))
    have qB1 : Blk ((W1.alloc (.cells (fdC 0 (fun _ => 0)).toArray 83)).setRow (W1.heap.size) (fdC p m).toArray) (w.heap.size) 64 23 (m) := ((B1.alloc (.cells (fdC 0 (fun _ => 0)).toArray 83)).rowOther (by omega))
    have qB2 : Row ((W1.alloc (.cells (fdC 0 (fun _ => 0)).toArray 83)).setRow (W1.heap.size) (fdC p m).toArray) (W1.heap.size) 83 (fdC p m).toArray := ((Row.new W1 83 (fdC 0 (fun _ => 0)).toArray).row (fdC p m).toArray)
    have qhb : Below w.heap.size w ((W1.alloc (.cells (fdC 0 (fun _ => 0)).toArray 83)).setRow (W1.heap.size) (fdC p m).toArray) := (below_row (hb.alloc (by have := hb.size; simp; omega) (.cells (fdC 0 (fun _ => 0)).toArray 83)) (by omega) _)
    obtain ⟨W2, hwo⟩ : ∃ v : World, v = ((W1.alloc (.cells (fdC 0 (fun _ => 0)).toArray 83)).setRow (W1.heap.size) (fdC p m).toArray) := ⟨_, rfl⟩
    rw [← hwo] at qB0 qB1 qB2 qhb ⊢
    clear hwo
    clear B0 B1 hb
    have B0 := qB0
    have B1 := qB1
    have B2 := qB2
    have hb := qhb
    clear qB0 qB1 qB2 qhb
    obtain ⟨N1, hNN⟩ : ∃ n : Nat, n = W1.heap.size := ⟨_, rfl⟩
    rw [← hNN] at lt_B0 lt_B1 lhb B2 ⊢
    clear hNN
    have zN1_0 := lt_B0
    have zN1_1 := lt_B1
    have zN1 := lhb
    clear lt_B0 lt_B1 lhb
    try simp only [Act.put, List.setIfInBounds_toArray, List.set_cons_zero, List.set_cons_succ]
    go_upto_region 3 with (first | (refine wpList_load_any rfl 23 (.tmp 4) rfl _ rfl 64 23 _ (B1) _ Try.underlying23 rfl Try.size23 ?_) | (go_at_call 160; refine (HFL.out _).mono ?_; rintro e W3 ⟨rfl, hW3⟩; replace B0 := B0.below hW3 B0.lt; replace B1 := B1.below hW3 B1.lt; replace B2 := B2.below hW3 B2.lt; replace hb := (hb).trans (hW3.mono (hb).size); rw [hf]))
    go_wp2_with fail
    go_ret
    exact ⟨by rw [HV.out]; rfl, hb⟩
  | true =>
    have HYES := Lib.hid (fun h => ckS_yes (p := p) (m := m) (Fs := Fs) hf h)
    have lt_B0 := B0.lt
    have lt_B1 := B1.lt
    go_upto_region 2 with (first | rw [← zero64] | rw [← fdC_zero] | (refine wpList_load_any rfl 23 (.tmp 4) rfl _ rfl 64 23 _ (B1) _ Try.underlying23 rfl Try.size23 ?_) | (refine wpList_build_of rfl 83 _ rfl (fdC p m).toArray (by rw [Array.toList_map]; exact built_fd p m) ?_) | (refine wpList_store_rowv rfl 83 (.tmp 7) (.tmp 12) rfl _ rfl (fdC p m).toArray rfl 83 _ ((Row.new W1 83 (fdC 0 (fun _ => 0)).toArray)) 65 Try.size83 (by simp [fdC_len]) (by simp [fdC_len]) (fdC_all _ _) ?_; try simp only [Act.put]))
    have lt_B0 := B0.lt
    have lt_B1 := B1.lt
    have lhb := hb.size
    have qB0 : Row ((W1.alloc (.cells (fdC 0 (fun _ => 0)).toArray 83)).setRow (W1.heap.size) (fdC p m).toArray) (bS) 34 (skL Fs).toArray := ((B0.alloc (.cells (fdC 0 (fun _ => 0)).toArray 83)).rowOther (by omega))
    have qB1 : Blk ((W1.alloc (.cells (fdC 0 (fun _ => 0)).toArray 83)).setRow (W1.heap.size) (fdC p m).toArray) (w.heap.size) 64 23 (m) := ((B1.alloc (.cells (fdC 0 (fun _ => 0)).toArray 83)).rowOther (by omega))
    have qB2 : Row ((W1.alloc (.cells (fdC 0 (fun _ => 0)).toArray 83)).setRow (W1.heap.size) (fdC p m).toArray) (W1.heap.size) 83 (fdC p m).toArray := ((Row.new W1 83 (fdC 0 (fun _ => 0)).toArray).row (fdC p m).toArray)
    have qhb : Below w.heap.size w ((W1.alloc (.cells (fdC 0 (fun _ => 0)).toArray 83)).setRow (W1.heap.size) (fdC p m).toArray) := (below_row (hb.alloc (by have := hb.size; simp; omega) (.cells (fdC 0 (fun _ => 0)).toArray 83)) (by omega) _)
    obtain ⟨W2, hwo⟩ : ∃ v : World, v = ((W1.alloc (.cells (fdC 0 (fun _ => 0)).toArray 83)).setRow (W1.heap.size) (fdC p m).toArray) := ⟨_, rfl⟩
    rw [← hwo] at qB0 qB1 qB2 qhb ⊢
    clear hwo
    clear B0 B1 hb
    have B0 := qB0
    have B1 := qB1
    have B2 := qB2
    have hb := qhb
    clear qB0 qB1 qB2 qhb
    obtain ⟨N1, hNN⟩ : ∃ n : Nat, n = W1.heap.size := ⟨_, rfl⟩
    rw [← hNN] at lt_B0 lt_B1 lhb B2 ⊢
    clear hNN
    have zN1_0 := lt_B0
    have zN1_1 := lt_B1
    have zN1 := lhb
    clear lt_B0 lt_B1 lhb
    try simp only [Act.put, List.setIfInBounds_toArray, List.set_cons_zero, List.set_cons_succ]
    go_upto_region 4 with (first | (refine wpList_load_any rfl 23 (.tmp 4) rfl _ rfl 64 23 _ (B1) _ Try.underlying23 rfl Try.size23 ?_) | (go_at_call 160; refine (HFL.out _).mono ?_; rintro e W3 ⟨rfl, hW3⟩; replace B0 := B0.below hW3 B0.lt; replace B1 := B1.below hW3 B1.lt; replace B2 := B2.below hW3 B2.lt; replace hb := (hb).trans (hW3.mono (hb).size); rw [hf]))
    clear hf HFL
    go_wp2_with fail
    go_loopw [19] (fun c wr => ∃ j : Nat, c = .int .i64 (j : Int) ∧ j ≤ NL ∧ Hid (∀ (i : Nat) (F : Nat → Nat → Nat), i < j → Fs[i]? = some F → skB p m F = true) ∧ Below w.heap.size w wr ∧ Row wr (bS) 34 (skL Fs).toArray ∧ Blk wr (w.heap.size) 64 23 m ∧ Row wr (N1) 83 (fdC p m).toArray) (fun c _ => NL - (intOf c).toNat)
    case atStart => exact ⟨0, rfl, Nat.zero_le _, Lib.hid (fun i F hi => absurd hi (Nat.not_lt_zero i)), hb, B0, B1, B2⟩
    case round =>
      clear hb B0 B1 B2
      obtain ⟨j, rfl, hjn, hall, hb, B0, B1, B2⟩ := hrel
      by_cases hj : j < NL
      · have hjI : (j : Int) < (NL : Int) := by omega
        have hj' : j < Fs.length := by rw [← HNL.out]; exact hj
        obtain ⟨F, hF⟩ : ∃ F, Fs[j]? = some F := ⟨_, List.getElem?_eq_getElem hj'⟩
        have HFJ := Lib.hid hF
        have HSF := Lib.hid (HSK.out F (List.mem_of_getElem? hF))
        clear hF hj'
        cases hr : skB p m F with
        | false =>
          rw [hr] at HSF
          have HV := Lib.hid (HNO.out j F HFJ.out hr)
          clear hr
          go_upto_region 6 with (fail)
          have lt_B0 := B0.lt
          have lt_B1 := B1.lt
          have lt_B2 := B2.lt
          go_upto_region 7 with (first | rw [← zero64] | rw [← zero512] | (refine wpList_load_mid rfl 34 (.tmp 21) rfl _ (j * 512) rfl (bl 512 (fl 64 F)) _ (B0.skAt HFJ.out) Try.underlying34 rfl (by rw [bl_length]; exact Try.size34) ?_) | (refine wpList_store_blk rfl 34 (.tmp 9) (.tmp 22) rfl _ 512 (fl 64 F) rfl rfl 34 _ ((Blk.new wr 512 34 (fl 64 (fun _ _ => 0)))) Try.size34 ?_; try simp only [Act.put]))
          have lt_B0 := B0.lt
          have lt_B1 := B1.lt
          have lt_B2 := B2.lt
          have lhb := hb.size
          have qB0 : Row ((wr.alloc (.cells (bcells 512 (fl 64 (fun _ _ => 0))) 34)).setRow (wr.heap.size) (bcells 512 (fl 64 F))) (bS) 34 (skL Fs).toArray := ((B0.alloc (.cells (bcells 512 (fl 64 (fun _ _ => 0))) 34)).rowOther (by omega))
          have qB1 : Blk ((wr.alloc (.cells (bcells 512 (fl 64 (fun _ _ => 0))) 34)).setRow (wr.heap.size) (bcells 512 (fl 64 F))) (w.heap.size) 64 23 (m) := ((B1.alloc (.cells (bcells 512 (fl 64 (fun _ _ => 0))) 34)).rowOther (by omega))
          have qB2 : Row ((wr.alloc (.cells (bcells 512 (fl 64 (fun _ _ => 0))) 34)).setRow (wr.heap.size) (bcells 512 (fl 64 F))) (N1) 83 (fdC p m).toArray := ((B2.alloc (.cells (bcells 512 (fl 64 (fun _ _ => 0))) 34)).rowOther (by omega))
          have qB3 : Blk ((wr.alloc (.cells (bcells 512 (fl 64 (fun _ _ => 0))) 34)).setRow (wr.heap.size) (bcells 512 (fl 64 F))) (wr.heap.size) 512 34 (fl 64 F) := ((Blk.new wr 512 34 (fl 64 (fun _ _ => 0))).row (fl 64 F))
          have qhb : Below w.heap.size w ((wr.alloc (.cells (bcells 512 (fl 64 (fun _ _ => 0))) 34)).setRow (wr.heap.size) (bcells 512 (fl 64 F))) := (below_row (hb.alloc (by have := hb.size; simp; omega) (.cells (bcells 512 (fl 64 (fun _ _ => 0))) 34)) (by omega) _)
          obtain ⟨W4, hwo⟩ : ∃ v : World, v = ((wr.alloc (.cells (bcells 512 (fl 64 (fun _ _ => 0))) 34)).setRow (wr.heap.size) (bcells 512 (fl 64 F))) := ⟨_, rfl⟩
          rw [← hwo] at qB0 qB1 qB2 qB3 qhb ⊢
          clear hwo
          clear B0 B1 B2 hb
          have B0 := qB0
          have B1 := qB1
          have B2 := qB2
          have B3 := qB3
          have hb := qhb
          clear qB0 qB1 qB2 qB3 qhb
          obtain ⟨N2, hNN⟩ : ∃ n : Nat, n = wr.heap.size := ⟨_, rfl⟩
          rw [← hNN] at lt_B0 lt_B1 lt_B2 lhb B3 ⊢
          clear hNN
          have zN2_0 := lt_B0
          have zN2_1 := lt_B1
          have zN2_2 := lt_B2
          have zN2 := lhb
          clear lt_B0 lt_B1 lt_B2 lhb
          try simp only [Act.put, List.setIfInBounds_toArray, List.set_cons_zero, List.set_cons_succ]
          go_upto_region 8 with (first | (refine wpList_load_rowv rfl 83 (.tmp 7) rfl _ rfl 83 (fdC p m).toArray (B2) _ Try.underlying83 rfl 65 Try.size83 (by simp [fdC_len]) ?_) | (refine wpList_load_any rfl 34 (.tmp 9) rfl _ rfl 512 34 _ (B3) _ Try.underlying34 rfl Try.size34 ?_) | (go_at_call 161; refine (HSF.out _).mono ?_; rintro e W5 ⟨rfl, hW5⟩; replace B0 := B0.below hW5 B0.lt; replace B1 := B1.below hW5 B1.lt; replace B2 := B2.below hW5 B2.lt; replace B3 := B3.below hW5 B3.lt; replace hb := (hb).trans (hW5.mono (hb).size)))
          go_wp2_with fail
          go_ret
          exact ⟨by rw [HV.out]; rfl, hb⟩
        | true =>
          rw [hr] at HSF
          have HA := Lib.hid (show ∀ (i : Nat) (G : Nat → Nat → Nat), i < j + 1 → Fs[i]? = some G → skB p m G = true from fun i G hi hG => by
            by_cases e : i = j
            · subst e; rw [HFJ.out] at hG; injection hG with hG; subst hG; exact hr
            · exact hall.out i G (by omega) hG)
          clear hr
          go_upto_region 6 with (fail)
          have lt_B0 := B0.lt
          have lt_B1 := B1.lt
          have lt_B2 := B2.lt
          go_upto_region 7 with (first | rw [← zero64] | rw [← zero512] | (refine wpList_load_mid rfl 34 (.tmp 21) rfl _ (j * 512) rfl (bl 512 (fl 64 F)) _ (B0.skAt HFJ.out) Try.underlying34 rfl (by rw [bl_length]; exact Try.size34) ?_) | (refine wpList_store_blk rfl 34 (.tmp 9) (.tmp 22) rfl _ 512 (fl 64 F) rfl rfl 34 _ ((Blk.new wr 512 34 (fl 64 (fun _ _ => 0)))) Try.size34 ?_; try simp only [Act.put]))
          have lt_B0 := B0.lt
          have lt_B1 := B1.lt
          have lt_B2 := B2.lt
          have lhb := hb.size
          have qB0 : Row ((wr.alloc (.cells (bcells 512 (fl 64 (fun _ _ => 0))) 34)).setRow (wr.heap.size) (bcells 512 (fl 64 F))) (bS) 34 (skL Fs).toArray := ((B0.alloc (.cells (bcells 512 (fl 64 (fun _ _ => 0))) 34)).rowOther (by omega))
          have qB1 : Blk ((wr.alloc (.cells (bcells 512 (fl 64 (fun _ _ => 0))) 34)).setRow (wr.heap.size) (bcells 512 (fl 64 F))) (w.heap.size) 64 23 (m) := ((B1.alloc (.cells (bcells 512 (fl 64 (fun _ _ => 0))) 34)).rowOther (by omega))
          have qB2 : Row ((wr.alloc (.cells (bcells 512 (fl 64 (fun _ _ => 0))) 34)).setRow (wr.heap.size) (bcells 512 (fl 64 F))) (N1) 83 (fdC p m).toArray := ((B2.alloc (.cells (bcells 512 (fl 64 (fun _ _ => 0))) 34)).rowOther (by omega))
          have qB3 : Blk ((wr.alloc (.cells (bcells 512 (fl 64 (fun _ _ => 0))) 34)).setRow (wr.heap.size) (bcells 512 (fl 64 F))) (wr.heap.size) 512 34 (fl 64 F) := ((Blk.new wr 512 34 (fl 64 (fun _ _ => 0))).row (fl 64 F))
          have qhb : Below w.heap.size w ((wr.alloc (.cells (bcells 512 (fl 64 (fun _ _ => 0))) 34)).setRow (wr.heap.size) (bcells 512 (fl 64 F))) := (below_row (hb.alloc (by have := hb.size; simp; omega) (.cells (bcells 512 (fl 64 (fun _ _ => 0))) 34)) (by omega) _)
          obtain ⟨W4, hwo⟩ : ∃ v : World, v = ((wr.alloc (.cells (bcells 512 (fl 64 (fun _ _ => 0))) 34)).setRow (wr.heap.size) (bcells 512 (fl 64 F))) := ⟨_, rfl⟩
          rw [← hwo] at qB0 qB1 qB2 qB3 qhb ⊢
          clear hwo
          clear B0 B1 B2 hb
          have B0 := qB0
          have B1 := qB1
          have B2 := qB2
          have B3 := qB3
          have hb := qhb
          clear qB0 qB1 qB2 qB3 qhb
          obtain ⟨N2, hNN⟩ : ∃ n : Nat, n = wr.heap.size := ⟨_, rfl⟩
          rw [← hNN] at lt_B0 lt_B1 lt_B2 lhb B3 ⊢
          clear hNN
          have zN2_0 := lt_B0
          have zN2_1 := lt_B1
          have zN2_2 := lt_B2
          have zN2 := lhb
          clear lt_B0 lt_B1 lt_B2 lhb
          try simp only [Act.put, List.setIfInBounds_toArray, List.set_cons_zero, List.set_cons_succ]
          go_upto_region 9 with (first | (refine wpList_load_rowv rfl 83 (.tmp 7) rfl _ rfl 83 (fdC p m).toArray (B2) _ Try.underlying83 rfl 65 Try.size83 (by simp [fdC_len]) ?_) | (refine wpList_load_any rfl 34 (.tmp 9) rfl _ rfl 512 34 _ (B3) _ Try.underlying34 rfl Try.size34 ?_) | (go_at_call 161; refine (HSF.out _).mono ?_; rintro e W5 ⟨rfl, hW5⟩; replace B0 := B0.below hW5 B0.lt; replace B1 := B1.below hW5 B1.lt; replace B2 := B2.below hW5 B2.lt; replace B3 := B3.below hW5 B3.lt; replace hb := (hb).trans (hW5.mono (hb).size)))
          go_wp2_with fail
          go_roundw
          case rel => exact ⟨j + 1, by go_num, by omega, HA, hb, B0, B1, B2⟩
          case measure => simp [intOf] <;> omega
      · have hjI : ¬ (j : Int) < (NL : Int) := by omega
        have HV := Lib.hid (HYES.out (fun i F hF => hall.out i F (by have := (List.getElem?_eq_some_iff.1 hF).1; have := HNL.out; omega) hF))
        go_wp2_with fail
        go_ret
        exact ⟨by rw [HV.out]; rfl, hb⟩
end Go.Proofs.Ytbjpkmbhbpcbgaa
end
section
namespace Go.Proofs.Ytbjpkmbhbpcbgaa
open Go Go.RowKit
set_option linter.unusedVariables false
set_option linter.unusedSimpArgs false
attribute [local irreducible] deg addK okA flV skA
theorem ckS_fld {p : Int} {m : Nat → Nat} {Fs : List (Nat → Nat → Nat)} (h : ckS p m Fs = 0) : ∃ n : Nat, p = (n : Int) ∧ (n = 2 ∨ n = 3 ∨ n = 5 ∨ n = 7) ∧ (∀ k, k < 64 → m k < n) ∧ (∃ d, mon m d ∧ 1 ≤ d ∧ d ≤ 4) ∧ ∀ F, F ∈ Fs → ∀ i, i < 8 → (∀ j, j < 64 → F i j < n) ∧ deg (F i) < deg m := by
  obtain ⟨h1, h2⟩ := ckS_zero h
  have ho : okA p m = true := by
    cases ho : okA p m with
    | true => rfl
    | false => rw [flV_1 ho] at h1; cases h1
  have hm : monUp 4 m = true := by
    cases hm : monUp 4 m with
    | true => rfl
    | false => rw [flV_2 hm] at h1; cases h1
  obtain ⟨n, hn, hpr, hl⟩ := okA_nat ho
  obtain ⟨d, a1, a2, a3⟩ := mon_up hm
  refine ⟨n, hn, hpr, hl, ⟨d, a1, a2, by omega⟩, fun F hF i hi => ?_⟩
  have h3 := skB_at (h2 F hF) hi
  by_cases ho2 : okA p (F i) = true
  · refine ⟨fun j hj => ?_, ?_⟩
    · have := okA_lt ho2 hj; omega
    · by_cases hd : deg (F i) < deg m
      · exact hd
      · rw [rsB_3 ho2 hd] at h3; cases h3
  · rw [rsB_1 (by simpa using ho2)] at h3; cases h3
noncomputable def isV (p : Int) (m : Nat → Nat) (F : Nat → Nat → Nat) : Bool := decide (ckS p m [F] = 0)
noncomputable def sdV (p : Int) (m : Nat → Nat) (F : Nat → Nat → Nat) : Int × Int := if ckS p m [F] = 0 then (skD F, 0) else (0, 1)
noncomputable def asV (p : Int) (m : Nat → Nat) (F G : Nat → Nat → Nat) : (Nat → Nat → Nat) × Int := if ckS p m [F, G] = 0 then (skA p.toNat F G 1, 0) else (fun _ _ => 0, 1)
theorem isV_0 {p : Int} {m : Nat → Nat} {F : Nat → Nat → Nat} (h : ckS p m [F] = 0) : isV p m F = true := by unfold isV; simp [h]
theorem isV_1 {p : Int} {m : Nat → Nat} {F : Nat → Nat → Nat} (h : ckS p m [F] = 1) : isV p m F = false := by unfold isV; simp [h]
theorem isV_f {p : Int} {m : Nat → Nat} {F : Nat → Nat → Nat} (h : flV p m = false) : isV p m F = false := isV_1 (ckS_f h)
theorem isV_s {p : Int} {m : Nat → Nat} {F : Nat → Nat → Nat} (h : flV p m = true) : isV p m F = skB p m F := by
  cases h2 : skB p m F with
  | false => exact isV_1 (ckS_no (j := 0) rfl h2)
  | true => exact isV_0 (ckS_yes h (fun i G hG => by
      have : G = F := by
        match i, hG with
        | 0, hG => injection hG with hG; exact hG.symm
      rw [this]; exact h2))
theorem sdV_0 {p : Int} {m : Nat → Nat} {F : Nat → Nat → Nat} (h : ckS p m [F] = 0) : sdV p m F = (skD F, 0) := if_pos h
theorem sdV_1 {p : Int} {m : Nat → Nat} {F : Nat → Nat → Nat} (h : ckS p m [F] = 1) : sdV p m F = (0, 1) := if_neg (by omega)
theorem asV_0 {n : Nat} {m : Nat → Nat} {F G : Nat → Nat → Nat} (h : ckS (n : Int) m [F, G] = 0) : asV (n : Int) m F G = (skA n F G 1, 0) := if_pos h
theorem asV_1 {p : Int} {m : Nat → Nat} {F G : Nat → Nat → Nat} (h : ckS p m [F, G] = 1) : asV p m F G = (fun _ _ => 0, 1) := if_neg (by omega)
attribute [irreducible] isV sdV asV
set_option maxRecDepth 100000 in
set_option maxHeartbeats 1600000 in
theorem spec_IsSkew_any (p : Int) (m : Nat → Nat) (F : Nat → Nat → Nat) (hm : byte m) (hF : ∀ i, byte (F i)) (w : World) :
    Calls Try.prog 29 #[.int .i64 p, .agg (bcells 64 m), .agg (bcells 512 (fl 64 F))] w fun e w' => e = .returned (.bool (isV p m F)) ∧ Below w.heap.size w w' := by
  go_enter Try.func29, Try.ntmps29
  go_upto_region 1 with (fail)
  obtain ⟨W1, hwo⟩ : ∃ v : World, v = ((w.alloc (.cells (bcells 64 (m)) 23)).alloc (.cells (bcells 512 (fl 64 F)) 34)) := ⟨_, rfl⟩
  have B0 : Blk W1 (w.heap.size) 64 23 (m) := by subst hwo; have := ((Blk.new w 64 23 (m)).alloc (.cells (bcells 512 (fl 64 F)) 34)); simpa using this
  have B1 : Blk W1 (w.heap.size + 1) 512 34 (fl 64 F) := by subst hwo; have := (Blk.new (w.alloc (.cells (bcells 64 (m)) 23)) 512 34 (fl 64 F)); simpa using this
  have hb : Below w.heap.size w W1 := by subst hwo; exact (((Below.refl _ _).alloc (Nat.le_refl _) _).alloc (by simp) _)
  rw [← hwo]
  clear hwo
  have HFL := Lib.hid (fun W => l03Field_any p m hm W)
  have HSK := Lib.hid (fun W => l03Is_any p m F hm hF W)
  cases hf : flV p m with
  | false =>
    have HV := Lib.hid (isV_f (p := p) (m := m) (F := F) hf)
    go_wp2_with (first | (refine wpList_load_any rfl 23 (.tmp 4) rfl _ rfl 64 23 _ (B0) _ Try.underlying23 rfl Try.size23 ?_) | (go_at_call 92; refine (HFL.out _).mono ?_; rintro e W2 ⟨rfl, hW2⟩; replace B0 := B0.below hW2 B0.lt; replace B1 := B1.below hW2 B1.lt; replace hb := (hb).trans (hW2.mono (hb).size); rw [hf]))
    go_ret
    exact ⟨by rw [HV.out]; rfl, hb⟩
  | true =>
    have HV := Lib.hid (isV_s (p := p) (m := m) (F := F) hf)
    go_wp2_with (first | (refine wpList_load_any rfl 23 (.tmp 4) rfl _ rfl 64 23 _ (B0) _ Try.underlying23 rfl Try.size23 ?_) | (go_at_call 92; refine (HFL.out _).mono ?_; rintro e W2 ⟨rfl, hW2⟩; replace B0 := B0.below hW2 B0.lt; replace B1 := B1.below hW2 B1.lt; replace hb := (hb).trans (hW2.mono (hb).size); rw [hf]) | (refine wpList_load_any_g rfl 23 (.tmp 4) rfl _ rfl 64 23 _ (B0) _ Try.underlying23 rfl Try.size23 ?_) | (refine wpList_load_any_g rfl 34 (.tmp 5) rfl _ rfl 512 34 _ (B1) _ Try.underlying34 rfl Try.size34 ?_) | (go_at_call 93; refine (HSK.out _).mono ?_; rintro e W3 ⟨rfl, hW3⟩; replace B0 := B0.below hW3 B0.lt; replace B1 := B1.below hW3 B1.lt; replace hb := (hb).trans (hW3.mono (hb).size)))
    go_ret
    exact ⟨by rw [HV.out]; rfl, hb⟩
set_option maxRecDepth 100000 in
set_option maxHeartbeats 1600000 in
theorem impl_IsSkew_any (p : Int) (m : Nat → Nat) (F : Nat → Nat → Nat) (hm : byte m) (hF : ∀ i, byte (F i)) (w : World) :
    Calls Try.prog 31 #[.int .i64 p, .agg (bcells 64 m), .agg (bcells 512 (fl 64 F))] w fun e w' => e = .returned (.bool (isV p m F)) ∧ Below w.heap.size w w' := by
  go_enter Try.func31, Try.ntmps31
  go_upto_region 1 with (fail)
  obtain ⟨W1, hwo⟩ : ∃ v : World, v = ((w.alloc (.cells (bcells 64 (m)) 23)).alloc (.cells (bcells 512 (fl 64 F)) 34)) := ⟨_, rfl⟩
  have B0 : Blk W1 (w.heap.size) 64 23 (m) := by subst hwo; have := ((Blk.new w 64 23 (m)).alloc (.cells (bcells 512 (fl 64 F)) 34)); simpa using this
  have B1 : Blk W1 (w.heap.size + 1) 512 34 (fl 64 F) := by subst hwo; have := (Blk.new (w.alloc (.cells (bcells 64 (m)) 23)) 512 34 (fl 64 F)); simpa using this
  have hb : Below w.heap.size w W1 := by subst hwo; exact (((Below.refl _ _).alloc (Nat.le_refl _) _).alloc (by simp) _)
  rw [← hwo]
  clear hwo
  rcases ckS_two p m [F] with hc | hc
  · have HV := Lib.hid (isV_0 hc)
    go_wp2_with (first | (refine wpList_load_any rfl 23 (.tmp 4) rfl _ rfl 64 23 _ B0 _ Try.underlying23 rfl Try.size23 ?_) | (refine wpList_load_any rfl 34 (.tmp 5) rfl _ rfl 512 34 _ B1 _ Try.underlying34 rfl Try.size34 ?_) | (refine wpList_build_sks rfl 127 _ [F] rfl 34 Try.underlying127 Try.elem34 (by simp) (by simp) rfl ?_; intro wa hps hba) | (go_at_call 94; refine (checkSkews_any p m hm [F] (by simp [hF]) (by simp) _ _ hps).mono ?_; rintro e W2 ⟨rfl, hbb⟩; rw [hc]))
    go_ret
    exact ⟨by rw [HV.out]; rfl, hb.trans ((hba.trans (hbb.mono hba.size)).mono hb.size)⟩
  · have HV := Lib.hid (isV_1 hc)
    go_wp2_with (first | (refine wpList_load_any rfl 23 (.tmp 4) rfl _ rfl 64 23 _ B0 _ Try.underlying23 rfl Try.size23 ?_) | (refine wpList_load_any rfl 34 (.tmp 5) rfl _ rfl 512 34 _ B1 _ Try.underlying34 rfl Try.size34 ?_) | (refine wpList_build_sks rfl 127 _ [F] rfl 34 Try.underlying127 Try.elem34 (by simp) (by simp) rfl ?_; intro wa hps hba) | (go_at_call 94; refine (checkSkews_any p m hm [F] (by simp [hF]) (by simp) _ _ hps).mono ?_; rintro e W2 ⟨rfl, hbb⟩; rw [hc]))
    go_ret
    exact ⟨by rw [HV.out]; rfl, hb.trans ((hba.trans (hbb.mono hba.size)).mono hb.size)⟩
set_option maxRecDepth 100000 in
set_option maxHeartbeats 1600000 in
theorem spec_SkewDegree_any (p : Int) (m : Nat → Nat) (F : Nat → Nat → Nat) (hm : byte m) (hF : ∀ i, byte (F i)) (w : World) :
    Calls Try.prog 32 #[.int .i64 p, .agg (bcells 64 m), .agg (bcells 512 (fl 64 F))] w fun e w' => e = .returned (.tuple #[.int .i64 (sdV p m F).1, .int .i64 (sdV p m F).2]) ∧ Below w.heap.size w w' := by
  go_enter Try.func32, Try.ntmps32
  go_upto_region 1 with (fail)
  obtain ⟨W1, hwo⟩ : ∃ v : World, v = ((w.alloc (.cells (bcells 64 (m)) 23)).alloc (.cells (bcells 512 (fl 64 F)) 34)) := ⟨_, rfl⟩
  have B0 : Blk W1 (w.heap.size) 64 23 (m) := by subst hwo; have := ((Blk.new w 64 23 (m)).alloc (.cells (bcells 512 (fl 64 F)) 34)); simpa using this
  have B1 : Blk W1 (w.heap.size + 1) 512 34 (fl 64 F) := by subst hwo; have := (Blk.new (w.alloc (.cells (bcells 64 (m)) 23)) 512 34 (fl 64 F)); simpa using this
  have hb : Below w.heap.size w W1 := by subst hwo; exact (((Below.refl _ _).alloc (Nat.le_refl _) _).alloc (by simp) _)
  rw [← hwo]
  clear hwo
  rcases ckS_two p m [F] with hc | hc
  · have HV := Lib.hid (sdV_0 hc)
    go_upto_region 4 with (first | (refine wpList_load_any rfl 23 (.tmp 4) rfl _ rfl 64 23 _ B0 _ Try.underlying23 rfl Try.size23 ?_) | (refine wpList_load_any rfl 34 (.tmp 5) rfl _ rfl 512 34 _ B1 _ Try.underlying34 rfl Try.size34 ?_) | (refine wpList_build_sks rfl 127 _ [F] rfl 34 Try.underlying127 Try.elem34 (by simp) (by simp) rfl ?_; intro wa hps hba) | (go_at_call 95; refine (l03Code_any _ m hm [F] (by simp [hF]) (by simp) _ _ hps).mono ?_; rintro e W2 ⟨rfl, hbb⟩; rw [hc]))
    have hBB : Below W1.heap.size W1 W2 := hba.trans (hbb.mono hba.size)
    replace B0 := B0.below hBB B0.lt
    replace B1 := B1.below hBB B1.lt
    replace hb := hb.trans (hBB.mono hb.size)
    clear hBB hba hbb hps
    clear hc
    go_wp2_with (first | (refine wpList_load_any rfl 34 (.tmp 5) rfl _ rfl 512 34 _ (B1) _ Try.underlying34 rfl Try.size34 ?_) | (go_at_call 96; refine (l03Deg_any F _).mono ?_; rintro e W3 ⟨rfl, hW3⟩; replace B0 := B0.below hW3 B0.lt; replace B1 := B1.below hW3 B1.lt; replace hb := (hb).trans (hW3.mono (hb).size)))
    go_ret2
    exact ⟨by rw [HV.out]; rfl, hb⟩
  · have HV := Lib.hid (sdV_1 hc)
    go_upto_region 3 with (first | (refine wpList_load_any rfl 23 (.tmp 4) rfl _ rfl 64 23 _ B0 _ Try.underlying23 rfl Try.size23 ?_) | (refine wpList_load_any rfl 34 (.tmp 5) rfl _ rfl 512 34 _ B1 _ Try.underlying34 rfl Try.size34 ?_) | (refine wpList_build_sks rfl 127 _ [F] rfl 34 Try.underlying127 Try.elem34 (by simp) (by simp) rfl ?_; intro wa hps hba) | (go_at_call 95; refine (l03Code_any _ m hm [F] (by simp [hF]) (by simp) _ _ hps).mono ?_; rintro e W2 ⟨rfl, hbb⟩; rw [hc]))
    have hBB : Below W1.heap.size W1 W2 := hba.trans (hbb.mono hba.size)
    replace B0 := B0.below hBB B0.lt
    replace B1 := B1.below hBB B1.lt
    replace hb := hb.trans (hBB.mono hb.size)
    clear hBB hba hbb hps
    clear hc
    go_wp2_with fail
    go_ret2
    exact ⟨by rw [HV.out]; rfl, hb⟩
set_option maxRecDepth 100000 in
set_option maxHeartbeats 1600000 in
theorem impl_SkewDegree_any (p : Int) (m : Nat → Nat) (F : Nat → Nat → Nat) (hm : byte m) (hF : ∀ i, byte (F i)) (w : World) :
    Calls Try.prog 33 #[.int .i64 p, .agg (bcells 64 m), .agg (bcells 512 (fl 64 F))] w fun e w' => e = .returned (.tuple #[.int .i64 (sdV p m F).1, .int .i64 (sdV p m F).2]) ∧ Below w.heap.size w w' := by
  go_enter Try.func33, Try.ntmps33
  go_upto_region 1 with (fail)
  obtain ⟨W1, hwo⟩ : ∃ v : World, v = ((w.alloc (.cells (bcells 64 (m)) 23)).alloc (.cells (bcells 512 (fl 64 F)) 34)) := ⟨_, rfl⟩
  have B0 : Blk W1 (w.heap.size) 64 23 (m) := by subst hwo; have := ((Blk.new w 64 23 (m)).alloc (.cells (bcells 512 (fl 64 F)) 34)); simpa using this
  have B1 : Blk W1 (w.heap.size + 1) 512 34 (fl 64 F) := by subst hwo; have := (Blk.new (w.alloc (.cells (bcells 64 (m)) 23)) 512 34 (fl 64 F)); simpa using this
  have hb : Below w.heap.size w W1 := by subst hwo; exact (((Below.refl _ _).alloc (Nat.le_refl _) _).alloc (by simp) _)
  rw [← hwo]
  clear hwo
  rcases ckS_two p m [F] with hc | hc
  · have HV := Lib.hid (sdV_0 hc)
    go_upto_region 4 with (first | (refine wpList_load_any rfl 23 (.tmp 4) rfl _ rfl 64 23 _ B0 _ Try.underlying23 rfl Try.size23 ?_) | (refine wpList_load_any rfl 34 (.tmp 5) rfl _ rfl 512 34 _ B1 _ Try.underlying34 rfl Try.size34 ?_) | (refine wpList_build_sks rfl 127 _ [F] rfl 34 Try.underlying127 Try.elem34 (by simp) (by simp) rfl ?_; intro wa hps hba) | (go_at_call 94; refine (checkSkews_any _ m hm [F] (by simp [hF]) (by simp) _ _ hps).mono ?_; rintro e W2 ⟨rfl, hbb⟩; rw [hc]))
    have hBB : Below W1.heap.size W1 W2 := hba.trans (hbb.mono hba.size)
    replace B0 := B0.below hBB B0.lt
    replace B1 := B1.below hBB B1.lt
    replace hb := hb.trans (hBB.mono hb.size)
    clear hBB hba hbb hps
    clear hc
    go_wp2_with (first | (refine wpList_load_any rfl 34 (.tmp 5) rfl _ rfl 512 34 _ (B1) _ Try.underlying34 rfl Try.size34 ?_) | (go_at_call 97; refine (skDegree_any F _).mono ?_; rintro e W3 ⟨rfl, hW3⟩; replace B0 := B0.below hW3 B0.lt; replace B1 := B1.below hW3 B1.lt; replace hb := (hb).trans (hW3.mono (hb).size)))
    go_ret2
    exact ⟨by rw [HV.out]; rfl, hb⟩
  · have HV := Lib.hid (sdV_1 hc)
    go_upto_region 3 with (first | (refine wpList_load_any rfl 23 (.tmp 4) rfl _ rfl 64 23 _ B0 _ Try.underlying23 rfl Try.size23 ?_) | (refine wpList_load_any rfl 34 (.tmp 5) rfl _ rfl 512 34 _ B1 _ Try.underlying34 rfl Try.size34 ?_) | (refine wpList_build_sks rfl 127 _ [F] rfl 34 Try.underlying127 Try.elem34 (by simp) (by simp) rfl ?_; intro wa hps hba) | (go_at_call 94; refine (checkSkews_any _ m hm [F] (by simp [hF]) (by simp) _ _ hps).mono ?_; rintro e W2 ⟨rfl, hbb⟩; rw [hc]))
    have hBB : Below W1.heap.size W1 W2 := hba.trans (hbb.mono hba.size)
    replace B0 := B0.below hBB B0.lt
    replace B1 := B1.below hBB B1.lt
    replace hb := hb.trans (hBB.mono hb.size)
    clear hBB hba hbb hps
    clear hc
    go_wp2_with fail
    go_ret2
    exact ⟨by rw [HV.out]; rfl, hb⟩
set_option maxRecDepth 100000 in
set_option maxHeartbeats 1600000 in
theorem spec_AddSkews_any (p : Int) (m : Nat → Nat) (F G : Nat → Nat → Nat) (hm : byte m) (hF : ∀ i, byte (F i)) (hG : ∀ i, byte (G i)) (w : World) :
    Calls Try.prog 34 #[.int .i64 p, .agg (bcells 64 m), .agg (bcells 512 (fl 64 F)), .agg (bcells 512 (fl 64 G))] w fun e w' => e = .returned (.tuple #[.agg (bcells 512 (fl 64 (asV p m F G).1)), .int .i64 (asV p m F G).2]) ∧ Below w.heap.size w w' := by
  go_enter Try.func34, Try.ntmps34
  go_upto_region 1 with (fail)
  rw [← zero512]
  obtain ⟨W1, hwo⟩ : ∃ v : World, v = ((((w.alloc (.cells (bcells 64 (m)) 23)).alloc (.cells (bcells 512 (fl 64 F)) 34)).alloc (.cells (bcells 512 (fl 64 G)) 34)).alloc (.cells (bcells 512 (fl 64 (fun _ _ => 0))) 34)) := ⟨_, rfl⟩
  have B0 : Blk W1 (w.heap.size) 64 23 (m) := by subst hwo; have := ((((Blk.new w 64 23 (m)).alloc (.cells (bcells 512 (fl 64 F)) 34)).alloc (.cells (bcells 512 (fl 64 G)) 34)).alloc (.cells (bcells 512 (fl 64 (fun _ _ => 0))) 34)); simpa using this
  have B1 : Blk W1 (w.heap.size + 1) 512 34 (fl 64 F) := by subst hwo; have := (((Blk.new (w.alloc (.cells (bcells 64 (m)) 23)) 512 34 (fl 64 F)).alloc (.cells (bcells 512 (fl 64 G)) 34)).alloc (.cells (bcells 512 (fl 64 (fun _ _ => 0))) 34)); simpa using this
  have B2 : Blk W1 (w.heap.size + 1 + 1) 512 34 (fl 64 G) := by subst hwo; have := ((Blk.new ((w.alloc (.cells (bcells 64 (m)) 23)).alloc (.cells (bcells 512 (fl 64 F)) 34)) 512 34 (fl 64 G)).alloc (.cells (bcells 512 (fl 64 (fun _ _ => 0))) 34)); simpa using this
  have B3 : Blk W1 (w.heap.size + 1 + 1 + 1) 512 34 (fl 64 (fun _ _ => 0)) := by subst hwo; have := (Blk.new (((w.alloc (.cells (bcells 64 (m)) 23)).alloc (.cells (bcells 512 (fl 64 F)) 34)).alloc (.cells (bcells 512 (fl 64 G)) 34)) 512 34 (fl 64 (fun _ _ => 0))); simpa using this
  have hb : Below w.heap.size w W1 := by subst hwo; exact (((((Below.refl _ _).alloc (Nat.le_refl _) _).alloc (by simp) _).alloc (by simp; omega) _).alloc (by simp; omega) _)
  rw [← hwo]
  clear hwo
  rcases ckS_two p m [F, G] with hc | hc
  · obtain ⟨n, rfl, hpr, lm, hmon, hl⟩ := ckS_fld hc
    have HV := Lib.hid (asV_0 hc)
    have lF : ∀ i, i < 8 → ∀ j, j < 64 → F i j < n := fun i hi => (hl F (by simp) i hi).1
    have lG : ∀ i, i < 8 → ∀ j, j < 64 → G i j < n := fun i hi => (hl G (by simp) i hi).1
    have HAD := Lib.hid (fun W => l03Add_any n F G 1 W (by omega) (by omega) (by omega) (by omega) lF lG)
    clear hl lF lG hmon
    go_upto_region 4 with (first | (refine wpList_load_any rfl 23 (.tmp 5) rfl _ rfl 64 23 _ B0 _ Try.underlying23 rfl Try.size23 ?_) | (refine wpList_load_any rfl 34 (.tmp 6) rfl _ rfl 512 34 _ B1 _ Try.underlying34 rfl Try.size34 ?_) | (refine wpList_load_any rfl 34 (.tmp 7) rfl _ rfl 512 34 _ B2 _ Try.underlying34 rfl Try.size34 ?_) | (refine wpList_build_sks rfl 127 _ [F, G] rfl 34 Try.underlying127 Try.elem34 (by simp) (by simp) rfl ?_; intro wa hps hba) | (go_at_call 95; refine (l03Code_any _ m hm [F, G] (by simp [hF, hG]) (by simp) _ _ hps).mono ?_; rintro e W2 ⟨rfl, hbb⟩; rw [hc]))
    have hBB : Below W1.heap.size W1 W2 := hba.trans (hbb.mono hba.size)
    replace B0 := B0.below hBB B0.lt
    replace B1 := B1.below hBB B1.lt
    replace B2 := B2.below hBB B2.lt
    replace B3 := B3.below hBB B3.lt
    replace hb := hb.trans (hBB.mono hb.size)
    clear hBB hba hbb hps
    clear hc
    have lt_B0 := B0.lt
    have lt_B1 := B1.lt
    have lt_B2 := B2.lt
    have lt_B3 := B3.lt
    go_wp2_with (first | rw [← zero64] | rw [← zero512] | (refine wpList_load_any rfl 34 (.tmp 6) rfl _ rfl 512 34 _ (B1) _ Try.underlying34 rfl Try.size34 ?_) | (refine wpList_load_any rfl 34 (.tmp 7) rfl _ rfl 512 34 _ (B2) _ Try.underlying34 rfl Try.size34 ?_) | (go_at_call 98; refine (HAD.out _).mono ?_; rintro e W3 ⟨rfl, hW3⟩; replace B0 := B0.below hW3 B0.lt; replace B1 := B1.below hW3 B1.lt; replace B2 := B2.below hW3 B2.lt; replace B3 := B3.below hW3 B3.lt; replace hb := (hb).trans (hW3.mono (hb).size)) | (refine wpList_store_blk rfl 34 (.tmp 8) (.tmp 24) rfl _ 512 (fl 64 (skA n F G 1)) rfl rfl 34 _ (B3) Try.size34 ?_; try simp only [Act.put]; go_wp2_with fail))
    have qB0 : Blk (W3.setRow (w.heap.size + 1 + 1 + 1) (bcells 512 (fl 64 (skA n F G 1)))) (w.heap.size) 64 23 (m) := (B0.rowOther (by omega))
    have qB1 : Blk (W3.setRow (w.heap.size + 1 + 1 + 1) (bcells 512 (fl 64 (skA n F G 1)))) (w.heap.size + 1) 512 34 (fl 64 F) := (B1.rowOther (by omega))
    have qB2 : Blk (W3.setRow (w.heap.size + 1 + 1 + 1) (bcells 512 (fl 64 (skA n F G 1)))) (w.heap.size + 1 + 1) 512 34 (fl 64 G) := (B2.rowOther (by omega))
    have qB3 : Blk (W3.setRow (w.heap.size + 1 + 1 + 1) (bcells 512 (fl 64 (skA n F G 1)))) (w.heap.size + 1 + 1 + 1) 512 34 (fl 64 (skA n F G 1)) := (B3.row (fl 64 (skA n F G 1)))
    have qhb : Below w.heap.size w (W3.setRow (w.heap.size + 1 + 1 + 1) (bcells 512 (fl 64 (skA n F G 1)))) := (below_row hb (by omega) _)
    obtain ⟨W4, hwo⟩ : ∃ v : World, v = (W3.setRow (w.heap.size + 1 + 1 + 1) (bcells 512 (fl 64 (skA n F G 1)))) := ⟨_, rfl⟩
    rw [← hwo] at qB0 qB1 qB2 qB3 qhb ⊢
    clear hwo
    clear B0 B1 B2 B3 hb
    have B0 := qB0
    have B1 := qB1
    have B2 := qB2
    have B3 := qB3
    have hb := qhb
    clear qB0 qB1 qB2 qB3 qhb
    try simp only [Act.put, List.setIfInBounds_toArray, List.set_cons_zero, List.set_cons_succ]
    refine bodyPost_ret (results_anyt rfl _ _ _ 512 _ _ rfl B3 _ Try.underlying34 rfl Try.size34) rfl ⟨by first | (rw [HV.out]; rfl) | rw [HV.out], hb⟩
  · have HV := Lib.hid (asV_1 hc)
    go_upto_region 3 with (first | (refine wpList_load_any rfl 23 (.tmp 5) rfl _ rfl 64 23 _ B0 _ Try.underlying23 rfl Try.size23 ?_) | (refine wpList_load_any rfl 34 (.tmp 6) rfl _ rfl 512 34 _ B1 _ Try.underlying34 rfl Try.size34 ?_) | (refine wpList_load_any rfl 34 (.tmp 7) rfl _ rfl 512 34 _ B2 _ Try.underlying34 rfl Try.size34 ?_) | (refine wpList_build_sks rfl 127 _ [F, G] rfl 34 Try.underlying127 Try.elem34 (by simp) (by simp) rfl ?_; intro wa hps hba) | (go_at_call 95; refine (l03Code_any _ m hm [F, G] (by simp [hF, hG]) (by simp) _ _ hps).mono ?_; rintro e W2 ⟨rfl, hbb⟩; rw [hc]))
    have hBB : Below W1.heap.size W1 W2 := hba.trans (hbb.mono hba.size)
    replace B0 := B0.below hBB B0.lt
    replace B1 := B1.below hBB B1.lt
    replace B2 := B2.below hBB B2.lt
    replace B3 := B3.below hBB B3.lt
    replace hb := hb.trans (hBB.mono hb.size)
    clear hBB hba hbb hps
    clear hc
    have lt_B0 := B0.lt
    have lt_B1 := B1.lt
    have lt_B2 := B2.lt
    have lt_B3 := B3.lt
    go_wp2_with (first | rw [← zero64] | rw [← zero512] | (refine wpList_store_blk rfl 34 (.tmp 8) (.tmp 19) rfl _ 512 (fl 64 (fun _ _ => 0)) rfl rfl 34 _ (B3) Try.size34 ?_; try simp only [Act.put]; go_wp2_with fail))
    have qB0 : Blk (W2.setRow (w.heap.size + 1 + 1 + 1) (bcells 512 (fl 64 (fun _ _ => 0)))) (w.heap.size) 64 23 (m) := (B0.rowOther (by omega))
    have qB1 : Blk (W2.setRow (w.heap.size + 1 + 1 + 1) (bcells 512 (fl 64 (fun _ _ => 0)))) (w.heap.size + 1) 512 34 (fl 64 F) := (B1.rowOther (by omega))
    have qB2 : Blk (W2.setRow (w.heap.size + 1 + 1 + 1) (bcells 512 (fl 64 (fun _ _ => 0)))) (w.heap.size + 1 + 1) 512 34 (fl 64 G) := (B2.rowOther (by omega))
    have qB3 : Blk (W2.setRow (w.heap.size + 1 + 1 + 1) (bcells 512 (fl 64 (fun _ _ => 0)))) (w.heap.size + 1 + 1 + 1) 512 34 (fl 64 (fun _ _ => 0)) := (B3.row (fl 64 (fun _ _ => 0)))
    have qhb : Below w.heap.size w (W2.setRow (w.heap.size + 1 + 1 + 1) (bcells 512 (fl 64 (fun _ _ => 0)))) := (below_row hb (by omega) _)
    obtain ⟨W3, hwo⟩ : ∃ v : World, v = (W2.setRow (w.heap.size + 1 + 1 + 1) (bcells 512 (fl 64 (fun _ _ => 0)))) := ⟨_, rfl⟩
    rw [← hwo] at qB0 qB1 qB2 qB3 qhb ⊢
    clear hwo
    clear B0 B1 B2 B3 hb
    have B0 := qB0
    have B1 := qB1
    have B2 := qB2
    have B3 := qB3
    have hb := qhb
    clear qB0 qB1 qB2 qB3 qhb
    try simp only [Act.put, List.setIfInBounds_toArray, List.set_cons_zero, List.set_cons_succ]
    refine bodyPost_ret (results_anyt rfl _ _ _ 512 _ _ rfl B3 _ Try.underlying34 rfl Try.size34) rfl ⟨by first | (rw [HV.out]; rfl) | rw [HV.out], hb⟩
set_option maxRecDepth 100000 in
set_option maxHeartbeats 1600000 in
theorem impl_AddSkews_any (p : Int) (m : Nat → Nat) (F G : Nat → Nat → Nat) (hm : byte m) (hF : ∀ i, byte (F i)) (hG : ∀ i, byte (G i)) (w : World) :
    Calls Try.prog 35 #[.int .i64 p, .agg (bcells 64 m), .agg (bcells 512 (fl 64 F)), .agg (bcells 512 (fl 64 G))] w fun e w' => e = .returned (.tuple #[.agg (bcells 512 (fl 64 (asV p m F G).1)), .int .i64 (asV p m F G).2]) ∧ Below w.heap.size w w' := by
  go_enter Try.func35, Try.ntmps35
  go_upto_region 1 with (fail)
  rw [← zero512]
  obtain ⟨W1, hwo⟩ : ∃ v : World, v = ((((w.alloc (.cells (bcells 64 (m)) 23)).alloc (.cells (bcells 512 (fl 64 F)) 34)).alloc (.cells (bcells 512 (fl 64 G)) 34)).alloc (.cells (bcells 512 (fl 64 (fun _ _ => 0))) 34)) := ⟨_, rfl⟩
  have B0 : Blk W1 (w.heap.size) 64 23 (m) := by subst hwo; have := ((((Blk.new w 64 23 (m)).alloc (.cells (bcells 512 (fl 64 F)) 34)).alloc (.cells (bcells 512 (fl 64 G)) 34)).alloc (.cells (bcells 512 (fl 64 (fun _ _ => 0))) 34)); simpa using this
  have B1 : Blk W1 (w.heap.size + 1) 512 34 (fl 64 F) := by subst hwo; have := (((Blk.new (w.alloc (.cells (bcells 64 (m)) 23)) 512 34 (fl 64 F)).alloc (.cells (bcells 512 (fl 64 G)) 34)).alloc (.cells (bcells 512 (fl 64 (fun _ _ => 0))) 34)); simpa using this
  have B2 : Blk W1 (w.heap.size + 1 + 1) 512 34 (fl 64 G) := by subst hwo; have := ((Blk.new ((w.alloc (.cells (bcells 64 (m)) 23)).alloc (.cells (bcells 512 (fl 64 F)) 34)) 512 34 (fl 64 G)).alloc (.cells (bcells 512 (fl 64 (fun _ _ => 0))) 34)); simpa using this
  have B3 : Blk W1 (w.heap.size + 1 + 1 + 1) 512 34 (fl 64 (fun _ _ => 0)) := by subst hwo; have := (Blk.new (((w.alloc (.cells (bcells 64 (m)) 23)).alloc (.cells (bcells 512 (fl 64 F)) 34)).alloc (.cells (bcells 512 (fl 64 G)) 34)) 512 34 (fl 64 (fun _ _ => 0))); simpa using this
  have hb : Below w.heap.size w W1 := by subst hwo; exact (((((Below.refl _ _).alloc (Nat.le_refl _) _).alloc (by simp) _).alloc (by simp; omega) _).alloc (by simp; omega) _)
  rw [← hwo]
  clear hwo
  rcases ckS_two p m [F, G] with hc | hc
  · obtain ⟨n, rfl, hpr, lm, hmon, hl⟩ := ckS_fld hc
    have HV := Lib.hid (asV_0 hc)
    have lF : ∀ i, i < 8 → ∀ j, j < 64 → F i j < n := fun i hi => (hl F (by simp) i hi).1
    have lG : ∀ i, i < 8 → ∀ j, j < 64 → G i j < n := fun i hi => (hl G (by simp) i hi).1
    have HAD := Lib.hid (fun W => skPlus_any n m F G W (by omega) (by omega) lF lG)
    clear hl lF lG hmon
    go_upto_region 4 with (first | (refine wpList_load_any rfl 23 (.tmp 5) rfl _ rfl 64 23 _ B0 _ Try.underlying23 rfl Try.size23 ?_) | (refine wpList_load_any rfl 34 (.tmp 6) rfl _ rfl 512 34 _ B1 _ Try.underlying34 rfl Try.size34 ?_) | (refine wpList_load_any rfl 34 (.tmp 7) rfl _ rfl 512 34 _ B2 _ Try.underlying34 rfl Try.size34 ?_) | (refine wpList_build_sks rfl 127 _ [F, G] rfl 34 Try.underlying127 Try.elem34 (by simp) (by simp) rfl ?_; intro wa hps hba) | (go_at_call 94; refine (checkSkews_any _ m hm [F, G] (by simp [hF, hG]) (by simp) _ _ hps).mono ?_; rintro e W2 ⟨rfl, hbb⟩; rw [hc]))
    have hBB : Below W1.heap.size W1 W2 := hba.trans (hbb.mono hba.size)
    replace B0 := B0.below hBB B0.lt
    replace B1 := B1.below hBB B1.lt
    replace B2 := B2.below hBB B2.lt
    replace B3 := B3.below hBB B3.lt
    replace hb := hb.trans (hBB.mono hb.size)
    clear hBB hba hbb hps
    clear hc
    have lt_B0 := B0.lt
    have lt_B1 := B1.lt
    have lt_B2 := B2.lt
    have lt_B3 := B3.lt
    go_wp2_with (first | rw [← zero64] | rw [← zero512] | (refine wpList_load_any rfl 34 (.tmp 6) rfl _ rfl 512 34 _ (B1) _ Try.underlying34 rfl Try.size34 ?_) | (refine wpList_load_any rfl 23 (.tmp 5) rfl _ rfl 64 23 _ (B0) _ Try.underlying23 rfl Try.size23 ?_) | (refine wpList_build_of rfl 83 _ rfl (fdC (n : Int) m).toArray (by rw [Array.toList_map]; exact built_fd (n : Int) m) ?_) | (refine wpList_load_any rfl 34 (.tmp 7) rfl _ rfl 512 34 _ (B2) _ Try.underlying34 rfl Try.size34 ?_) | (go_at_call 99; refine (HAD.out _).mono ?_; rintro e W3 ⟨rfl, hW3⟩; replace B0 := B0.below hW3 B0.lt; replace B1 := B1.below hW3 B1.lt; replace B2 := B2.below hW3 B2.lt; replace B3 := B3.below hW3 B3.lt; replace hb := (hb).trans (hW3.mono (hb).size)) | (refine wpList_store_blk rfl 34 (.tmp 8) (.tmp 26) rfl _ 512 (fl 64 (skA n F G 1)) rfl rfl 34 _ (B3) Try.size34 ?_; try simp only [Act.put]; go_wp2_with fail))
    have qB0 : Blk (W3.setRow (w.heap.size + 1 + 1 + 1) (bcells 512 (fl 64 (skA n F G 1)))) (w.heap.size) 64 23 (m) := (B0.rowOther (by omega))
    have qB1 : Blk (W3.setRow (w.heap.size + 1 + 1 + 1) (bcells 512 (fl 64 (skA n F G 1)))) (w.heap.size + 1) 512 34 (fl 64 F) := (B1.rowOther (by omega))
    have qB2 : Blk (W3.setRow (w.heap.size + 1 + 1 + 1) (bcells 512 (fl 64 (skA n F G 1)))) (w.heap.size + 1 + 1) 512 34 (fl 64 G) := (B2.rowOther (by omega))
    have qB3 : Blk (W3.setRow (w.heap.size + 1 + 1 + 1) (bcells 512 (fl 64 (skA n F G 1)))) (w.heap.size + 1 + 1 + 1) 512 34 (fl 64 (skA n F G 1)) := (B3.row (fl 64 (skA n F G 1)))
    have qhb : Below w.heap.size w (W3.setRow (w.heap.size + 1 + 1 + 1) (bcells 512 (fl 64 (skA n F G 1)))) := (below_row hb (by omega) _)
    obtain ⟨W4, hwo⟩ : ∃ v : World, v = (W3.setRow (w.heap.size + 1 + 1 + 1) (bcells 512 (fl 64 (skA n F G 1)))) := ⟨_, rfl⟩
    rw [← hwo] at qB0 qB1 qB2 qB3 qhb ⊢
    clear hwo
    clear B0 B1 B2 B3 hb
    have B0 := qB0
    have B1 := qB1
    have B2 := qB2
    have B3 := qB3
    have hb := qhb
    clear qB0 qB1 qB2 qB3 qhb
    try simp only [Act.put, List.setIfInBounds_toArray, List.set_cons_zero, List.set_cons_succ]
    refine bodyPost_ret (results_anyt rfl _ _ _ 512 _ _ rfl B3 _ Try.underlying34 rfl Try.size34) rfl ⟨by first | (rw [HV.out]; rfl) | rw [HV.out], hb⟩
  · have HV := Lib.hid (asV_1 hc)
    go_upto_region 3 with (first | (refine wpList_load_any rfl 23 (.tmp 5) rfl _ rfl 64 23 _ B0 _ Try.underlying23 rfl Try.size23 ?_) | (refine wpList_load_any rfl 34 (.tmp 6) rfl _ rfl 512 34 _ B1 _ Try.underlying34 rfl Try.size34 ?_) | (refine wpList_load_any rfl 34 (.tmp 7) rfl _ rfl 512 34 _ B2 _ Try.underlying34 rfl Try.size34 ?_) | (refine wpList_build_sks rfl 127 _ [F, G] rfl 34 Try.underlying127 Try.elem34 (by simp) (by simp) rfl ?_; intro wa hps hba) | (go_at_call 94; refine (checkSkews_any _ m hm [F, G] (by simp [hF, hG]) (by simp) _ _ hps).mono ?_; rintro e W2 ⟨rfl, hbb⟩; rw [hc]))
    have hBB : Below W1.heap.size W1 W2 := hba.trans (hbb.mono hba.size)
    replace B0 := B0.below hBB B0.lt
    replace B1 := B1.below hBB B1.lt
    replace B2 := B2.below hBB B2.lt
    replace B3 := B3.below hBB B3.lt
    replace hb := hb.trans (hBB.mono hb.size)
    clear hBB hba hbb hps
    clear hc
    have lt_B0 := B0.lt
    have lt_B1 := B1.lt
    have lt_B2 := B2.lt
    have lt_B3 := B3.lt
    go_wp2_with (first | rw [← zero64] | rw [← zero512] | (refine wpList_store_blk rfl 34 (.tmp 8) (.tmp 19) rfl _ 512 (fl 64 (fun _ _ => 0)) rfl rfl 34 _ (B3) Try.size34 ?_; try simp only [Act.put]; go_wp2_with fail))
    have qB0 : Blk (W2.setRow (w.heap.size + 1 + 1 + 1) (bcells 512 (fl 64 (fun _ _ => 0)))) (w.heap.size) 64 23 (m) := (B0.rowOther (by omega))
    have qB1 : Blk (W2.setRow (w.heap.size + 1 + 1 + 1) (bcells 512 (fl 64 (fun _ _ => 0)))) (w.heap.size + 1) 512 34 (fl 64 F) := (B1.rowOther (by omega))
    have qB2 : Blk (W2.setRow (w.heap.size + 1 + 1 + 1) (bcells 512 (fl 64 (fun _ _ => 0)))) (w.heap.size + 1 + 1) 512 34 (fl 64 G) := (B2.rowOther (by omega))
    have qB3 : Blk (W2.setRow (w.heap.size + 1 + 1 + 1) (bcells 512 (fl 64 (fun _ _ => 0)))) (w.heap.size + 1 + 1 + 1) 512 34 (fl 64 (fun _ _ => 0)) := (B3.row (fl 64 (fun _ _ => 0)))
    have qhb : Below w.heap.size w (W2.setRow (w.heap.size + 1 + 1 + 1) (bcells 512 (fl 64 (fun _ _ => 0)))) := (below_row hb (by omega) _)
    obtain ⟨W3, hwo⟩ : ∃ v : World, v = (W2.setRow (w.heap.size + 1 + 1 + 1) (bcells 512 (fl 64 (fun _ _ => 0)))) := ⟨_, rfl⟩
    rw [← hwo] at qB0 qB1 qB2 qB3 qhb ⊢
    clear hwo
    clear B0 B1 B2 B3 hb
    have B0 := qB0
    have B1 := qB1
    have B2 := qB2
    have B3 := qB3
    have hb := qhb
    clear qB0 qB1 qB2 qB3 qhb
    try simp only [Act.put, List.setIfInBounds_toArray, List.set_cons_zero, List.set_cons_succ]
    refine bodyPost_ret (results_anyt rfl _ _ _ 512 _ _ rfl B3 _ Try.underlying34 rfl Try.size34) rfl ⟨by first | (rw [HV.out]; rfl) | rw [HV.out], hb⟩
end Go.Proofs.Ytbjpkmbhbpcbgaa
end
section
namespace Go.Proofs.Ytbjpkmbhbpcbgaa
open Go Go.RowKit
set_option linter.unusedVariables false
set_option linter.unusedSimpArgs false
set_option maxRecDepth 100000 in
set_option maxHeartbeats 1600000 in
theorem FnExactIsSkew_walk (p : Int) (m : Nat → Nat) (F : Nat → Nat → Nat) (hm : byte m) (hF : ∀ i, byte (F i)) (w : World) :
    Calls Try.prog 5 #[.int .i64 p, .agg (bcells 64 m), .agg (bcells 512 (fl 64 F))] w fun e w' => e = .returned (.bool true) ∧ Below w.heap.size w w' := by
  go_enter Try.func5, Try.ntmps5
  go_upto_region 1 with (fail)
  obtain ⟨W1, hwo⟩ : ∃ v : World, v = ((w.alloc (.cells (bcells 64 (m)) 22)).alloc (.cells (bcells 512 (fl 64 F)) 31)) := ⟨_, rfl⟩
  have B0 : Blk W1 (w.heap.size) 64 22 (m) := by subst hwo; have := ((Blk.new w 64 22 (m)).alloc (.cells (bcells 512 (fl 64 F)) 31)); simpa using this
  have B1 : Blk W1 (w.heap.size + 1) 512 31 (fl 64 F) := by subst hwo; have := (Blk.new (w.alloc (.cells (bcells 64 (m)) 22)) 512 31 (fl 64 F)); simpa using this
  have hb : Below w.heap.size w W1 := by subst hwo; exact (((Below.refl _ _).alloc (Nat.le_refl _) _).alloc (by simp) _)
  rw [← hwo]
  clear hwo
  have hne0 : ((isV p m F) != (isV p m F)) = false := by simp
  have lt_B0 : (w.heap.size) < W1.heap.size := B0.lt
  have lt_B1 : (w.heap.size + 1) < W1.heap.size := B1.lt
  have hbase : w.heap.size ≤ W1.heap.size := hb.size
  refine wp_region_steps0 Try.mixed (by kernel_rfl) (by kernel_rfl) (fun v => by (simp only [frL, Act.put, List.setIfInBounds_toArray, List.set_cons_zero, List.set_cons_succ, Nat.reduceAdd, Nat.zero_add]; exact rfl))
    (fun L v W2 => Below w.heap.size w W2 ∧ W1.heap.size ≤ W2.heap.size ∧ Blk W2 (w.heap.size) 64 22 (m) ∧ Blk W2 (w.heap.size + 1) 512 31 (fl 64 F) ∧ (L 0 = true → v 0 = (.int .i64 p)) ∧ (L 1 = true → v 1 = (.agg (bcells 64 (m)))) ∧ (L 2 = true → v 2 = (.agg (bcells 64 (m)))) ∧ (L 3 = true → v 3 = (.agg (bcells 512 (fl 64 F)))) ∧ (L 4 = true → v 4 = (.agg (bcells 512 (fl 64 F)))) ∧ (L 5 = true → v 5 = (.bool (isV p m F))) ∧ (L 6 = true → v 6 = (.bool (isV p m F)))) ?_ ?_ ?_
  · intro v hv0
    exact ⟨hb.drew, Nat.le_refl _, B0.drew, B1.drew, (fun h => by cases h), (fun h => by cases h), (fun h => by cases h), (fun h => by cases h), (fun h => by cases h), (fun h => by cases h), (fun h => by cases h)⟩
  · refine (.cons rfl ?_ (.cons rfl ?_ (.cons rfl ?_ (.cons rfl ?_ (.cons rfl ?_ (.cons rfl ?_ (.cons rfl ?_ (.nil _))))))))
    · intro L v W2 hd hn ⟨hB, hz, s0, s1, h0, h1, h2, h3, h4, h5, h6⟩ K hK
      go_wp2_with fail
      exact hK _ (.int .i64 p) _ (by simp only [Act.put, List.setIfInBounds_toArray, List.set_cons_zero, List.set_cons_succ ]) ⟨hB, hz, s0, s1, (fun _ => rfl), h1, h2, h3, h4, h5, h6⟩
    · intro L v W2 hd hn ⟨hB, hz, s0, s1, h0, h1, h2, h3, h4, h5, h6⟩ K hK
      refine wp_load_any 22 _ rfl _ rfl 64 22 _ s0 _ Try.underlying22 rfl Try.size22 ?_
      exact hK _ _ _ rfl ⟨hB, hz, s0, s1, h0, (fun _ => rfl), h2, h3, h4, h5, h6⟩
    · intro L v W2 hd hn ⟨hB, hz, s0, s1, h0, h1, h2, h3, h4, h5, h6⟩ K hK
      have e1 := h1 (hd ⟨1, .data⟩ (by simp) rfl)
      go_wp2_with (go_at_call 24; refine (toPoly_any m hm _).mono ?_; rintro e wy ⟨rfl, hy⟩)
      exact hK _ (.agg (bcells 64 (m))) _ (by simp only [Act.put, List.setIfInBounds_toArray, List.set_cons_zero, List.set_cons_succ, e1]) ⟨hB.trans (hy.mono hB.size), (Nat.le_trans hz hy.size), (s0).below hy (s0).lt, (s1).below hy (s1).lt, h0, h1, (fun _ => rfl), h3, h4, h5, h6⟩
    · intro L v W2 hd hn ⟨hB, hz, s0, s1, h0, h1, h2, h3, h4, h5, h6⟩ K hK
      refine wp_load_any 31 _ rfl _ rfl 512 31 _ s1 _ Try.underlying31 rfl Try.size31 ?_
      exact hK _ _ _ rfl ⟨hB, hz, s0, s1, h0, h1, h2, (fun _ => rfl), h4, h5, h6⟩
    · intro L v W2 hd hn ⟨hB, hz, s0, s1, h0, h1, h2, h3, h4, h5, h6⟩ K hK
      have e3 := h3 (hd ⟨3, .data⟩ (by simp) rfl)
      go_wp2_with (go_at_call 30; refine (toSkew_any F hF _).mono ?_; rintro e wy ⟨rfl, hy⟩)
      exact hK _ (.agg (bcells 512 (fl 64 F))) _ (by simp only [Act.put, List.setIfInBounds_toArray, List.set_cons_zero, List.set_cons_succ, e3]) ⟨hB.trans (hy.mono hB.size), (Nat.le_trans hz hy.size), (s0).below hy (s0).lt, (s1).below hy (s1).lt, h0, h1, h2, h3, (fun _ => rfl), h5, h6⟩
    · intro L v W2 hd hn ⟨hB, hz, s0, s1, h0, h1, h2, h3, h4, h5, h6⟩ K hK
      have e0 := h0 (hd ⟨0, .data⟩ (by simp) rfl)
      have e2 := h2 (hd ⟨2, .data⟩ (by simp) rfl)
      have e4 := h4 (hd ⟨4, .data⟩ (by simp) rfl)
      go_wp2_with (go_at_call 29; refine (spec_IsSkew_any p m F hm hF _).mono ?_; rintro e wy ⟨rfl, hy⟩)
      exact hK _ (.bool (isV p m F)) _ (by simp only [Act.put, List.setIfInBounds_toArray, List.set_cons_zero, List.set_cons_succ, e0, e2, e4]) ⟨hB.trans (hy.mono hB.size), (Nat.le_trans hz hy.size), (s0).below hy (s0).lt, (s1).below hy (s1).lt, h0, h1, h2, h3, h4, (fun _ => rfl), h6⟩
    · intro L v W2 hd hn ⟨hB, hz, s0, s1, h0, h1, h2, h3, h4, h5, h6⟩ K hK
      have e5 := h5 (hd ⟨5, .data⟩ (by simp) rfl)
      go_wp2_with fail
      exact hK _ (.bool (isV p m F)) _ (by simp only [Act.put, List.setIfInBounds_toArray, List.set_cons_zero, List.set_cons_succ, e5]) ⟨hB, hz, s0, s1, h0, h1, h2, h3, h4, h5, (fun _ => rfl)⟩
  · intro L v W2 hL ⟨hB, hz, s0, s1, h0, h1, h2, h3, h4, h5, h6⟩
    have e0 := h0 (hL 0 (by decide))
    have e1 := h1 (hL 1 (by decide))
    have e2 := h2 (hL 2 (by decide))
    have e3 := h3 (hL 3 (by decide))
    have e4 := h4 (hL 4 (by decide))
    have e5 := h5 (hL 5 (by decide))
    have e6 := h6 (hL 6 (by decide))
    clear hL h0 h1 h2 h3 h4 h5 h6
    simp only [Exit.then, e0, e1, e2, e3, e4, e5, e6]
    clear e0 e1 e2 e3 e4 e5 e6
    clear B0
    have B0 := s0
    clear s0
    clear B1
    have B1 := s1
    clear s1
    clear hb
    have hb := hB
    clear hB
    clear hbase hz lt_B0 lt_B1
    go_upto_region 2 with (fail)
    have lt_B0 : (w.heap.size) < W2.heap.size := B0.lt
    have lt_B1 : (w.heap.size + 1) < W2.heap.size := B1.lt
    have hbase : w.heap.size ≤ W2.heap.size := hb.size
    refine wp_region_steps0 Try.mixed (by kernel_rfl) (by kernel_rfl) (fun v => by (simp only [frL, Act.put, List.setIfInBounds_toArray, List.set_cons_zero, List.set_cons_succ, Nat.reduceAdd, Nat.zero_add]; exact rfl))
      (fun L v W3 => Below w.heap.size w W3 ∧ W2.heap.size ≤ W3.heap.size ∧ Blk W3 (w.heap.size) 64 22 (m) ∧ Blk W3 (w.heap.size + 1) 512 31 (fl 64 F) ∧ (L 0 = true → v 0 = (.int .i64 p)) ∧ (L 1 = true → v 1 = (.agg (bcells 64 (m)))) ∧ (L 2 = true → v 2 = (.agg (bcells 64 (m)))) ∧ (L 3 = true → v 3 = (.agg (bcells 512 (fl 64 F)))) ∧ (L 4 = true → v 4 = (.agg (bcells 512 (fl 64 F)))) ∧ (L 5 = true → v 5 = (.bool (isV p m F))) ∧ (L 6 = true → v 6 = (.bool (isV p m F)))) ?_ ?_ ?_
    · intro v hv0
      exact ⟨hb.drew, Nat.le_refl _, B0.drew, B1.drew, (fun h => by cases h), (fun h => by cases h), (fun h => by cases h), (fun h => by cases h), (fun h => by cases h), (fun h => by cases h), (fun h => by cases h)⟩
    · refine (.cons rfl ?_ (.cons rfl ?_ (.cons rfl ?_ (.cons rfl ?_ (.cons rfl ?_ (.cons rfl ?_ (.cons rfl ?_ (.nil _))))))))
      · intro L v W3 hd hn ⟨hB, hz, s0, s1, h0, h1, h2, h3, h4, h5, h6⟩ K hK
        go_wp2_with fail
        exact hK _ (.int .i64 p) _ (by simp only [Act.put, List.setIfInBounds_toArray, List.set_cons_zero, List.set_cons_succ ]) ⟨hB, hz, s0, s1, (fun _ => rfl), h1, h2, h3, h4, h5, h6⟩
      · intro L v W3 hd hn ⟨hB, hz, s0, s1, h0, h1, h2, h3, h4, h5, h6⟩ K hK
        refine wp_load_any 22 _ rfl _ rfl 64 22 _ s0 _ Try.underlying22 rfl Try.size22 ?_
        exact hK _ _ _ rfl ⟨hB, hz, s0, s1, h0, (fun _ => rfl), h2, h3, h4, h5, h6⟩
      · intro L v W3 hd hn ⟨hB, hz, s0, s1, h0, h1, h2, h3, h4, h5, h6⟩ K hK
        have e1 := h1 (hd ⟨1, .data⟩ (by simp) rfl)
        go_wp2_with (go_at_call 24; refine (toPoly_any m hm _).mono ?_; rintro e wy ⟨rfl, hy⟩)
        exact hK _ (.agg (bcells 64 (m))) _ (by simp only [Act.put, List.setIfInBounds_toArray, List.set_cons_zero, List.set_cons_succ, e1]) ⟨hB.trans (hy.mono hB.size), (Nat.le_trans hz hy.size), (s0).below hy (s0).lt, (s1).below hy (s1).lt, h0, h1, (fun _ => rfl), h3, h4, h5, h6⟩
      · intro L v W3 hd hn ⟨hB, hz, s0, s1, h0, h1, h2, h3, h4, h5, h6⟩ K hK
        refine wp_load_any 31 _ rfl _ rfl 512 31 _ s1 _ Try.underlying31 rfl Try.size31 ?_
        exact hK _ _ _ rfl ⟨hB, hz, s0, s1, h0, h1, h2, (fun _ => rfl), h4, h5, h6⟩
      · intro L v W3 hd hn ⟨hB, hz, s0, s1, h0, h1, h2, h3, h4, h5, h6⟩ K hK
        have e3 := h3 (hd ⟨3, .data⟩ (by simp) rfl)
        go_wp2_with (go_at_call 30; refine (toSkew_any F hF _).mono ?_; rintro e wy ⟨rfl, hy⟩)
        exact hK _ (.agg (bcells 512 (fl 64 F))) _ (by simp only [Act.put, List.setIfInBounds_toArray, List.set_cons_zero, List.set_cons_succ, e3]) ⟨hB.trans (hy.mono hB.size), (Nat.le_trans hz hy.size), (s0).below hy (s0).lt, (s1).below hy (s1).lt, h0, h1, h2, h3, (fun _ => rfl), h5, h6⟩
      · intro L v W3 hd hn ⟨hB, hz, s0, s1, h0, h1, h2, h3, h4, h5, h6⟩ K hK
        have e0 := h0 (hd ⟨0, .data⟩ (by simp) rfl)
        have e2 := h2 (hd ⟨2, .data⟩ (by simp) rfl)
        have e4 := h4 (hd ⟨4, .data⟩ (by simp) rfl)
        go_wp2_with (go_at_call 31; refine (impl_IsSkew_any p m F hm hF _).mono ?_; rintro e wy ⟨rfl, hy⟩)
        exact hK _ (.bool (isV p m F)) _ (by simp only [Act.put, List.setIfInBounds_toArray, List.set_cons_zero, List.set_cons_succ, e0, e2, e4]) ⟨hB.trans (hy.mono hB.size), (Nat.le_trans hz hy.size), (s0).below hy (s0).lt, (s1).below hy (s1).lt, h0, h1, h2, h3, h4, (fun _ => rfl), h6⟩
      · intro L v W3 hd hn ⟨hB, hz, s0, s1, h0, h1, h2, h3, h4, h5, h6⟩ K hK
        have e5 := h5 (hd ⟨5, .data⟩ (by simp) rfl)
        go_wp2_with fail
        exact hK _ (.bool (isV p m F)) _ (by simp only [Act.put, List.setIfInBounds_toArray, List.set_cons_zero, List.set_cons_succ, e5]) ⟨hB, hz, s0, s1, h0, h1, h2, h3, h4, h5, (fun _ => rfl)⟩
    · intro L v W3 hL ⟨hB, hz, s0, s1, h0, h1, h2, h3, h4, h5, h6⟩
      have e0 := h0 (hL 0 (by decide))
      have e1 := h1 (hL 1 (by decide))
      have e2 := h2 (hL 2 (by decide))
      have e3 := h3 (hL 3 (by decide))
      have e4 := h4 (hL 4 (by decide))
      have e5 := h5 (hL 5 (by decide))
      have e6 := h6 (hL 6 (by decide))
      clear hL h0 h1 h2 h3 h4 h5 h6
      simp only [Exit.then, e0, e1, e2, e3, e4, e5, e6]
      clear e0 e1 e2 e3 e4 e5 e6
      clear B0
      have B0 := s0
      clear s0
      clear B1
      have B1 := s1
      clear s1
      clear hb
      have hb := hB
      clear hB
      clear hbase hz lt_B0 lt_B1
      go_upto_region 3 with (fail)
      go_wp2_with fail
      go_ret
      exact ⟨rfl, hb⟩
set_option maxRecDepth 100000 in
set_option maxHeartbeats 1600000 in
theorem FnExactSkewDegree_walk (p : Int) (m : Nat → Nat) (F : Nat → Nat → Nat) (hm : byte m) (hF : ∀ i, byte (F i)) (w : World) :
    Calls Try.prog 6 #[.int .i64 p, .agg (bcells 64 m), .agg (bcells 512 (fl 64 F))] w fun e w' => e = .returned (.bool true) ∧ Below w.heap.size w w' := by
  go_enter Try.func6, Try.ntmps6
  go_upto_region 1 with (fail)
  obtain ⟨W1, hwo⟩ : ∃ v : World, v = ((w.alloc (.cells (bcells 64 (m)) 22)).alloc (.cells (bcells 512 (fl 64 F)) 31)) := ⟨_, rfl⟩
  have B0 : Blk W1 (w.heap.size) 64 22 (m) := by subst hwo; have := ((Blk.new w 64 22 (m)).alloc (.cells (bcells 512 (fl 64 F)) 31)); simpa using this
  have B1 : Blk W1 (w.heap.size + 1) 512 31 (fl 64 F) := by subst hwo; have := (Blk.new (w.alloc (.cells (bcells 64 (m)) 22)) 512 31 (fl 64 F)); simpa using this
  have hb : Below w.heap.size w W1 := by subst hwo; exact (((Below.refl _ _).alloc (Nat.le_refl _) _).alloc (by simp) _)
  rw [← hwo]
  clear hwo
  have hne0 : (((sdV p m F).1) != ((sdV p m F).1)) = false := by simp
  have hne1 : (((sdV p m F).2) != ((sdV p m F).2)) = false := by simp
  have lt_B0 : (w.heap.size) < W1.heap.size := B0.lt
  have lt_B1 : (w.heap.size + 1) < W1.heap.size := B1.lt
  have hbase : w.heap.size ≤ W1.heap.size := hb.size
  refine wp_region_steps0 Try.mixed (by kernel_rfl) (by kernel_rfl) (fun v => by (simp only [frL, Act.put, List.setIfInBounds_toArray, List.set_cons_zero, List.set_cons_succ, Nat.reduceAdd, Nat.zero_add]; exact rfl))
    (fun L v W2 => Below w.heap.size w W2 ∧ W1.heap.size ≤ W2.heap.size ∧ Blk W2 (w.heap.size) 64 22 (m) ∧ Blk W2 (w.heap.size + 1) 512 31 (fl 64 F) ∧ (L 0 = true → v 0 = (.int .i64 p)) ∧ (L 1 = true → v 1 = (.agg (bcells 64 (m)))) ∧ (L 2 = true → v 2 = (.agg (bcells 64 (m)))) ∧ (L 3 = true → v 3 = (.agg (bcells 512 (fl 64 F)))) ∧ (L 4 = true → v 4 = (.agg (bcells 512 (fl 64 F)))) ∧ (L 5 = true → v 5 = (.tuple #[(.int .i64 ((sdV p m F).1)), (.int .i64 ((sdV p m F).2))])) ∧ (L 6 = true → v 6 = (.tuple #[(.int .i64 ((sdV p m F).1)), (.int .i64 ((sdV p m F).2))])) ∧ (L 7 = true → v 7 = (.int .i64 ((sdV p m F).1))) ∧ (L 8 = true → v 8 = (.int .i64 ((sdV p m F).2))) ∧ (L 9 = true → v 9 = (.int .i64 ((sdV p m F).1))) ∧ (L 10 = true → v 10 = (.int .i64 ((sdV p m F).2)))) ?_ ?_ ?_
  · intro v hv0
    exact ⟨hb.drew, Nat.le_refl _, B0.drew, B1.drew, (fun h => by cases h), (fun h => by cases h), (fun h => by cases h), (fun h => by cases h), (fun h => by cases h), (fun h => by cases h), (fun h => by cases h), (fun h => by cases h), (fun h => by cases h), (fun h => by cases h), (fun h => by cases h)⟩
  · refine (.cons rfl ?_ (.cons rfl ?_ (.cons rfl ?_ (.cons rfl ?_ (.cons rfl ?_ (.cons rfl ?_ (.cons rfl ?_ (.cons rfl ?_ (.cons rfl ?_ (.cons rfl ?_ (.cons rfl ?_ (.nil _))))))))))))
    · intro L v W2 hd hn ⟨hB, hz, s0, s1, h0, h1, h2, h3, h4, h5, h6, h7, h8, h9, h10⟩ K hK
      go_wp2_with fail
      exact hK _ (.int .i64 p) _ (by simp only [Act.put, List.setIfInBounds_toArray, List.set_cons_zero, List.set_cons_succ ]) ⟨hB, hz, s0, s1, (fun _ => rfl), h1, h2, h3, h4, h5, h6, h7, h8, h9, h10⟩
    · intro L v W2 hd hn ⟨hB, hz, s0, s1, h0, h1, h2, h3, h4, h5, h6, h7, h8, h9, h10⟩ K hK
      refine wp_load_any 22 _ rfl _ rfl 64 22 _ s0 _ Try.underlying22 rfl Try.size22 ?_
      exact hK _ _ _ rfl ⟨hB, hz, s0, s1, h0, (fun _ => rfl), h2, h3, h4, h5, h6, h7, h8, h9, h10⟩
    · intro L v W2 hd hn ⟨hB, hz, s0, s1, h0, h1, h2, h3, h4, h5, h6, h7, h8, h9, h10⟩ K hK
      have e1 := h1 (hd ⟨1, .data⟩ (by simp) rfl)
      go_wp2_with (go_at_call 24; refine (toPoly_any m hm _).mono ?_; rintro e wy ⟨rfl, hy⟩)
      exact hK _ (.agg (bcells 64 (m))) _ (by simp only [Act.put, List.setIfInBounds_toArray, List.set_cons_zero, List.set_cons_succ, e1]) ⟨hB.trans (hy.mono hB.size), (Nat.le_trans hz hy.size), (s0).below hy (s0).lt, (s1).below hy (s1).lt, h0, h1, (fun _ => rfl), h3, h4, h5, h6, h7, h8, h9, h10⟩
    · intro L v W2 hd hn ⟨hB, hz, s0, s1, h0, h1, h2, h3, h4, h5, h6, h7, h8, h9, h10⟩ K hK
      refine wp_load_any 31 _ rfl _ rfl 512 31 _ s1 _ Try.underlying31 rfl Try.size31 ?_
      exact hK _ _ _ rfl ⟨hB, hz, s0, s1, h0, h1, h2, (fun _ => rfl), h4, h5, h6, h7, h8, h9, h10⟩
    · intro L v W2 hd hn ⟨hB, hz, s0, s1, h0, h1, h2, h3, h4, h5, h6, h7, h8, h9, h10⟩ K hK
      have e3 := h3 (hd ⟨3, .data⟩ (by simp) rfl)
      go_wp2_with (go_at_call 30; refine (toSkew_any F hF _).mono ?_; rintro e wy ⟨rfl, hy⟩)
      exact hK _ (.agg (bcells 512 (fl 64 F))) _ (by simp only [Act.put, List.setIfInBounds_toArray, List.set_cons_zero, List.set_cons_succ, e3]) ⟨hB.trans (hy.mono hB.size), (Nat.le_trans hz hy.size), (s0).below hy (s0).lt, (s1).below hy (s1).lt, h0, h1, h2, h3, (fun _ => rfl), h5, h6, h7, h8, h9, h10⟩
    · intro L v W2 hd hn ⟨hB, hz, s0, s1, h0, h1, h2, h3, h4, h5, h6, h7, h8, h9, h10⟩ K hK
      have e0 := h0 (hd ⟨0, .data⟩ (by simp) rfl)
      have e2 := h2 (hd ⟨2, .data⟩ (by simp) rfl)
      have e4 := h4 (hd ⟨4, .data⟩ (by simp) rfl)
      go_wp2_with (go_at_call 32; refine (spec_SkewDegree_any p m F hm hF _).mono ?_; rintro e wy ⟨rfl, hy⟩)
      exact hK _ (.tuple #[(.int .i64 ((sdV p m F).1)), (.int .i64 ((sdV p m F).2))]) _ (by simp only [Act.put, List.setIfInBounds_toArray, List.set_cons_zero, List.set_cons_succ, e0, e2, e4]) ⟨hB.trans (hy.mono hB.size), (Nat.le_trans hz hy.size), (s0).below hy (s0).lt, (s1).below hy (s1).lt, h0, h1, h2, h3, h4, (fun _ => rfl), h6, h7, h8, h9, h10⟩
    · intro L v W2 hd hn ⟨hB, hz, s0, s1, h0, h1, h2, h3, h4, h5, h6, h7, h8, h9, h10⟩ K hK
      have e5 := h5 (hd ⟨5, .data⟩ (by simp) rfl)
      go_wp2_with fail
      exact hK _ (.tuple #[(.int .i64 ((sdV p m F).1)), (.int .i64 ((sdV p m F).2))]) _ (by simp only [Act.put, List.setIfInBounds_toArray, List.set_cons_zero, List.set_cons_succ, e5]) ⟨hB, hz, s0, s1, h0, h1, h2, h3, h4, h5, (fun _ => rfl), h7, h8, h9, h10⟩
    · intro L v W2 hd hn ⟨hB, hz, s0, s1, h0, h1, h2, h3, h4, h5, h6, h7, h8, h9, h10⟩ K hK
      have e6 := h6 (hd ⟨6, .data⟩ (by simp) rfl)
      go_wp2_with fail
      exact hK _ (.int .i64 ((sdV p m F).1)) _ (by simp only [Act.put, List.setIfInBounds_toArray, List.set_cons_zero, List.set_cons_succ, e6]) ⟨hB, hz, s0, s1, h0, h1, h2, h3, h4, h5, h6, (fun _ => rfl), h8, h9, h10⟩
    · intro L v W2 hd hn ⟨hB, hz, s0, s1, h0, h1, h2, h3, h4, h5, h6, h7, h8, h9, h10⟩ K hK
      have e6 := h6 (hd ⟨6, .data⟩ (by simp) rfl)
      go_wp2_with fail
      exact hK _ (.int .i64 ((sdV p m F).2)) _ (by simp only [Act.put, List.setIfInBounds_toArray, List.set_cons_zero, List.set_cons_succ, e6]) ⟨hB, hz, s0, s1, h0, h1, h2, h3, h4, h5, h6, h7, (fun _ => rfl), h9, h10⟩
    · intro L v W2 hd hn ⟨hB, hz, s0, s1, h0, h1, h2, h3, h4, h5, h6, h7, h8, h9, h10⟩ K hK
      have e7 := h7 (hd ⟨7, .data⟩ (by simp) rfl)
      go_wp2_with fail
      exact hK _ (.int .i64 ((sdV p m F).1)) _ (by simp only [Act.put, List.setIfInBounds_toArray, List.set_cons_zero, List.set_cons_succ, e7]) ⟨hB, hz, s0, s1, h0, h1, h2, h3, h4, h5, h6, h7, h8, (fun _ => rfl), h10⟩
    · intro L v W2 hd hn ⟨hB, hz, s0, s1, h0, h1, h2, h3, h4, h5, h6, h7, h8, h9, h10⟩ K hK
      have e8 := h8 (hd ⟨8, .data⟩ (by simp) rfl)
      go_wp2_with fail
      exact hK _ (.int .i64 ((sdV p m F).2)) _ (by simp only [Act.put, List.setIfInBounds_toArray, List.set_cons_zero, List.set_cons_succ, e8]) ⟨hB, hz, s0, s1, h0, h1, h2, h3, h4, h5, h6, h7, h8, h9, (fun _ => rfl)⟩
  · intro L v W2 hL ⟨hB, hz, s0, s1, h0, h1, h2, h3, h4, h5, h6, h7, h8, h9, h10⟩
    have e0 := h0 (hL 0 (by decide))
    have e1 := h1 (hL 1 (by decide))
    have e2 := h2 (hL 2 (by decide))
    have e3 := h3 (hL 3 (by decide))
    have e4 := h4 (hL 4 (by decide))
    have e5 := h5 (hL 5 (by decide))
    have e6 := h6 (hL 6 (by decide))
    have e7 := h7 (hL 7 (by decide))
    have e8 := h8 (hL 8 (by decide))
    have e9 := h9 (hL 9 (by decide))
    have e10 := h10 (hL 10 (by decide))
    clear hL h0 h1 h2 h3 h4 h5 h6 h7 h8 h9 h10
    simp only [Exit.then, e0, e1, e2, e3, e4, e5, e6, e7, e8, e9, e10]
    clear e0 e1 e2 e3 e4 e5 e6 e7 e8 e9 e10
    clear B0
    have B0 := s0
    clear s0
    clear B1
    have B1 := s1
    clear s1
    clear hb
    have hb := hB
    clear hB
    clear hbase hz lt_B0 lt_B1
    go_upto_region 2 with (fail)
    have lt_B0 : (w.heap.size) < W2.heap.size := B0.lt
    have lt_B1 : (w.heap.size + 1) < W2.heap.size := B1.lt
    have hbase : w.heap.size ≤ W2.heap.size := hb.size
    refine wp_region_steps0 Try.mixed (by kernel_rfl) (by kernel_rfl) (fun v => by (simp only [frL, Act.put, List.setIfInBounds_toArray, List.set_cons_zero, List.set_cons_succ, Nat.reduceAdd, Nat.zero_add]; exact rfl))
      (fun L v W3 => Below w.heap.size w W3 ∧ W2.heap.size ≤ W3.heap.size ∧ Blk W3 (w.heap.size) 64 22 (m) ∧ Blk W3 (w.heap.size + 1) 512 31 (fl 64 F) ∧ (L 0 = true → v 0 = (.int .i64 p)) ∧ (L 1 = true → v 1 = (.agg (bcells 64 (m)))) ∧ (L 2 = true → v 2 = (.agg (bcells 64 (m)))) ∧ (L 3 = true → v 3 = (.agg (bcells 512 (fl 64 F)))) ∧ (L 4 = true → v 4 = (.agg (bcells 512 (fl 64 F)))) ∧ (L 5 = true → v 5 = (.tuple #[(.int .i64 ((sdV p m F).1)), (.int .i64 ((sdV p m F).2))])) ∧ (L 6 = true → v 6 = (.tuple #[(.int .i64 ((sdV p m F).1)), (.int .i64 ((sdV p m F).2))])) ∧ (L 7 = true → v 7 = (.int .i64 ((sdV p m F).1))) ∧ (L 8 = true → v 8 = (.int .i64 ((sdV p m F).2))) ∧ (L 9 = true → v 9 = (.int .i64 ((sdV p m F).1))) ∧ (L 10 = true → v 10 = (.int .i64 ((sdV p m F).2)))) ?_ ?_ ?_
    · intro v hv0
      exact ⟨hb.drew, Nat.le_refl _, B0.drew, B1.drew, (fun h => by cases h), (fun h => by cases h), (fun h => by cases h), (fun h => by cases h), (fun h => by cases h), (fun h => by cases h), (fun h => by cases h), (fun h => by cases h), (fun h => by cases h), (fun h => by cases h), (fun h => by cases h)⟩
    · refine (.cons rfl ?_ (.cons rfl ?_ (.cons rfl ?_ (.cons rfl ?_ (.cons rfl ?_ (.cons rfl ?_ (.cons rfl ?_ (.cons rfl ?_ (.cons rfl ?_ (.cons rfl ?_ (.cons rfl ?_ (.nil _))))))))))))
      · intro L v W3 hd hn ⟨hB, hz, s0, s1, h0, h1, h2, h3, h4, h5, h6, h7, h8, h9, h10⟩ K hK
        go_wp2_with fail
        exact hK _ (.int .i64 p) _ (by simp only [Act.put, List.setIfInBounds_toArray, List.set_cons_zero, List.set_cons_succ ]) ⟨hB, hz, s0, s1, (fun _ => rfl), h1, h2, h3, h4, h5, h6, h7, h8, h9, h10⟩
      · intro L v W3 hd hn ⟨hB, hz, s0, s1, h0, h1, h2, h3, h4, h5, h6, h7, h8, h9, h10⟩ K hK
        refine wp_load_any 22 _ rfl _ rfl 64 22 _ s0 _ Try.underlying22 rfl Try.size22 ?_
        exact hK _ _ _ rfl ⟨hB, hz, s0, s1, h0, (fun _ => rfl), h2, h3, h4, h5, h6, h7, h8, h9, h10⟩
      · intro L v W3 hd hn ⟨hB, hz, s0, s1, h0, h1, h2, h3, h4, h5, h6, h7, h8, h9, h10⟩ K hK
        have e1 := h1 (hd ⟨1, .data⟩ (by simp) rfl)
        go_wp2_with (go_at_call 24; refine (toPoly_any m hm _).mono ?_; rintro e wy ⟨rfl, hy⟩)
        exact hK _ (.agg (bcells 64 (m))) _ (by simp only [Act.put, List.setIfInBounds_toArray, List.set_cons_zero, List.set_cons_succ, e1]) ⟨hB.trans (hy.mono hB.size), (Nat.le_trans hz hy.size), (s0).below hy (s0).lt, (s1).below hy (s1).lt, h0, h1, (fun _ => rfl), h3, h4, h5, h6, h7, h8, h9, h10⟩
      · intro L v W3 hd hn ⟨hB, hz, s0, s1, h0, h1, h2, h3, h4, h5, h6, h7, h8, h9, h10⟩ K hK
        refine wp_load_any 31 _ rfl _ rfl 512 31 _ s1 _ Try.underlying31 rfl Try.size31 ?_
        exact hK _ _ _ rfl ⟨hB, hz, s0, s1, h0, h1, h2, (fun _ => rfl), h4, h5, h6, h7, h8, h9, h10⟩
      · intro L v W3 hd hn ⟨hB, hz, s0, s1, h0, h1, h2, h3, h4, h5, h6, h7, h8, h9, h10⟩ K hK
        have e3 := h3 (hd ⟨3, .data⟩ (by simp) rfl)
        go_wp2_with (go_at_call 30; refine (toSkew_any F hF _).mono ?_; rintro e wy ⟨rfl, hy⟩)
        exact hK _ (.agg (bcells 512 (fl 64 F))) _ (by simp only [Act.put, List.setIfInBounds_toArray, List.set_cons_zero, List.set_cons_succ, e3]) ⟨hB.trans (hy.mono hB.size), (Nat.le_trans hz hy.size), (s0).below hy (s0).lt, (s1).below hy (s1).lt, h0, h1, h2, h3, (fun _ => rfl), h5, h6, h7, h8, h9, h10⟩
      · intro L v W3 hd hn ⟨hB, hz, s0, s1, h0, h1, h2, h3, h4, h5, h6, h7, h8, h9, h10⟩ K hK
        have e0 := h0 (hd ⟨0, .data⟩ (by simp) rfl)
        have e2 := h2 (hd ⟨2, .data⟩ (by simp) rfl)
        have e4 := h4 (hd ⟨4, .data⟩ (by simp) rfl)
        go_wp2_with (go_at_call 33; refine (impl_SkewDegree_any p m F hm hF _).mono ?_; rintro e wy ⟨rfl, hy⟩)
        exact hK _ (.tuple #[(.int .i64 ((sdV p m F).1)), (.int .i64 ((sdV p m F).2))]) _ (by simp only [Act.put, List.setIfInBounds_toArray, List.set_cons_zero, List.set_cons_succ, e0, e2, e4]) ⟨hB.trans (hy.mono hB.size), (Nat.le_trans hz hy.size), (s0).below hy (s0).lt, (s1).below hy (s1).lt, h0, h1, h2, h3, h4, (fun _ => rfl), h6, h7, h8, h9, h10⟩
      · intro L v W3 hd hn ⟨hB, hz, s0, s1, h0, h1, h2, h3, h4, h5, h6, h7, h8, h9, h10⟩ K hK
        have e5 := h5 (hd ⟨5, .data⟩ (by simp) rfl)
        go_wp2_with fail
        exact hK _ (.tuple #[(.int .i64 ((sdV p m F).1)), (.int .i64 ((sdV p m F).2))]) _ (by simp only [Act.put, List.setIfInBounds_toArray, List.set_cons_zero, List.set_cons_succ, e5]) ⟨hB, hz, s0, s1, h0, h1, h2, h3, h4, h5, (fun _ => rfl), h7, h8, h9, h10⟩
      · intro L v W3 hd hn ⟨hB, hz, s0, s1, h0, h1, h2, h3, h4, h5, h6, h7, h8, h9, h10⟩ K hK
        have e6 := h6 (hd ⟨6, .data⟩ (by simp) rfl)
        go_wp2_with fail
        exact hK _ (.int .i64 ((sdV p m F).1)) _ (by simp only [Act.put, List.setIfInBounds_toArray, List.set_cons_zero, List.set_cons_succ, e6]) ⟨hB, hz, s0, s1, h0, h1, h2, h3, h4, h5, h6, (fun _ => rfl), h8, h9, h10⟩
      · intro L v W3 hd hn ⟨hB, hz, s0, s1, h0, h1, h2, h3, h4, h5, h6, h7, h8, h9, h10⟩ K hK
        have e6 := h6 (hd ⟨6, .data⟩ (by simp) rfl)
        go_wp2_with fail
        exact hK _ (.int .i64 ((sdV p m F).2)) _ (by simp only [Act.put, List.setIfInBounds_toArray, List.set_cons_zero, List.set_cons_succ, e6]) ⟨hB, hz, s0, s1, h0, h1, h2, h3, h4, h5, h6, h7, (fun _ => rfl), h9, h10⟩
      · intro L v W3 hd hn ⟨hB, hz, s0, s1, h0, h1, h2, h3, h4, h5, h6, h7, h8, h9, h10⟩ K hK
        have e7 := h7 (hd ⟨7, .data⟩ (by simp) rfl)
        go_wp2_with fail
        exact hK _ (.int .i64 ((sdV p m F).1)) _ (by simp only [Act.put, List.setIfInBounds_toArray, List.set_cons_zero, List.set_cons_succ, e7]) ⟨hB, hz, s0, s1, h0, h1, h2, h3, h4, h5, h6, h7, h8, (fun _ => rfl), h10⟩
      · intro L v W3 hd hn ⟨hB, hz, s0, s1, h0, h1, h2, h3, h4, h5, h6, h7, h8, h9, h10⟩ K hK
        have e8 := h8 (hd ⟨8, .data⟩ (by simp) rfl)
        go_wp2_with fail
        exact hK _ (.int .i64 ((sdV p m F).2)) _ (by simp only [Act.put, List.setIfInBounds_toArray, List.set_cons_zero, List.set_cons_succ, e8]) ⟨hB, hz, s0, s1, h0, h1, h2, h3, h4, h5, h6, h7, h8, h9, (fun _ => rfl)⟩
    · intro L v W3 hL ⟨hB, hz, s0, s1, h0, h1, h2, h3, h4, h5, h6, h7, h8, h9, h10⟩
      have e0 := h0 (hL 0 (by decide))
      have e1 := h1 (hL 1 (by decide))
      have e2 := h2 (hL 2 (by decide))
      have e3 := h3 (hL 3 (by decide))
      have e4 := h4 (hL 4 (by decide))
      have e5 := h5 (hL 5 (by decide))
      have e6 := h6 (hL 6 (by decide))
      have e7 := h7 (hL 7 (by decide))
      have e8 := h8 (hL 8 (by decide))
      have e9 := h9 (hL 9 (by decide))
      have e10 := h10 (hL 10 (by decide))
      clear hL h0 h1 h2 h3 h4 h5 h6 h7 h8 h9 h10
      simp only [Exit.then, e0, e1, e2, e3, e4, e5, e6, e7, e8, e9, e10]
      clear e0 e1 e2 e3 e4 e5 e6 e7 e8 e9 e10
      clear B0
      have B0 := s0
      clear s0
      clear B1
      have B1 := s1
      clear s1
      clear hb
      have hb := hB
      clear hB
      clear hbase hz lt_B0 lt_B1
      go_upto_region 3 with (fail)
      go_wp2_with fail
      go_ret
      exact ⟨rfl, hb⟩
end Go.Proofs.Ytbjpkmbhbpcbgaa
end
section
namespace Go.Proofs.Ytbjpkmbhbpcbgaa
open Go.ChangeShapes Go.WideShapes Go.ChangeAt Go.RowKit
section
variable {H : Type} {enc : TypeId × Value → H} {P : Program}
theorem trod_int_to {e : TypeId} {k : IntKind} (he : P.underlying e = some (.int k)) {w : World} (w' : World) {b : Nat} (b' : Nat) {s : Nat → Bool} (s' : Nat → Bool) {h : Bool} (h' : Bool) {m : Nat} {c : List Value} {x : DataW H × List MemPlace}
    (hx : DataW.trod enc P w b s h m e c = some x) : DataW.trod enc P w' b' s' h' m e c = some x := by
  cases m with
  | zero => simp [DataW.trod] at hx
  | succ m =>
    obtain ⟨n, rfl, rfl, hw⟩ := DataW.trod_int he hx
    unfold DataW.trod
    rw [he]
    simp [hw]
theorem trod_int_same {e : TypeId} {k : IntKind} (he : P.underlying e = some (.int k)) (w w' : World) (b b' : Nat) (s s' : Nat → Bool) (h h' : Bool) (m : Nat) (c : List Value) :
    DataW.trod enc P w b s h m e c = DataW.trod enc P w' b' s' h' m e c := by
  cases h1 : DataW.trod enc P w b s h m e c with
  | some x => rw [trod_int_to he w' b' s' h' h1]
  | none =>
    cases h2 : DataW.trod enc P w' b' s' h' m e c with
    | none => rfl
    | some x => rw [trod_int_to he w b s h h2] at h1; cases h1
theorem open_barr {t e : TypeId} {n : Nat} {w : World} {r : Reach} {b0 base : Nat} {spare : Nat → Bool} {held : Bool} {v : Value} {d : DataW H} {p : List MemPlace}
    (ht : P.underlying t = some (.array n e)) (he : P.underlying e = some (.int .u8)) (hC : P.cellsOf t = n) (hCe : P.cellsOf e = 1)
    (hv : Value.okWide P w r b0 t v) (h : DataW.Trod enc P w base spare held t v d p) :
    ∃ f : Nat → Nat, byte f ∧ v = .agg (bcells n f) ∧ p = [] ∧ ∀ (w' : World) (base' : Nat) (spare' : Nat → Bool) (held' : Bool), DataW.Trod enc P w' base' spare' held' t v d [] := by
  unfold Value.okWide at hv
  rw [ht] at hv
  obtain ⟨cs, rfl, hsz, _⟩ := hv
  obtain ⟨fuel, hf⟩ := h
  obtain ⟨xs, m, hm, hx, hlen, hxl, hel⟩ := DataW.trod_array ht hf
  subst hm
  have hcs : cs.size = n := by rw [hsz, hC]
  have each : ∀ i, i < n → ∃ k : Nat, k < 256 ∧ cs[i]? = some (.int .u8 (k : Int)) ∧ xs[i]? = some (.lit (.int .u8 (k : Int)), []) := by
    intro i hi
    have h1 := hel i hi
    have hxi : xs[i]? = some (xs[i]'(by omega)) := List.getElem?_eq_getElem (by omega)
    rw [hxi, hCe] at h1
    obtain ⟨z, hz1, hz2, hz3⟩ := DataW.trod_int he h1
    have hb := bounds_u8 hz3
    obtain ⟨k, rfl⟩ := Int.eq_ofNat_of_zero_le hb.1
    refine ⟨k, by omega, ?_, by rw [hxi, hz2]⟩
    have h2 : ((cs.toList.drop (i * 1)).take 1)[0]? = some (.int .u8 (k : Int)) := by
      have h3 : (Value.agg cs).cells.toList = cs.toList := rfl
      rw [← h3, hz1]; rfl
    simpa using h2
  refine ⟨fun i => match cs[i]? with | some (.int _ z) => if i < n then z.toNat else 0 | _ => 0, ?_, ?_, ?_, ?_⟩
  · intro i
    by_cases hi : i < n
    · obtain ⟨k, hk, hc, _⟩ := each i hi
      simp only [hc, hi, if_true, Int.toNat_natCast]
      exact hk
    · have : cs[i]? = none := Array.getElem?_eq_none (by omega)
      simp [this]
  · congr 1
    apply Array.ext_getElem?
    intro i
    by_cases hi : i < n
    · obtain ⟨k, hk, hc, _⟩ := each i hi
      rw [bcells_get hi]
      simp only [hc, hi, if_true, Int.toNat_natCast]
    · rw [Array.getElem?_eq_none (by omega), Array.getElem?_eq_none (by rw [bcells_size]; omega)]
  · have hp : p = xs.flatMap (·.2) := by simpa using congrArg Prod.snd hx
    rw [hp]
    rw [List.flatMap_eq_nil_iff]
    intro x hxm
    obtain ⟨i, hi⟩ := List.getElem?_of_mem hxm
    have hin : i < n := by rw [← hxl]; exact (List.getElem?_eq_some_iff.1 hi).1
    obtain ⟨k, _, _, h2⟩ := each i hin
    rw [hi] at h2
    injection h2 with h2
    rw [h2]
  · intro w' base' spare' held'
    refine ⟨m + 1, ?_⟩
    have e1 : DataW.trod enc P w' base' spare' held' (m + 1) t (Value.agg cs).cells.toList = DataW.trod enc P w base spare held (m + 1) t (Value.agg cs).cells.toList := by
      unfold DataW.trod
      rw [ht]
      simp only [trod_int_same he w' w base' base spare' spare held' held m]
    rw [e1, hf]
    have hp : p = xs.flatMap (·.2) := by simpa using congrArg Prod.snd hx
    have : p = [] := by
      rw [hp, List.flatMap_eq_nil_iff]
      intro x hxm
      obtain ⟨i, hi⟩ := List.getElem?_of_mem hxm
      have hin : i < n := by rw [← hxl]; exact (List.getElem?_eq_some_iff.1 hi).1
      obtain ⟨k, _, _, h2⟩ := each i hin
      rw [hi] at h2
      injection h2 with h2
      rw [h2]
    rw [this]
/-- the row's last step where the call has only made new memory, and the row does not say 'again' -/
theorem post_of_below0 {f : Func} {s : ChangeSpec} {apart fresh handsOn : Bool} {W W' : World} {args : Array Value} {v : Value} {ds gs : List (DataW H)} {before pa pv : List MemPlace}
    (hW : DataW.Whole enc P f.params.toList s.vars apart W args.toList ds gs before)
    (hres : ∀ (b : Nat) (sp : Nat → Bool) (hd : Bool), DataW.TrodAll enc P W' b sp hd f.resultTypes.toList (v.resultList f.resultTypes.size) (s.fn H (ds ++ gs)).results [])
    (hargs : ∀ sp : Nat → Bool, (∀ p ∈ before, sp p.block = true) → DataW.TrodAll enc P W' 0 sp true f.params.toList args.toList (s.fn H (ds ++ gs)).args pa)
    (hvars : ∀ sp : Nat → Bool, (∀ p ∈ before, sp p.block = true) → DataW.TrodVars enc P W' sp s.vars (s.fn H (ds ++ gs)).vars pv)
    (hps : before = pa ++ pv) (hb : Below W.heap.size W W') : s.post enc P f apart fresh handsOn false W args v W' := by
  have held : ∀ p ∈ before, (fun b => decide (b < W.heap.size)) p.block = true := fun p hp => by simpa using hW.lt p hp
  refine ⟨ds, gs, before, [], pa, pv, hW, hres _ _ _, hargs _ held, hvars _ held, ?_, fun h => by cases h⟩
  refine World.keptBut_mono (fun p hp => ⟨hp, .inr ?_⟩) (hb.frame (· ∈ before))
  rw [hps, List.mem_append] at hp
  exact hp
end
end Go.Proofs.Ytbjpkmbhbpcbgaa
end
section
namespace Go.Proofs.Ytbjpkmbhbpcbgaa
open Go.ChangeShapes Go.WideShapes Go.ChangeAt Go.RowKit
set_option linter.unusedVariables false
theorem fl_whole (f : Nat → Nat) : fl 64 (fun i j => f (i * 64 + j)) = f := by
  funext k
  unfold fl
  show f (k / 64 * 64 + k % 64) = f k
  congr 1
  omega
section
variable {H : Type} {enc : TypeId × Value → H} {P : Program}
theorem trod_barr_same {e u n : Nat} {k : IntKind} (he : P.underlying e = some (.array n u)) (hu : P.underlying u = some (.int k)) (w w' : World) (b b' : Nat) (s s' : Nat → Bool) (h h' : Bool) (m : Nat) (c : List Value) :
    DataW.trod enc P w b s h m e c = DataW.trod enc P w' b' s' h' m e c := by
  cases m with
  | zero => simp [DataW.trod]
  | succ m =>
    unfold DataW.trod
    rw [he]
    simp only [trod_int_same hu w w' b b' s s' h h' m]
theorem open_bsk {t e u : TypeId} {w : World} {r : Reach} {b0 base : Nat} {spare : Nat → Bool} {held : Bool} {v : Value} {d : DataW H} {p : List MemPlace}
    (ht : P.underlying t = some (.array 8 e)) (he : P.underlying e = some (.array 64 u)) (hu : P.underlying u = some (.int .u8)) (hC : P.cellsOf t = 512) (hCe : P.cellsOf e = 64) (hCu : P.cellsOf u = 1)
    (hv : Value.okWide P w r b0 t v) (h : DataW.Trod enc P w base spare held t v d p) :
    ∃ F : Nat → Nat → Nat, (∀ i, byte (F i)) ∧ v = .agg (bcells 512 (fl 64 F)) ∧ p = [] ∧ ∀ (w' : World) (base' : Nat) (spare' : Nat → Bool) (held' : Bool), DataW.Trod enc P w' base' spare' held' t v d [] := by
  unfold Value.okWide at hv
  rw [ht] at hv
  obtain ⟨cs, rfl, hsz, _⟩ := hv
  obtain ⟨fuel, hf⟩ := h
  obtain ⟨xs, m, hm, hx, hlen, hxl, hel⟩ := DataW.trod_array ht hf
  subst hm
  have hcs : cs.size = 512 := by rw [hsz, hC]
  have each : ∀ i, i < 8 → (∃ y, xs[i]? = some (y, [])) ∧ ∀ j, j < 64 → ∃ k : Nat, k < 256 ∧ cs[i * 64 + j]? = some (.int .u8 (k : Int)) := by
    intro i hi
    have h1 := hel i hi
    have hxi : xs[i]? = some (xs[i]'(by omega)) := List.getElem?_eq_getElem (by omega)
    rw [hxi, hCe] at h1
    obtain ⟨ys, m2, hm2, hx2, hlen2, hyl, hel2⟩ := DataW.trod_array he h1
    subst hm2
    have byt : ∀ j, j < 64 → ∃ k : Nat, k < 256 ∧ cs[i * 64 + j]? = some (.int .u8 (k : Int)) ∧ ys[j]? = some (.lit (.int .u8 (k : Int)), []) := by
      intro j hj
      have h3 := hel2 j hj
      have hyj : ys[j]? = some (ys[j]'(by omega)) := List.getElem?_eq_getElem (by omega)
      rw [hyj, hCu] at h3
      obtain ⟨z, hz1, hz2, hz3⟩ := DataW.trod_int hu h3
      have hb := bounds_u8 hz3
      obtain ⟨k, rfl⟩ := Int.eq_ofNat_of_zero_le hb.1
      refine ⟨k, by omega, ?_, by rw [hyj, hz2]⟩
      have h4 : (((((Value.agg cs).cells.toList.drop (i * 64)).take 64).drop (j * 1)).take 1)[0]? = some (.int .u8 (k : Int)) := by
        rw [hz1]; rfl
      have h5 : (Value.agg cs).cells.toList = cs.toList := rfl
      rw [h5] at h4
      simp only [List.getElem?_take, List.getElem?_drop, Nat.mul_one, Nat.add_zero, Nat.lt_add_one, if_true, hj] at h4
      simpa using h4
    refine ⟨⟨(xs[i]'(by omega)).1, ?_⟩, fun j hj => let ⟨k, a, b, _⟩ := byt j hj; ⟨k, a, b⟩⟩
    · rw [hxi]
      congr 1
      refine Prod.ext rfl ?_
      have hp : (xs[i]'(by omega)).2 = ys.flatMap (·.2) := by simpa using congrArg Prod.snd hx2
      show (xs[i]'(by omega)).2 = []
      rw [hp, List.flatMap_eq_nil_iff]
      intro x hxm
      obtain ⟨j, hj⟩ := List.getElem?_of_mem hxm
      have hjn : j < 64 := by rw [← hyl]; exact (List.getElem?_eq_some_iff.1 hj).1
      obtain ⟨k, _, _, h2⟩ := byt j hjn
      rw [hj] at h2
      injection h2 with h2
      rw [h2]
  have hp : p = [] := by
    have hp : p = xs.flatMap (·.2) := by simpa using congrArg Prod.snd hx
    rw [hp, List.flatMap_eq_nil_iff]
    intro x hxm
    obtain ⟨i, hi⟩ := List.getElem?_of_mem hxm
    have hin : i < 8 := by rw [← hxl]; exact (List.getElem?_eq_some_iff.1 hi).1
    obtain ⟨⟨y, h2⟩, _⟩ := each i hin
    rw [hi] at h2
    injection h2 with h2
    rw [h2]
  have cell : ∀ k, k < 512 → ∃ z : Nat, z < 256 ∧ cs[k]? = some (.int .u8 (z : Int)) := by
    intro k hk
    obtain ⟨z, a, b⟩ := (each (k / 64) (by omega)).2 (k % 64) (by omega)
    rw [show k / 64 * 64 + k % 64 = k by omega] at b
    exact ⟨z, a, b⟩
  obtain ⟨f, hf1, hf2⟩ : ∃ f : Nat → Nat, byte f ∧ (Value.agg cs) = .agg (bcells 512 f) := by
    refine ⟨fun i => match cs[i]? with | some (.int _ z) => if i < 512 then z.toNat else 0 | _ => 0, ?_, ?_⟩
    · intro i
      by_cases hi : i < 512
      · obtain ⟨k, hk, hc⟩ := cell i hi
        simp only [hc, hi, if_true, Int.toNat_natCast]
        exact hk
      · have : cs[i]? = none := Array.getElem?_eq_none (by omega)
        simp [this]
    · congr 1
      apply Array.ext_getElem?
      intro i
      by_cases hi : i < 512
      · obtain ⟨k, hk, hc⟩ := cell i hi
        rw [bcells_get hi]
        simp only [hc, hi, if_true, Int.toNat_natCast]
      · rw [Array.getElem?_eq_none (by omega), Array.getElem?_eq_none (by rw [bcells_size]; omega)]
  refine ⟨fun i j => f (i * 64 + j), fun i j => hf1 _, ?_, hp, ?_⟩
  · rw [fl_whole]; exact hf2
  · intro w' base' spare' held'
    refine ⟨m + 1, ?_⟩
    have e1 : DataW.trod enc P w' base' spare' held' (m + 1) t (Value.agg cs).cells.toList = DataW.trod enc P w base spare held (m + 1) t (Value.agg cs).cells.toList := by
      unfold DataW.trod
      rw [ht]
      simp only [trod_barr_same he hu w' w base' base spare' spare held' held m]
    rw [e1, hf, hp]
end
end Go.Proofs.Ytbjpkmbhbpcbgaa
end
section
namespace Go.Proofs.Ytbjpkmbhbpcbgaa
open Go
def cutW : List Char := [Char.ofNat 99, Char.ofNat 117, Char.ofNat 116]
theorem strip_cut (rest : List (List Char)) : stripLifts liftWords (cutW :: rest) = ([], cutW :: rest) := by
  have key : ∀ os : List String, (os.all fun o => !(cutW == o.toList)) = true → stripLifts os (cutW :: rest) = ([], cutW :: rest) := by
    intro os
    induction os with
    | nil => intro _; rfl
    | cons o os ih =>
      intro h
      simp only [List.all_cons, Bool.and_eq_true, Bool.not_eq_true'] at h
      unfold stripLifts
      rw [h.1]
      exact ih h.2
  exact key _ (by decide +kernel)
theorem make_cut {P : Program} {rest : List (List Char)} (h : behindMainWord (wordsSigns P.initOrder.toList) = cutW :: rest) : P.make = some .cut := by
  unfold Program.make
  rw [h]
  have e1 : (cutW == "gc".toList || cutW == "spec".toList) = false := by decide +kernel
  have e2 : (cutW == "cut".toList) = true := by decide +kernel
  simp only [e1, e2, Bool.true_or]
  rfl
theorem mayEnter_cut {P : Program} {rest : List (List Char)} (h : behindMainWord (wordsSigns P.initOrder.toList) = cutW :: rest) (h1 : P.laysLater = false) (h2 : P.bearsReflect = false) (h3 : P.doorFits [] = true) : P.mayEnter = true := by
  unfold Program.mayEnter
  rw [h]
  have e2 : (some cutW == some "cut".toList) = true := by decide +kernel
  simp only [strip_cut, h1, h2, h3, List.head?_cons, e2]
  simp
theorem lifts_cut {P : Program} {rest : List (List Char)} (h : behindMainWord (wordsSigns P.initOrder.toList) = cutW :: rest) : P.liftsFinal = false := by
  unfold Program.liftsFinal Program.headLifts
  rw [h]
  have e2 : (some cutW == some "cut".toList) = true := by decide +kernel
  have e3 : (some cutW == some "carried".toList) = false := by decide +kernel
  simp only [strip_cut, List.head?_cons, e2, e3]
  simp
/-- the signs of the head, and its words behind the first three -/
def initSigns : List Nat := [104, 97, 114, 110, 101, 115, 115, 32, 101, 51, 54, 49, 54, 99, 97, 51, 99, 98, 54, 102, 52, 57, 52, 51, 51, 101, 56, 54, 53, 53, 54, 51, 52, 50, 97, 49, 49, 57, 55, 53, 101, 48, 99, 53, 57, 53, 54, 98, 55, 49, 50, 57, 57, 98, 48, 101, 102, 53, 101, 49, 98, 102, 51, 50, 101, 101, 97, 52, 55, 100, 49, 53, 32, 99, 117, 116, 32, 97, 116, 32, 108, 111, 111, 112, 46, 101, 120, 97, 109, 112, 108, 101, 47, 103, 48, 49, 50, 52, 53, 47, 108, 97, 119, 115, 46, 70, 110, 69, 120, 97, 99, 116, 80, 111, 119, 101, 114, 79, 102, 32, 108, 111, 111, 112, 46, 101, 120, 97, 109, 112, 108, 101, 47, 103, 48, 49, 50, 52, 53, 47, 108, 97, 119, 115, 46, 70, 110, 69, 120, 97, 99, 116, 80, 114, 105, 109, 105, 116, 105, 118, 101, 79, 102, 32, 108, 111, 111, 112, 46, 101, 120, 97, 109, 112, 108, 101, 47, 103, 48, 49, 50, 52, 53, 47, 108, 97, 119, 115, 46, 70, 110, 69, 120, 97, 99, 116, 73, 115, 83, 107, 101, 119, 32, 108, 111, 111, 112, 46, 101, 120, 97, 109, 112, 108, 101, 47, 103, 48, 49, 50, 52, 53, 47, 108, 97, 119, 115, 46, 70, 110, 69, 120, 97, 99, 116, 83, 107, 101, 119, 68, 101, 103, 114, 101, 101, 32, 108, 111, 111, 112, 46, 101, 120, 97, 109, 112, 108, 101, 47, 103, 48, 49, 50, 52, 53, 47, 108, 97, 119, 115, 46, 70, 110, 69, 120, 97, 99, 116, 65, 100, 100, 83, 107, 101, 119, 115, 32, 108, 111, 111, 112, 46, 101, 120, 97, 109, 112, 108, 101, 47, 103, 48, 49, 50, 52, 53, 47, 108, 97, 119, 115, 46, 70, 110, 69, 120, 97, 99, 116, 77, 117, 108, 116, 105, 112, 108, 121, 83, 107, 101, 119, 115, 32, 108, 111, 111, 112, 46, 101, 120, 97, 109, 112, 108, 101, 47, 103, 48, 49, 50, 52, 53, 47, 108, 97, 119, 115, 46, 70, 110, 69, 120, 97, 99, 116, 86, 97, 108, 117, 101, 79, 102, 83, 107, 101, 119, 32, 108, 111, 111, 112, 46, 101, 120, 97, 109, 112, 108, 101, 47, 103, 48, 49, 50, 52, 53, 47, 108, 97, 119, 115, 46, 70, 110, 69, 120, 97, 99, 116, 65, 100, 100, 65, 99, 116, 105, 111, 110, 115, 32, 108, 111, 111, 112, 46, 101, 120, 97, 109, 112, 108, 101, 47, 103, 48, 49, 50, 52, 53, 47, 108, 97, 119, 115, 46, 70, 110, 69, 120, 97, 99, 116, 65, 99, 116, 79, 110, 82, 101, 115, 105, 100, 117, 101, 32, 108, 111, 111, 112, 46, 101, 120, 97, 109, 112, 108, 101, 47, 103, 48, 49, 50, 52, 53, 47, 108, 97, 119, 115, 46, 70, 110, 69, 120, 97, 99, 116, 65, 110, 110, 105, 104, 105, 108, 97, 116, 111, 114, 79, 102, 32, 108, 111, 111, 112, 46, 101, 120, 97, 109, 112, 108, 101, 47, 103, 48, 49, 50, 52, 53, 47, 108, 97, 119, 115, 46, 70, 110, 69, 120, 97, 99, 116, 69, 120, 112, 111, 110, 101, 110, 116, 79, 102, 32, 108, 111, 111, 112, 46, 101, 120, 97, 109, 112, 108, 101, 47, 103, 48, 49, 50, 52, 53, 47, 108, 97, 119, 115, 46, 70, 110, 69, 120, 97, 99, 116, 84, 111, 114, 115, 105, 111, 110, 78, 117, 109, 98, 101, 114, 32, 108, 111, 111, 112, 46, 101, 120, 97, 109, 112, 108, 101, 47, 103, 48, 49, 50, 52, 53, 47, 108, 97, 119, 115, 46, 70, 110, 69, 120, 97, 99, 116, 68, 101, 101, 112, 82, 101, 115, 116, 32, 108, 111, 111, 112, 46, 101, 120, 97, 109, 112, 108, 101, 47, 103, 48, 49, 50, 52, 53, 47, 108, 97, 119, 115, 46, 70, 110, 69, 120, 97, 99, 116, 66, 114, 97, 99, 107, 101, 116, 79, 102, 32, 108, 111, 111, 112, 46, 101, 120, 97, 109, 112, 108, 101, 47, 103, 48, 49, 50, 52, 53, 47, 108, 97, 119, 115, 46, 70, 110, 69, 120, 97, 99, 116, 70, 105, 114, 115, 116, 70, 97, 99, 116, 111, 114, 105, 97, 108, 32, 108, 111, 111, 112, 46, 101, 120, 97, 109, 112, 108, 101, 47, 103, 48, 49, 50, 52, 53, 47, 108, 97, 119, 115, 46, 70, 110, 69, 120, 97, 99, 116, 83, 101, 99, 111, 110, 100, 70, 97, 99, 116, 111, 114, 105, 97, 108, 32, 108, 111, 111, 112, 46, 101, 120, 97, 109, 112, 108, 101, 47, 103, 48, 49, 50, 52, 53, 47, 108, 97, 119, 115, 46, 70, 110, 69, 120, 97, 99, 116, 65, 99, 116, 105, 111, 110, 79, 102, 32, 108, 111, 111, 112, 46, 101, 120, 97, 109, 112, 108, 101, 47, 103, 48, 49, 50, 52, 53, 47, 108, 97, 119, 115, 46, 70, 110, 69, 120, 97, 99, 116, 67, 111, 109, 112, 111, 115, 101, 65, 99, 116, 105, 111, 110, 115, 32, 108, 111, 111, 112, 46, 101, 120, 97, 109, 112, 108, 101, 47, 103, 48, 49, 50, 52, 53, 47, 108, 97, 119, 115, 46, 70, 110, 69, 120, 97, 99, 116, 66, 105, 110, 111, 109, 105, 97, 108, 79, 102, 32, 108, 111, 111, 112, 46, 101, 120, 97, 109, 112, 108, 101, 47, 103, 48, 49, 50, 52, 53, 47, 108, 97, 119, 115, 46, 70, 110, 69, 120, 97, 99, 116, 67, 97, 114, 108, 105, 116, 122, 70, 97, 99, 116, 111, 114, 105, 97, 108]
def initRest : List (List Nat) := [[97, 116], [108, 111, 111, 112, 46, 101, 120, 97, 109, 112, 108, 101, 47, 103, 48, 49, 50, 52, 53, 47, 108, 97, 119, 115, 46, 70, 110, 69, 120, 97, 99, 116, 80, 111, 119, 101, 114, 79, 102], [108, 111, 111, 112, 46, 101, 120, 97, 109, 112, 108, 101, 47, 103, 48, 49, 50, 52, 53, 47, 108, 97, 119, 115, 46, 70, 110, 69, 120, 97, 99, 116, 80, 114, 105, 109, 105, 116, 105, 118, 101, 79, 102], [108, 111, 111, 112, 46, 101, 120, 97, 109, 112, 108, 101, 47, 103, 48, 49, 50, 52, 53, 47, 108, 97, 119, 115, 46, 70, 110, 69, 120, 97, 99, 116, 73, 115, 83, 107, 101, 119], [108, 111, 111, 112, 46, 101, 120, 97, 109, 112, 108, 101, 47, 103, 48, 49, 50, 52, 53, 47, 108, 97, 119, 115, 46, 70, 110, 69, 120, 97, 99, 116, 83, 107, 101, 119, 68, 101, 103, 114, 101, 101], [108, 111, 111, 112, 46, 101, 120, 97, 109, 112, 108, 101, 47, 103, 48, 49, 50, 52, 53, 47, 108, 97, 119, 115, 46, 70, 110, 69, 120, 97, 99, 116, 65, 100, 100, 83, 107, 101, 119, 115], [108, 111, 111, 112, 46, 101, 120, 97, 109, 112, 108, 101, 47, 103, 48, 49, 50, 52, 53, 47, 108, 97, 119, 115, 46, 70, 110, 69, 120, 97, 99, 116, 77, 117, 108, 116, 105, 112, 108, 121, 83, 107, 101, 119, 115], [108, 111, 111, 112, 46, 101, 120, 97, 109, 112, 108, 101, 47, 103, 48, 49, 50, 52, 53, 47, 108, 97, 119, 115, 46, 70, 110, 69, 120, 97, 99, 116, 86, 97, 108, 117, 101, 79, 102, 83, 107, 101, 119], [108, 111, 111, 112, 46, 101, 120, 97, 109, 112, 108, 101, 47, 103, 48, 49, 50, 52, 53, 47, 108, 97, 119, 115, 46, 70, 110, 69, 120, 97, 99, 116, 65, 100, 100, 65, 99, 116, 105, 111, 110, 115], [108, 111, 111, 112, 46, 101, 120, 97, 109, 112, 108, 101, 47, 103, 48, 49, 50, 52, 53, 47, 108, 97, 119, 115, 46, 70, 110, 69, 120, 97, 99, 116, 65, 99, 116, 79, 110, 82, 101, 115, 105, 100, 117, 101], [108, 111, 111, 112, 46, 101, 120, 97, 109, 112, 108, 101, 47, 103, 48, 49, 50, 52, 53, 47, 108, 97, 119, 115, 46, 70, 110, 69, 120, 97, 99, 116, 65, 110, 110, 105, 104, 105, 108, 97, 116, 111, 114, 79, 102], [108, 111, 111, 112, 46, 101, 120, 97, 109, 112, 108, 101, 47, 103, 48, 49, 50, 52, 53, 47, 108, 97, 119, 115, 46, 70, 110, 69, 120, 97, 99, 116, 69, 120, 112, 111, 110, 101, 110, 116, 79, 102], [108, 111, 111, 112, 46, 101, 120, 97, 109, 112, 108, 101, 47, 103, 48, 49, 50, 52, 53, 47, 108, 97, 119, 115, 46, 70, 110, 69, 120, 97, 99, 116, 84, 111, 114, 115, 105, 111, 110, 78, 117, 109, 98, 101, 114], [108, 111, 111, 112, 46, 101, 120, 97, 109, 112, 108, 101, 47, 103, 48, 49, 50, 52, 53, 47, 108, 97, 119, 115, 46, 70, 110, 69, 120, 97, 99, 116, 68, 101, 101, 112, 82, 101, 115, 116], [108, 111, 111, 112, 46, 101, 120, 97, 109, 112, 108, 101, 47, 103, 48, 49, 50, 52, 53, 47, 108, 97, 119, 115, 46, 70, 110, 69, 120, 97, 99, 116, 66, 114, 97, 99, 107, 101, 116, 79, 102], [108, 111, 111, 112, 46, 101, 120, 97, 109, 112, 108, 101, 47, 103, 48, 49, 50, 52, 53, 47, 108, 97, 119, 115, 46, 70, 110, 69, 120, 97, 99, 116, 70, 105, 114, 115, 116, 70, 97, 99, 116, 111, 114, 105, 97, 108], [108, 111, 111, 112, 46, 101, 120, 97, 109, 112, 108, 101, 47, 103, 48, 49, 50, 52, 53, 47, 108, 97, 119, 115, 46, 70, 110, 69, 120, 97, 99, 116, 83, 101, 99, 111, 110, 100, 70, 97, 99, 116, 111, 114, 105, 97, 108], [108, 111, 111, 112, 46, 101, 120, 97, 109, 112, 108, 101, 47, 103, 48, 49, 50, 52, 53, 47, 108, 97, 119, 115, 46, 70, 110, 69, 120, 97, 99, 116, 65, 99, 116, 105, 111, 110, 79, 102], [108, 111, 111, 112, 46, 101, 120, 97, 109, 112, 108, 101, 47, 103, 48, 49, 50, 52, 53, 47, 108, 97, 119, 115, 46, 70, 110, 69, 120, 97, 99, 116, 67, 111, 109, 112, 111, 115, 101, 65, 99, 116, 105, 111, 110, 115], [108, 111, 111, 112, 46, 101, 120, 97, 109, 112, 108, 101, 47, 103, 48, 49, 50, 52, 53, 47, 108, 97, 119, 115, 46, 70, 110, 69, 120, 97, 99, 116, 66, 105, 110, 111, 109, 105, 97, 108, 79, 102], [108, 111, 111, 112, 46, 101, 120, 97, 109, 112, 108, 101, 47, 103, 48, 49, 50, 52, 53, 47, 108, 97, 119, 115, 46, 70, 110, 69, 120, 97, 99, 116, 67, 97, 114, 108, 105, 116, 122, 70, 97, 99, 116, 111, 114, 105, 97, 108]]
theorem init_split : behindMainWord (wordsSigns (initSigns.map Char.ofNat)) = cutW :: initRest.map (fun w => w.map Char.ofNat) := by kernel_rfl
theorem init_order : Try.prog.initOrder = String.ofList (initSigns.map Char.ofNat) := by kernel_rfl
theorem init_cut : behindMainWord (wordsSigns Try.prog.initOrder.toList) = cutW :: initRest.map (fun w => w.map Char.ofNat) :=
  (congrArg (fun s : String => behindMainWord (wordsSigns s.toList)) init_order).trans ((congrArg (fun l => behindMainWord (wordsSigns l)) String.toList_ofList).trans init_split)
theorem Try.laysLater : Try.prog.laysLater = false := by kernel_rfl
theorem Try.bearsReflect : Try.prog.bearsReflect = false := by kernel_rfl
theorem Try.doorFits : Try.prog.doorFits [] = true := by kernel_rfl
theorem Try.mayEnter : Try.pinned.checked.prog.mayEnter = true := mayEnter_cut init_cut Try.laysLater Try.bearsReflect Try.doorFits
theorem Try.liftsFinal : Try.pinned.checked.prog.liftsFinal = false := lifts_cut init_cut
theorem Try.make : Try.pinned.checked.prog.make = some .cut := make_cut init_cut
end Go.Proofs.Ytbjpkmbhbpcbgaa
end
