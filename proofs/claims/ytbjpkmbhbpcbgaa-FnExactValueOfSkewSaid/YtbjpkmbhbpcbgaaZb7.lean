/-
  What the rows of this claim rest on: arrays of bytes, walks of the functions, plain mathematics.
-/
import Derived.Test.YtbjpkmbhbpcbgaaZb6
import Derived.OpenShut
import Derived.ProofKit
import Derived.Test.YtbjpkmbhbpcbgaaRows
import Derived.JoinedOf
section
namespace Go.Proofs.Ytbjpkmbhbpcbgaa
open Go Go.RowKit
set_option linter.unusedVariables false
set_option linter.unusedSimpArgs false
attribute [local irreducible] deg addK okA flV
/-- a residue -/
noncomputable def rsB (p : Int) (m x : Nat → Nat) : Bool := okA p x && decide (deg x < deg m)
theorem rsB_1 {p : Int} {m x : Nat → Nat} (h : okA p x = false) : rsB p m x = false := by unfold rsB; rw [h]; rfl
theorem rsB_2 {p : Int} {m x : Nat → Nat} (h : okA p x = true) (h2 : deg x < deg m) : rsB p m x = true := by unfold rsB; rw [h]; simpa using h2
theorem rsB_3 {p : Int} {m x : Nat → Nat} (h : okA p x = true) (h2 : ¬ deg x < deg m) : rsB p m x = false := by unfold rsB; rw [h]; simpa using h2
/-- a skew polynomial -/
noncomputable def skB (p : Int) (m : Nat → Nat) (F : Nat → Nat → Nat) : Bool := (List.range 8).all fun i => rsB p m (F i)
theorem skB_yes {p : Int} {m : Nat → Nat} {F : Nat → Nat → Nat} (h : ∀ i, i < 8 → rsB p m (F i) = true) : skB p m F = true := by
  unfold skB; rw [List.all_eq_true]; intro i hi; exact h i (by simpa using hi)
theorem skB_no {p : Int} {m : Nat → Nat} {F : Nat → Nat → Nat} {i : Nat} (hi : i < 8) (h : rsB p m (F i) = false) : skB p m F = false := by
  cases h2 : skB p m F with
  | false => rfl
  | true =>
    unfold skB at h2; rw [List.all_eq_true] at h2
    have := h2 i (by simpa using hi)
    rw [h] at this; cases this
theorem skB_at {p : Int} {m : Nat → Nat} {F : Nat → Nat → Nat} (h : skB p m F = true) {i : Nat} (hi : i < 8) : rsB p m (F i) = true := by
  unfold skB at h; rw [List.all_eq_true] at h; exact h i (by simpa using hi)
/-- the code of a field and skew polynomials -/
noncomputable def ckS (p : Int) (m : Nat → Nat) (Fs : List (Nat → Nat → Nat)) : Int := if flV p m = true ∧ (∀ F, F ∈ Fs → skB p m F = true) then 0 else 1
theorem ckS_f {p : Int} {m : Nat → Nat} {Fs : List (Nat → Nat → Nat)} (h : flV p m = false) : ckS p m Fs = 1 := if_neg (fun a => by rw [h] at a; exact absurd a.1 (by simp))
theorem ckS_no {p : Int} {m : Nat → Nat} {Fs : List (Nat → Nat → Nat)} {F : Nat → Nat → Nat} {j : Nat} (hj : Fs[j]? = some F) (h : skB p m F = false) : ckS p m Fs = 1 := if_neg (fun a => by
  have := a.2 F (List.mem_of_getElem? hj); rw [h] at this; cases this)
theorem ckS_yes {p : Int} {m : Nat → Nat} {Fs : List (Nat → Nat → Nat)} (h : flV p m = true) (h2 : ∀ (i : Nat) (F : Nat → Nat → Nat), Fs[i]? = some F → skB p m F = true) : ckS p m Fs = 0 := if_pos ⟨h, fun F hF => by
  obtain ⟨i, hi, e⟩ := List.getElem_of_mem hF
  exact h2 i F (by rw [← e]; exact List.getElem?_eq_getElem hi)⟩
theorem ckS_two (p : Int) (m : Nat → Nat) (Fs : List (Nat → Nat → Nat)) : ckS p m Fs = 0 ∨ ckS p m Fs = 1 := by unfold ckS; split <;> simp
theorem ckS_zero {p : Int} {m : Nat → Nat} {Fs : List (Nat → Nat → Nat)} (h : ckS p m Fs = 0) : flV p m = true ∧ ∀ F, F ∈ Fs → skB p m F = true := by
  unfold ckS at h
  by_cases a : flV p m = true ∧ (∀ F, F ∈ Fs → skB p m F = true)
  · exact a
  · rw [if_neg a] at h; omega
attribute [irreducible] rsB skB ckS
set_option maxRecDepth 100000 in
set_option maxHeartbeats 1600000 in
theorem l03Residue_any (p : Int) (m x : Nat → Nat) (hm : byte m) (hx : byte x) (w : World) :
    Calls Try.prog 102 #[.int .i64 p, .agg (bcells 64 m), .agg (bcells 64 x)] w fun e w' => e = .returned (.bool (rsB p m x)) ∧ Below w.heap.size w w' := by
  go_enter Try.func102, Try.ntmps102
  go_upto_region 1 with (fail)
  obtain ⟨W1, hwo⟩ : ∃ v : World, v = ((w.alloc (.cells (bcells 64 (m)) 23)).alloc (.cells (bcells 64 (x)) 23)) := ⟨_, rfl⟩
  have B0 : Blk W1 (w.heap.size) 64 23 (m) := by subst hwo; have := ((Blk.new w 64 23 (m)).alloc (.cells (bcells 64 (x)) 23)); simpa using this
  have B1 : Blk W1 (w.heap.size + 1) 64 23 (x) := by subst hwo; have := (Blk.new (w.alloc (.cells (bcells 64 (m)) 23)) 64 23 (x)); simpa using this
  have hb : Below w.heap.size w W1 := by subst hwo; exact (((Below.refl _ _).alloc (Nat.le_refl _) _).alloc (by simp) _)
  rw [← hwo]
  clear hwo
  cases ho : okA p x with
  | false =>
    have HV := Lib.hid (rsB_1 (m := m) ho)
    have HOK := Lib.hid (fun W => l01Is_any p x hx W)
    rw [ho] at HOK
    have HDG := Lib.hid (fun f W => l01Deg_any f W)
    clear ho
    have lt_B0 : (w.heap.size) < W1.heap.size := B0.lt
    have lt_B1 : (w.heap.size + 1) < W1.heap.size := B1.lt
    have hbase : w.heap.size ≤ W1.heap.size := hb.size
    refine wp_region_stepsG Try.mixed (by kernel_rfl) (by kernel_rfl) (fun v => by (simp only [frL, Act.put, List.setIfInBounds_toArray, List.set_cons_zero, List.set_cons_succ, Nat.reduceAdd, Nat.zero_add]; exact rfl))
      (fun L v W2 => Below w.heap.size w W2 ∧ W1.heap.size ≤ W2.heap.size ∧ Blk W2 (w.heap.size) 64 23 (m) ∧ Blk W2 (w.heap.size + 1) 64 23 (x) ∧ (L 0 = true → v 0 = (.int .i64 p)) ∧ (L 1 = true → v 1 = (.agg (bcells 64 (x)))) ∧ (L 2 = true → v 2 = (.bool false)) ∧ (L 3 = true → v 3 = (.bool false)) ∧ (L 4 = true → v 4 = undef) ∧ (L 5 = true → v 5 = undef) ∧ (L 6 = true → v 6 = undef) ∧ (L 7 = true → v 7 = undef) ∧ (L 8 = true → v 8 = undef) ∧ (L 9 = true → v 9 = (.bool false)) ∧ (L 10 = true → v 10 = (.bool false))) ?_ ?_ ?_
    · intro v hv0
      exact ⟨hb.drew, Nat.le_refl _, B0.drew, B1.drew, (fun h => by cases h), (fun h => by cases h), (fun h => by cases h), (fun h => by cases h), (fun h => by cases h), (fun h => by cases h), (fun h => by cases h), (fun h => by cases h), (fun h => by cases h), (fun h => by cases h), (fun h => by cases h)⟩
    · refine (.cons ?_ (.cons ?_ (.cons ?_ (.cons ?_ (.cons ?_ (.cons ?_ (.cons ?_ (.cons ?_ (.cons ?_ (.cons ?_ (.cons ?_ (.nil _))))))))))))
      · intro L v W2 hd hn ⟨hB, hz, s0, s1, h0, h1, h2, h3, h4, h5, h6, h7, h8, h9, h10⟩ K hK
        rw [if_pos (by simp [Region.wanted])]
        go_wp2_with fail
        exact hK _ (.int .i64 p) _ (by simp only [Act.put, List.setIfInBounds_toArray, List.set_cons_zero, List.set_cons_succ ]) ⟨hB, hz, s0, s1, (fun _ => rfl), h1, h2, h3, h4, h5, h6, h7, h8, h9, h10⟩
      · intro L v W2 hd hn ⟨hB, hz, s0, s1, h0, h1, h2, h3, h4, h5, h6, h7, h8, h9, h10⟩ K hK
        rw [if_pos (by simp [Region.wanted])]
        refine wp_load_any 23 _ rfl _ rfl 64 23 _ s1 _ Try.underlying23 rfl Try.size23 ?_
        exact hK _ _ _ rfl ⟨hB, hz, s0, s1, h0, (fun _ => rfl), h2, h3, h4, h5, h6, h7, h8, h9, h10⟩
      · intro L v W2 hd hn ⟨hB, hz, s0, s1, h0, h1, h2, h3, h4, h5, h6, h7, h8, h9, h10⟩ K hK
        have e0 := h0 (hd ⟨0, .data⟩ (by simp) rfl)
        have e1 := h1 (hd ⟨1, .data⟩ (by simp) rfl)
        rw [if_pos (by simp [Region.wanted])]
        go_wp2_with (go_at_call 148; refine (HOK.out _).mono ?_; rintro e wy ⟨rfl, hy⟩)
        exact hK _ (.bool false) _ (by simp only [Act.put, List.setIfInBounds_toArray, List.set_cons_zero, List.set_cons_succ, e0, e1]) ⟨hB.trans (hy.mono hB.size), (Nat.le_trans hz hy.size), (s0).below hy (s0).lt, (s1).below hy (s1).lt, h0, h1, (fun _ => rfl), h3, h4, h5, h6, h7, h8, h9, h10⟩
      · intro L v W2 hd hn ⟨hB, hz, s0, s1, h0, h1, h2, h3, h4, h5, h6, h7, h8, h9, h10⟩ K hK
        have e2 := h2 (hd ⟨2, .data⟩ (by simp) rfl)
        rw [if_pos (by simp [Region.wanted])]
        go_wp2_with fail
        exact hK _ (.bool false) _ (by simp only [Act.put, List.setIfInBounds_toArray, List.set_cons_zero, List.set_cons_succ, e2]) ⟨hB, hz, s0, s1, h0, h1, h2, (fun _ => rfl), h4, h5, h6, h7, h8, h9, h10⟩
      · intro L v W2 hd hn ⟨hB, hz, s0, s1, h0, h1, h2, h3, h4, h5, h6, h7, h8, h9, h10⟩ K hK
        have e3 := h3 (hd ⟨3, .guard⟩ (by simp) rfl)
        rw [if_neg (by simp [Region.wanted, yielded, e3])]
        exact hK _ undef _ rfl ⟨hB, hz, s0, s1, h0, h1, h2, h3, (fun _ => rfl), h5, h6, h7, h8, h9, h10⟩
      · intro L v W2 hd hn ⟨hB, hz, s0, s1, h0, h1, h2, h3, h4, h5, h6, h7, h8, h9, h10⟩ K hK
        have e4 := h4 (hd ⟨4, .data⟩ (by simp) rfl)
        have e3 := h3 (hd ⟨3, .chain⟩ (by simp) rfl)
        rw [if_neg (by simp [Region.wanted, yielded, e3])]
        exact hK _ undef _ rfl ⟨hB, hz, s0, s1, h0, h1, h2, h3, h4, (fun _ => rfl), h6, h7, h8, h9, h10⟩
      · intro L v W2 hd hn ⟨hB, hz, s0, s1, h0, h1, h2, h3, h4, h5, h6, h7, h8, h9, h10⟩ K hK
        have e3 := h3 (hd ⟨3, .guard⟩ (by simp) rfl)
        rw [if_neg (by simp [Region.wanted, yielded, e3])]
        exact hK _ undef _ rfl ⟨hB, hz, s0, s1, h0, h1, h2, h3, h4, h5, (fun _ => rfl), h7, h8, h9, h10⟩
      · intro L v W2 hd hn ⟨hB, hz, s0, s1, h0, h1, h2, h3, h4, h5, h6, h7, h8, h9, h10⟩ K hK
        have e6 := h6 (hd ⟨6, .data⟩ (by simp) rfl)
        have e3 := h3 (hd ⟨3, .guard⟩ (by simp) rfl)
        rw [if_neg (by simp [Region.wanted, yielded, e3])]
        exact hK _ undef _ rfl ⟨hB, hz, s0, s1, h0, h1, h2, h3, h4, h5, h6, (fun _ => rfl), h8, h9, h10⟩
      · intro L v W2 hd hn ⟨hB, hz, s0, s1, h0, h1, h2, h3, h4, h5, h6, h7, h8, h9, h10⟩ K hK
        have e5 := h5 (hd ⟨5, .data⟩ (by simp) rfl)
        have e7 := h7 (hd ⟨7, .data⟩ (by simp) rfl)
        have e3 := h3 (hd ⟨3, .guard⟩ (by simp) rfl)
        rw [if_neg (by simp [Region.wanted, yielded, e3])]
        exact hK _ undef _ rfl ⟨hB, hz, s0, s1, h0, h1, h2, h3, h4, h5, h6, h7, (fun _ => rfl), h9, h10⟩
      · intro L v W2 hd hn ⟨hB, hz, s0, s1, h0, h1, h2, h3, h4, h5, h6, h7, h8, h9, h10⟩ K hK
        have e3 := h3 (hd ⟨3, .data⟩ (by simp) rfl)
        have e8 := h8 (hd ⟨8, .data⟩ (by simp) rfl)
        rw [if_pos (by simp [Region.wanted])]
        go_wp2_with fail
        exact hK _ (.bool false) _ (by simp only [Act.put, List.setIfInBounds_toArray, List.set_cons_zero, List.set_cons_succ, e3, e8]) ⟨hB, hz, s0, s1, h0, h1, h2, h3, h4, h5, h6, h7, h8, (fun _ => rfl), h10⟩
      · intro L v W2 hd hn ⟨hB, hz, s0, s1, h0, h1, h2, h3, h4, h5, h6, h7, h8, h9, h10⟩ K hK
        have e9 := h9 (hd ⟨9, .data⟩ (by simp) rfl)
        rw [if_pos (by simp [Region.wanted])]
        go_wp2_with fail
        exact hK _ (.bool false) _ (by simp only [Act.put, List.setIfInBounds_toArray, List.set_cons_zero, List.set_cons_succ, e9]) ⟨hB, hz, s0, s1, h0, h1, h2, h3, h4, h5, h6, h7, h8, h9, (fun _ => rfl)⟩
    · intro L v W2 hL ⟨hB, hz, s0, s1, h0, h1, h2, h3, h4, h5, h6, h7, h8, h9, h10⟩
      have e0 := h0 (hL 0 (by decide))
      have e1 := h1 (hL 1 (by decide))
      have e2 := h2 (hL 2 (by decide))
      have e3 := h3 (hL 3 (by decide))
      have e4 := h4 (hL 4 (by decide))
      have e5 := h5 (hL 5 (by decide))
      have e6 := h6 (hL 6 (by decide))
      have e7 := h7 (hL 7 (by decide))
      have e8 := h8 (hL 8 (by decide))
      have e9 := h9 (hL 9 (by decide))
      have e10 := h10 (hL 10 (by decide))
      clear hL h0 h1 h2 h3 h4 h5 h6 h7 h8 h9 h10
      simp only [Exit.then, e0, e1, e2, e3, e4, e5, e6, e7, e8, e9, e10]
      clear e0 e1 e2 e3 e4 e5 e6 e7 e8 e9 e10
      clear B0
      have B0 := s0
      clear s0
      clear B1
      have B1 := s1
      clear s1
      clear hb
      have hb := hB
      clear hB
      clear hbase hz lt_B0 lt_B1
      go_wp2_with fail
      go_ret
      exact ⟨by rw [HV.out]; rfl, hb⟩
  | true =>
    by_cases hlt : deg x < deg m
    · skip
      have HV := Lib.hid (rsB_2 ho hlt)
      have HOK := Lib.hid (fun W => l01Is_any p x hx W)
      rw [ho] at HOK
      have HDG := Lib.hid (fun f W => l01Deg_any f W)
      clear ho
      have lt_B0 : (w.heap.size) < W1.heap.size := B0.lt
      have lt_B1 : (w.heap.size + 1) < W1.heap.size := B1.lt
      have hbase : w.heap.size ≤ W1.heap.size := hb.size
      refine wp_region_stepsG Try.mixed (by kernel_rfl) (by kernel_rfl) (fun v => by (simp only [frL, Act.put, List.setIfInBounds_toArray, List.set_cons_zero, List.set_cons_succ, Nat.reduceAdd, Nat.zero_add]; exact rfl))
        (fun L v W2 => Below w.heap.size w W2 ∧ W1.heap.size ≤ W2.heap.size ∧ Blk W2 (w.heap.size) 64 23 (m) ∧ Blk W2 (w.heap.size + 1) 64 23 (x) ∧ (L 0 = true → v 0 = (.int .i64 p)) ∧ (L 1 = true → v 1 = (.agg (bcells 64 (x)))) ∧ (L 2 = true → v 2 = (.bool true)) ∧ (L 3 = true → v 3 = (.bool true)) ∧ (L 4 = true → v 4 = (.agg (bcells 64 (x)))) ∧ (L 5 = true → v 5 = (.int .i64 (deg x))) ∧ (L 6 = true → v 6 = (.agg (bcells 64 (m)))) ∧ (L 7 = true → v 7 = (.int .i64 (deg m))) ∧ (L 8 = true → v 8 = (.bool true)) ∧ (L 9 = true → v 9 = (.bool true)) ∧ (L 10 = true → v 10 = (.bool true))) ?_ ?_ ?_
      · intro v hv0
        exact ⟨hb.drew, Nat.le_refl _, B0.drew, B1.drew, (fun h => by cases h), (fun h => by cases h), (fun h => by cases h), (fun h => by cases h), (fun h => by cases h), (fun h => by cases h), (fun h => by cases h), (fun h => by cases h), (fun h => by cases h), (fun h => by cases h), (fun h => by cases h)⟩
      · refine (.cons ?_ (.cons ?_ (.cons ?_ (.cons ?_ (.cons ?_ (.cons ?_ (.cons ?_ (.cons ?_ (.cons ?_ (.cons ?_ (.cons ?_ (.nil _))))))))))))
        · intro L v W2 hd hn ⟨hB, hz, s0, s1, h0, h1, h2, h3, h4, h5, h6, h7, h8, h9, h10⟩ K hK
          rw [if_pos (by simp [Region.wanted])]
          go_wp2_with fail
          exact hK _ (.int .i64 p) _ (by simp only [Act.put, List.setIfInBounds_toArray, List.set_cons_zero, List.set_cons_succ ]) ⟨hB, hz, s0, s1, (fun _ => rfl), h1, h2, h3, h4, h5, h6, h7, h8, h9, h10⟩
        · intro L v W2 hd hn ⟨hB, hz, s0, s1, h0, h1, h2, h3, h4, h5, h6, h7, h8, h9, h10⟩ K hK
          rw [if_pos (by simp [Region.wanted])]
          refine wp_load_any 23 _ rfl _ rfl 64 23 _ s1 _ Try.underlying23 rfl Try.size23 ?_
          exact hK _ _ _ rfl ⟨hB, hz, s0, s1, h0, (fun _ => rfl), h2, h3, h4, h5, h6, h7, h8, h9, h10⟩
        · intro L v W2 hd hn ⟨hB, hz, s0, s1, h0, h1, h2, h3, h4, h5, h6, h7, h8, h9, h10⟩ K hK
          have e0 := h0 (hd ⟨0, .data⟩ (by simp) rfl)
          have e1 := h1 (hd ⟨1, .data⟩ (by simp) rfl)
          rw [if_pos (by simp [Region.wanted])]
          go_wp2_with (go_at_call 148; refine (HOK.out _).mono ?_; rintro e wy ⟨rfl, hy⟩)
          exact hK _ (.bool true) _ (by simp only [Act.put, List.setIfInBounds_toArray, List.set_cons_zero, List.set_cons_succ, e0, e1]) ⟨hB.trans (hy.mono hB.size), (Nat.le_trans hz hy.size), (s0).below hy (s0).lt, (s1).below hy (s1).lt, h0, h1, (fun _ => rfl), h3, h4, h5, h6, h7, h8, h9, h10⟩
        · intro L v W2 hd hn ⟨hB, hz, s0, s1, h0, h1, h2, h3, h4, h5, h6, h7, h8, h9, h10⟩ K hK
          have e2 := h2 (hd ⟨2, .data⟩ (by simp) rfl)
          rw [if_pos (by simp [Region.wanted])]
          go_wp2_with fail
          exact hK _ (.bool true) _ (by simp only [Act.put, List.setIfInBounds_toArray, List.set_cons_zero, List.set_cons_succ, e2]) ⟨hB, hz, s0, s1, h0, h1, h2, (fun _ => rfl), h4, h5, h6, h7, h8, h9, h10⟩
        · intro L v W2 hd hn ⟨hB, hz, s0, s1, h0, h1, h2, h3, h4, h5, h6, h7, h8, h9, h10⟩ K hK
          have e3 := h3 (hd ⟨3, .guard⟩ (by simp) rfl)
          rw [if_pos (by simp [Region.wanted, yielded, e3])]
          refine wp_load_any 23 _ rfl _ rfl 64 23 _ s1 _ Try.underlying23 rfl Try.size23 ?_
          exact hK _ _ _ rfl ⟨hB, hz, s0, s1, h0, h1, h2, h3, (fun _ => rfl), h5, h6, h7, h8, h9, h10⟩
        · intro L v W2 hd hn ⟨hB, hz, s0, s1, h0, h1, h2, h3, h4, h5, h6, h7, h8, h9, h10⟩ K hK
          have e4 := h4 (hd ⟨4, .data⟩ (by simp) rfl)
          have e3 := h3 (hd ⟨3, .chain⟩ (by simp) rfl)
          rw [if_pos (by simp [Region.wanted, yielded, e3])]
          go_wp2_with (go_at_call 73; refine (HDG.out _ _).mono ?_; rintro e wy ⟨rfl, hy⟩)
          exact hK _ (.int .i64 (deg x)) _ (by simp only [Act.put, List.setIfInBounds_toArray, List.set_cons_zero, List.set_cons_succ, e4, e3]) ⟨hB.trans (hy.mono hB.size), (Nat.le_trans hz hy.size), (s0).below hy (s0).lt, (s1).below hy (s1).lt, h0, h1, h2, h3, h4, (fun _ => rfl), h6, h7, h8, h9, h10⟩
        · intro L v W2 hd hn ⟨hB, hz, s0, s1, h0, h1, h2, h3, h4, h5, h6, h7, h8, h9, h10⟩ K hK
          have e3 := h3 (hd ⟨3, .guard⟩ (by simp) rfl)
          rw [if_pos (by simp [Region.wanted, yielded, e3])]
          refine wp_load_any 23 _ rfl _ rfl 64 23 _ s0 _ Try.underlying23 rfl Try.size23 ?_
          exact hK _ _ _ rfl ⟨hB, hz, s0, s1, h0, h1, h2, h3, h4, h5, (fun _ => rfl), h7, h8, h9, h10⟩
        · intro L v W2 hd hn ⟨hB, hz, s0, s1, h0, h1, h2, h3, h4, h5, h6, h7, h8, h9, h10⟩ K hK
          have e6 := h6 (hd ⟨6, .data⟩ (by simp) rfl)
          have e3 := h3 (hd ⟨3, .guard⟩ (by simp) rfl)
          rw [if_pos (by simp [Region.wanted, yielded, e3])]
          go_wp2_with (go_at_call 73; refine (HDG.out _ _).mono ?_; rintro e wy ⟨rfl, hy⟩)
          exact hK _ (.int .i64 (deg m)) _ (by simp only [Act.put, List.setIfInBounds_toArray, List.set_cons_zero, List.set_cons_succ, e6, e3]) ⟨hB.trans (hy.mono hB.size), (Nat.le_trans hz hy.size), (s0).below hy (s0).lt, (s1).below hy (s1).lt, h0, h1, h2, h3, h4, h5, h6, (fun _ => rfl), h8, h9, h10⟩
        · intro L v W2 hd hn ⟨hB, hz, s0, s1, h0, h1, h2, h3, h4, h5, h6, h7, h8, h9, h10⟩ K hK
          have e5 := h5 (hd ⟨5, .data⟩ (by simp) rfl)
          have e7 := h7 (hd ⟨7, .data⟩ (by simp) rfl)
          have e3 := h3 (hd ⟨3, .guard⟩ (by simp) rfl)
          rw [if_pos (by simp [Region.wanted, yielded, e3])]
          go_wp2_with fail
          exact hK _ (.bool true) _ (by simp only [Act.put, List.setIfInBounds_toArray, List.set_cons_zero, List.set_cons_succ, e5, e7, e3]) ⟨hB, hz, s0, s1, h0, h1, h2, h3, h4, h5, h6, h7, (fun _ => rfl), h9, h10⟩
        · intro L v W2 hd hn ⟨hB, hz, s0, s1, h0, h1, h2, h3, h4, h5, h6, h7, h8, h9, h10⟩ K hK
          have e3 := h3 (hd ⟨3, .data⟩ (by simp) rfl)
          have e8 := h8 (hd ⟨8, .data⟩ (by simp) rfl)
          rw [if_pos (by simp [Region.wanted])]
          go_wp2_with fail
          exact hK _ (.bool true) _ (by simp only [Act.put, List.setIfInBounds_toArray, List.set_cons_zero, List.set_cons_succ, e3, e8]) ⟨hB, hz, s0, s1, h0, h1, h2, h3, h4, h5, h6, h7, h8, (fun _ => rfl), h10⟩
        · intro L v W2 hd hn ⟨hB, hz, s0, s1, h0, h1, h2, h3, h4, h5, h6, h7, h8, h9, h10⟩ K hK
          have e9 := h9 (hd ⟨9, .data⟩ (by simp) rfl)
          rw [if_pos (by simp [Region.wanted])]
          go_wp2_with fail
          exact hK _ (.bool true) _ (by simp only [Act.put, List.setIfInBounds_toArray, List.set_cons_zero, List.set_cons_succ, e9]) ⟨hB, hz, s0, s1, h0, h1, h2, h3, h4, h5, h6, h7, h8, h9, (fun _ => rfl)⟩
      · intro L v W2 hL ⟨hB, hz, s0, s1, h0, h1, h2, h3, h4, h5, h6, h7, h8, h9, h10⟩
        have e0 := h0 (hL 0 (by decide))
        have e1 := h1 (hL 1 (by decide))
        have e2 := h2 (hL 2 (by decide))
        have e3 := h3 (hL 3 (by decide))
        have e4 := h4 (hL 4 (by decide))
        have e5 := h5 (hL 5 (by decide))
        have e6 := h6 (hL 6 (by decide))
        have e7 := h7 (hL 7 (by decide))
        have e8 := h8 (hL 8 (by decide))
        have e9 := h9 (hL 9 (by decide))
        have e10 := h10 (hL 10 (by decide))
        clear hL h0 h1 h2 h3 h4 h5 h6 h7 h8 h9 h10
        simp only [Exit.then, e0, e1, e2, e3, e4, e5, e6, e7, e8, e9, e10]
        clear e0 e1 e2 e3 e4 e5 e6 e7 e8 e9 e10
        clear B0
        have B0 := s0
        clear s0
        clear B1
        have B1 := s1
        clear s1
        clear hb
        have hb := hB
        clear hB
        clear hbase hz lt_B0 lt_B1
        go_wp2_with fail
        go_ret
        exact ⟨by rw [HV.out]; rfl, hb⟩
    · skip
      have HV := Lib.hid (rsB_3 ho hlt)
      have HOK := Lib.hid (fun W => l01Is_any p x hx W)
      rw [ho] at HOK
      have HDG := Lib.hid (fun f W => l01Deg_any f W)
      clear ho
      have lt_B0 : (w.heap.size) < W1.heap.size := B0.lt
      have lt_B1 : (w.heap.size + 1) < W1.heap.size := B1.lt
      have hbase : w.heap.size ≤ W1.heap.size := hb.size
      refine wp_region_stepsG Try.mixed (by kernel_rfl) (by kernel_rfl) (fun v => by (simp only [frL, Act.put, List.setIfInBounds_toArray, List.set_cons_zero, List.set_cons_succ, Nat.reduceAdd, Nat.zero_add]; exact rfl))
        (fun L v W2 => Below w.heap.size w W2 ∧ W1.heap.size ≤ W2.heap.size ∧ Blk W2 (w.heap.size) 64 23 (m) ∧ Blk W2 (w.heap.size + 1) 64 23 (x) ∧ (L 0 = true → v 0 = (.int .i64 p)) ∧ (L 1 = true → v 1 = (.agg (bcells 64 (x)))) ∧ (L 2 = true → v 2 = (.bool true)) ∧ (L 3 = true → v 3 = (.bool true)) ∧ (L 4 = true → v 4 = (.agg (bcells 64 (x)))) ∧ (L 5 = true → v 5 = (.int .i64 (deg x))) ∧ (L 6 = true → v 6 = (.agg (bcells 64 (m)))) ∧ (L 7 = true → v 7 = (.int .i64 (deg m))) ∧ (L 8 = true → v 8 = (.bool false)) ∧ (L 9 = true → v 9 = (.bool false)) ∧ (L 10 = true → v 10 = (.bool false))) ?_ ?_ ?_
      · intro v hv0
        exact ⟨hb.drew, Nat.le_refl _, B0.drew, B1.drew, (fun h => by cases h), (fun h => by cases h), (fun h => by cases h), (fun h => by cases h), (fun h => by cases h), (fun h => by cases h), (fun h => by cases h), (fun h => by cases h), (fun h => by cases h), (fun h => by cases h), (fun h => by cases h)⟩
      · refine (.cons ?_ (.cons ?_ (.cons ?_ (.cons ?_ (.cons ?_ (.cons ?_ (.cons ?_ (.cons ?_ (.cons ?_ (.cons ?_ (.cons ?_ (.nil _))))))))))))
        · intro L v W2 hd hn ⟨hB, hz, s0, s1, h0, h1, h2, h3, h4, h5, h6, h7, h8, h9, h10⟩ K hK
          rw [if_pos (by simp [Region.wanted])]
          go_wp2_with fail
          exact hK _ (.int .i64 p) _ (by simp only [Act.put, List.setIfInBounds_toArray, List.set_cons_zero, List.set_cons_succ ]) ⟨hB, hz, s0, s1, (fun _ => rfl), h1, h2, h3, h4, h5, h6, h7, h8, h9, h10⟩
        · intro L v W2 hd hn ⟨hB, hz, s0, s1, h0, h1, h2, h3, h4, h5, h6, h7, h8, h9, h10⟩ K hK
          rw [if_pos (by simp [Region.wanted])]
          refine wp_load_any 23 _ rfl _ rfl 64 23 _ s1 _ Try.underlying23 rfl Try.size23 ?_
          exact hK _ _ _ rfl ⟨hB, hz, s0, s1, h0, (fun _ => rfl), h2, h3, h4, h5, h6, h7, h8, h9, h10⟩
        · intro L v W2 hd hn ⟨hB, hz, s0, s1, h0, h1, h2, h3, h4, h5, h6, h7, h8, h9, h10⟩ K hK
          have e0 := h0 (hd ⟨0, .data⟩ (by simp) rfl)
          have e1 := h1 (hd ⟨1, .data⟩ (by simp) rfl)
          rw [if_pos (by simp [Region.wanted])]
          go_wp2_with (go_at_call 148; refine (HOK.out _).mono ?_; rintro e wy ⟨rfl, hy⟩)
          exact hK _ (.bool true) _ (by simp only [Act.put, List.setIfInBounds_toArray, List.set_cons_zero, List.set_cons_succ, e0, e1]) ⟨hB.trans (hy.mono hB.size), (Nat.le_trans hz hy.size), (s0).below hy (s0).lt, (s1).below hy (s1).lt, h0, h1, (fun _ => rfl), h3, h4, h5, h6, h7, h8, h9, h10⟩
        · intro L v W2 hd hn ⟨hB, hz, s0, s1, h0, h1, h2, h3, h4, h5, h6, h7, h8, h9, h10⟩ K hK
          have e2 := h2 (hd ⟨2, .data⟩ (by simp) rfl)
          rw [if_pos (by simp [Region.wanted])]
          go_wp2_with fail
          exact hK _ (.bool true) _ (by simp only [Act.put, List.setIfInBounds_toArray, List.set_cons_zero, List.set_cons_succ, e2]) ⟨hB, hz, s0, s1, h0, h1, h2, (fun _ => rfl), h4, h5, h6, h7, h8, h9, h10⟩
        · intro L v W2 hd hn ⟨hB, hz, s0, s1, h0, h1, h2, h3, h4, h5, h6, h7, h8, h9, h10⟩ K hK
          have e3 := h3 (hd ⟨3, .guard⟩ (by simp) rfl)
          rw [if_pos (by simp [Region.wanted, yielded, e3])]
          refine wp_load_any 23 _ rfl _ rfl 64 23 _ s1 _ Try.underlying23 rfl Try.size23 ?_
          exact hK _ _ _ rfl ⟨hB, hz, s0, s1, h0, h1, h2, h3, (fun _ => rfl), h5, h6, h7, h8, h9, h10⟩
        · intro L v W2 hd hn ⟨hB, hz, s0, s1, h0, h1, h2, h3, h4, h5, h6, h7, h8, h9, h10⟩ K hK
          have e4 := h4 (hd ⟨4, .data⟩ (by simp) rfl)
          have e3 := h3 (hd ⟨3, .chain⟩ (by simp) rfl)
          rw [if_pos (by simp [Region.wanted, yielded, e3])]
          go_wp2_with (go_at_call 73; refine (HDG.out _ _).mono ?_; rintro e wy ⟨rfl, hy⟩)
          exact hK _ (.int .i64 (deg x)) _ (by simp only [Act.put, List.setIfInBounds_toArray, List.set_cons_zero, List.set_cons_succ, e4, e3]) ⟨hB.trans (hy.mono hB.size), (Nat.le_trans hz hy.size), (s0).below hy (s0).lt, (s1).below hy (s1).lt, h0, h1, h2, h3, h4, (fun _ => rfl), h6, h7, h8, h9, h10⟩
        · intro L v W2 hd hn ⟨hB, hz, s0, s1, h0, h1, h2, h3, h4, h5, h6, h7, h8, h9, h10⟩ K hK
          have e3 := h3 (hd ⟨3, .guard⟩ (by simp) rfl)
          rw [if_pos (by simp [Region.wanted, yielded, e3])]
          refine wp_load_any 23 _ rfl _ rfl 64 23 _ s0 _ Try.underlying23 rfl Try.size23 ?_
          exact hK _ _ _ rfl ⟨hB, hz, s0, s1, h0, h1, h2, h3, h4, h5, (fun _ => rfl), h7, h8, h9, h10⟩
        · intro L v W2 hd hn ⟨hB, hz, s0, s1, h0, h1, h2, h3, h4, h5, h6, h7, h8, h9, h10⟩ K hK
          have e6 := h6 (hd ⟨6, .data⟩ (by simp) rfl)
          have e3 := h3 (hd ⟨3, .guard⟩ (by simp) rfl)
          rw [if_pos (by simp [Region.wanted, yielded, e3])]
          go_wp2_with (go_at_call 73; refine (HDG.out _ _).mono ?_; rintro e wy ⟨rfl, hy⟩)
          exact hK _ (.int .i64 (deg m)) _ (by simp only [Act.put, List.setIfInBounds_toArray, List.set_cons_zero, List.set_cons_succ, e6, e3]) ⟨hB.trans (hy.mono hB.size), (Nat.le_trans hz hy.size), (s0).below hy (s0).lt, (s1).below hy (s1).lt, h0, h1, h2, h3, h4, h5, h6, (fun _ => rfl), h8, h9, h10⟩
        · intro L v W2 hd hn ⟨hB, hz, s0, s1, h0, h1, h2, h3, h4, h5, h6, h7, h8, h9, h10⟩ K hK
          have e5 := h5 (hd ⟨5, .data⟩ (by simp) rfl)
          have e7 := h7 (hd ⟨7, .data⟩ (by simp) rfl)
          have e3 := h3 (hd ⟨3, .guard⟩ (by simp) rfl)
          rw [if_pos (by simp [Region.wanted, yielded, e3])]
          go_wp2_with fail
          exact hK _ (.bool false) _ (by simp only [Act.put, List.setIfInBounds_toArray, List.set_cons_zero, List.set_cons_succ, e5, e7, e3]) ⟨hB, hz, s0, s1, h0, h1, h2, h3, h4, h5, h6, h7, (fun _ => rfl), h9, h10⟩
        · intro L v W2 hd hn ⟨hB, hz, s0, s1, h0, h1, h2, h3, h4, h5, h6, h7, h8, h9, h10⟩ K hK
          have e3 := h3 (hd ⟨3, .data⟩ (by simp) rfl)
          have e8 := h8 (hd ⟨8, .data⟩ (by simp) rfl)
          rw [if_pos (by simp [Region.wanted])]
          go_wp2_with fail
          exact hK _ (.bool false) _ (by simp only [Act.put, List.setIfInBounds_toArray, List.set_cons_zero, List.set_cons_succ, e3, e8]) ⟨hB, hz, s0, s1, h0, h1, h2, h3, h4, h5, h6, h7, h8, (fun _ => rfl), h10⟩
        · intro L v W2 hd hn ⟨hB, hz, s0, s1, h0, h1, h2, h3, h4, h5, h6, h7, h8, h9, h10⟩ K hK
          have e9 := h9 (hd ⟨9, .data⟩ (by simp) rfl)
          rw [if_pos (by simp [Region.wanted])]
          go_wp2_with fail
          exact hK _ (.bool false) _ (by simp only [Act.put, List.setIfInBounds_toArray, List.set_cons_zero, List.set_cons_succ, e9]) ⟨hB, hz, s0, s1, h0, h1, h2, h3, h4, h5, h6, h7, h8, h9, (fun _ => rfl)⟩
      · intro L v W2 hL ⟨hB, hz, s0, s1, h0, h1, h2, h3, h4, h5, h6, h7, h8, h9, h10⟩
        have e0 := h0 (hL 0 (by decide))
        have e1 := h1 (hL 1 (by decide))
        have e2 := h2 (hL 2 (by decide))
        have e3 := h3 (hL 3 (by decide))
        have e4 := h4 (hL 4 (by decide))
        have e5 := h5 (hL 5 (by decide))
        have e6 := h6 (hL 6 (by decide))
        have e7 := h7 (hL 7 (by decide))
        have e8 := h8 (hL 8 (by decide))
        have e9 := h9 (hL 9 (by decide))
        have e10 := h10 (hL 10 (by decide))
        clear hL h0 h1 h2 h3 h4 h5 h6 h7 h8 h9 h10
        simp only [Exit.then, e0, e1, e2, e3, e4, e5, e6, e7, e8, e9, e10]
        clear e0 e1 e2 e3 e4 e5 e6 e7 e8 e9 e10
        clear B0
        have B0 := s0
        clear s0
        clear B1
        have B1 := s1
        clear s1
        clear hb
        have hb := hB
        clear hB
        clear hbase hz lt_B0 lt_B1
        go_wp2_with fail
        go_ret
        exact ⟨by rw [HV.out]; rfl, hb⟩
set_option maxRecDepth 100000 in
set_option maxHeartbeats 1600000 in
theorem isResidue_any (p : Int) (m x : Nat → Nat) (hm : byte m) (hx : byte x) (w : World) :
    Calls Try.prog 104 #[.agg (fdC p m).toArray, .agg (bcells 64 x)] w fun e w' => e = .returned (.bool (rsB p m x)) ∧ Below w.heap.size w w' := by
  go_enter Try.func104, Try.ntmps104
  go_upto_region 1 with (fail)
  obtain ⟨W1, hwo⟩ : ∃ v : World, v = ((w.alloc (.cells (fdC p m).toArray 83)).alloc (.cells (bcells 64 (x)) 23)) := ⟨_, rfl⟩
  have B0 : Row W1 (w.heap.size) 83 (fdC p m).toArray := by subst hwo; have := ((Row.new w 83 (fdC p m).toArray).alloc (.cells (bcells 64 (x)) 23)); simpa using this
  have B1 : Blk W1 (w.heap.size + 1) 64 23 (x) := by subst hwo; have := (Blk.new (w.alloc (.cells (fdC p m).toArray 83)) 64 23 (x)); simpa using this
  have hb : Below w.heap.size w W1 := by subst hwo; exact (((Below.refl _ _).alloc (Nat.le_refl _) _).alloc (by simp) _)
  rw [← hwo]
  clear hwo
  cases ho : okA p x with
  | false =>
    have HV := Lib.hid (rsB_1 (m := m) ho)
    have HOK := Lib.hid (fun W => IsPoly_any p x hx W)
    rw [ho] at HOK
    have HDG := Lib.hid (fun f W => degree_any f W)
    clear ho
    have lt_B0 : (w.heap.size) < W1.heap.size := B0.lt
    have lt_B1 : (w.heap.size + 1) < W1.heap.size := B1.lt
    have hbase : w.heap.size ≤ W1.heap.size := hb.size
    refine wp_region_stepsG Try.mixed (by kernel_rfl) (by kernel_rfl) (fun v => by (simp only [frL, Act.put, List.setIfInBounds_toArray, List.set_cons_zero, List.set_cons_succ, Nat.reduceAdd, Nat.zero_add]; exact rfl))
      (fun L v W2 => Below w.heap.size w W2 ∧ W1.heap.size ≤ W2.heap.size ∧ Row W2 (w.heap.size) 83 (fdC p m).toArray ∧ Blk W2 (w.heap.size + 1) 64 23 (x) ∧ (L 0 = true → v 0 = (.pointer (some ⟨w.heap.size, 0, none⟩))) ∧ (L 1 = true → v 1 = (.int .i64 p)) ∧ (L 2 = true → v 2 = (.agg (bcells 64 (x)))) ∧ (L 3 = true → v 3 = (.bool false)) ∧ (L 4 = true → v 4 = (.bool false)) ∧ (L 5 = true → v 5 = undef) ∧ (L 6 = true → v 6 = undef) ∧ (L 7 = true → v 7 = undef) ∧ (L 8 = true → v 8 = undef) ∧ (L 9 = true → v 9 = undef) ∧ (L 10 = true → v 10 = undef) ∧ (L 11 = true → v 11 = (.bool false)) ∧ (L 12 = true → v 12 = (.bool false))) ?_ ?_ ?_
    · intro v hv0
      exact ⟨hb.drew, Nat.le_refl _, B0.drew, B1.drew, (fun h => by cases h), (fun h => by cases h), (fun h => by cases h), (fun h => by cases h), (fun h => by cases h), (fun h => by cases h), (fun h => by cases h), (fun h => by cases h), (fun h => by cases h), (fun h => by cases h), (fun h => by cases h), (fun h => by cases h), (fun h => by cases h)⟩
    · refine (.cons ?_ (.cons ?_ (.cons ?_ (.cons ?_ (.cons ?_ (.cons ?_ (.cons ?_ (.cons ?_ (.cons ?_ (.cons ?_ (.cons ?_ (.cons ?_ (.cons ?_ (.nil _))))))))))))))
      · intro L v W2 hd hn ⟨hB, hz, s0, s1, h0, h1, h2, h3, h4, h5, h6, h7, h8, h9, h10, h11, h12⟩ K hK
        rw [if_pos (by simp [Region.wanted])]
        go_wp2_with fail
        exact hK _ (.pointer (some ⟨w.heap.size, 0, none⟩)) _ (by simp only [Act.put, List.setIfInBounds_toArray, List.set_cons_zero, List.set_cons_succ ]) ⟨hB, hz, s0, s1, (fun _ => rfl), h1, h2, h3, h4, h5, h6, h7, h8, h9, h10, h11, h12⟩
      · intro L v W2 hd hn ⟨hB, hz, s0, s1, h0, h1, h2, h3, h4, h5, h6, h7, h8, h9, h10, h11, h12⟩ K hK
        have e0 := h0 (hd ⟨0, .data⟩ (by simp) rfl)
        rw [if_pos (by simp [Region.wanted])]
        have cc := s0.cell (i := 0) (v := .int .i64 p) (fdC_at p m)
        go_wp2_with fail
        exact hK _ (.int .i64 p) _ (by simp only [Act.put, List.setIfInBounds_toArray, List.set_cons_zero, List.set_cons_succ, e0]) ⟨hB, hz, s0, s1, h0, (fun _ => rfl), h2, h3, h4, h5, h6, h7, h8, h9, h10, h11, h12⟩
      · intro L v W2 hd hn ⟨hB, hz, s0, s1, h0, h1, h2, h3, h4, h5, h6, h7, h8, h9, h10, h11, h12⟩ K hK
        rw [if_pos (by simp [Region.wanted])]
        refine wp_load_any 23 _ rfl _ rfl 64 23 _ s1 _ Try.underlying23 rfl Try.size23 ?_
        exact hK _ _ _ rfl ⟨hB, hz, s0, s1, h0, h1, (fun _ => rfl), h3, h4, h5, h6, h7, h8, h9, h10, h11, h12⟩
      · intro L v W2 hd hn ⟨hB, hz, s0, s1, h0, h1, h2, h3, h4, h5, h6, h7, h8, h9, h10, h11, h12⟩ K hK
        have e1 := h1 (hd ⟨1, .data⟩ (by simp) rfl)
        have e2 := h2 (hd ⟨2, .data⟩ (by simp) rfl)
        rw [if_pos (by simp [Region.wanted])]
        go_wp2_with (go_at_call 150; refine (HOK.out _).mono ?_; rintro e wy ⟨rfl, hy⟩)
        exact hK _ (.bool false) _ (by simp only [Act.put, List.setIfInBounds_toArray, List.set_cons_zero, List.set_cons_succ, e1, e2]) ⟨hB.trans (hy.mono hB.size), (Nat.le_trans hz hy.size), (s0).below hy (s0).lt, (s1).below hy (s1).lt, h0, h1, h2, (fun _ => rfl), h4, h5, h6, h7, h8, h9, h10, h11, h12⟩
      · intro L v W2 hd hn ⟨hB, hz, s0, s1, h0, h1, h2, h3, h4, h5, h6, h7, h8, h9, h10, h11, h12⟩ K hK
        have e3 := h3 (hd ⟨3, .data⟩ (by simp) rfl)
        rw [if_pos (by simp [Region.wanted])]
        go_wp2_with fail
        exact hK _ (.bool false) _ (by simp only [Act.put, List.setIfInBounds_toArray, List.set_cons_zero, List.set_cons_succ, e3]) ⟨hB, hz, s0, s1, h0, h1, h2, h3, (fun _ => rfl), h5, h6, h7, h8, h9, h10, h11, h12⟩
      · intro L v W2 hd hn ⟨hB, hz, s0, s1, h0, h1, h2, h3, h4, h5, h6, h7, h8, h9, h10, h11, h12⟩ K hK
        have e4 := h4 (hd ⟨4, .guard⟩ (by simp) rfl)
        rw [if_neg (by simp [Region.wanted, yielded, e4])]
        exact hK _ undef _ rfl ⟨hB, hz, s0, s1, h0, h1, h2, h3, h4, (fun _ => rfl), h6, h7, h8, h9, h10, h11, h12⟩
      · intro L v W2 hd hn ⟨hB, hz, s0, s1, h0, h1, h2, h3, h4, h5, h6, h7, h8, h9, h10, h11, h12⟩ K hK
        have e5 := h5 (hd ⟨5, .data⟩ (by simp) rfl)
        have e4 := h4 (hd ⟨4, .chain⟩ (by simp) rfl)
        rw [if_neg (by simp [Region.wanted, yielded, e4])]
        exact hK _ undef _ rfl ⟨hB, hz, s0, s1, h0, h1, h2, h3, h4, h5, (fun _ => rfl), h7, h8, h9, h10, h11, h12⟩
      · intro L v W2 hd hn ⟨hB, hz, s0, s1, h0, h1, h2, h3, h4, h5, h6, h7, h8, h9, h10, h11, h12⟩ K hK
        have e4 := h4 (hd ⟨4, .guard⟩ (by simp) rfl)
        rw [if_neg (by simp [Region.wanted, yielded, e4])]
        exact hK _ undef _ rfl ⟨hB, hz, s0, s1, h0, h1, h2, h3, h4, h5, h6, (fun _ => rfl), h8, h9, h10, h11, h12⟩
      · intro L v W2 hd hn ⟨hB, hz, s0, s1, h0, h1, h2, h3, h4, h5, h6, h7, h8, h9, h10, h11, h12⟩ K hK
        have e7 := h7 (hd ⟨7, .data⟩ (by simp) rfl)
        have e4 := h4 (hd ⟨4, .guard⟩ (by simp) rfl)
        rw [if_neg (by simp [Region.wanted, yielded, e4])]
        exact hK _ undef _ rfl ⟨hB, hz, s0, s1, h0, h1, h2, h3, h4, h5, h6, h7, (fun _ => rfl), h9, h10, h11, h12⟩
      · intro L v W2 hd hn ⟨hB, hz, s0, s1, h0, h1, h2, h3, h4, h5, h6, h7, h8, h9, h10, h11, h12⟩ K hK
        have e8 := h8 (hd ⟨8, .data⟩ (by simp) rfl)
        have e4 := h4 (hd ⟨4, .guard⟩ (by simp) rfl)
        rw [if_neg (by simp [Region.wanted, yielded, e4])]
        exact hK _ undef _ rfl ⟨hB, hz, s0, s1, h0, h1, h2, h3, h4, h5, h6, h7, h8, (fun _ => rfl), h10, h11, h12⟩
      · intro L v W2 hd hn ⟨hB, hz, s0, s1, h0, h1, h2, h3, h4, h5, h6, h7, h8, h9, h10, h11, h12⟩ K hK
        have e6 := h6 (hd ⟨6, .data⟩ (by simp) rfl)
        have e9 := h9 (hd ⟨9, .data⟩ (by simp) rfl)
        have e4 := h4 (hd ⟨4, .guard⟩ (by simp) rfl)
        rw [if_neg (by simp [Region.wanted, yielded, e4])]
        exact hK _ undef _ rfl ⟨hB, hz, s0, s1, h0, h1, h2, h3, h4, h5, h6, h7, h8, h9, (fun _ => rfl), h11, h12⟩
      · intro L v W2 hd hn ⟨hB, hz, s0, s1, h0, h1, h2, h3, h4, h5, h6, h7, h8, h9, h10, h11, h12⟩ K hK
        have e4 := h4 (hd ⟨4, .data⟩ (by simp) rfl)
        have e10 := h10 (hd ⟨10, .data⟩ (by simp) rfl)
        rw [if_pos (by simp [Region.wanted])]
        go_wp2_with fail
        exact hK _ (.bool false) _ (by simp only [Act.put, List.setIfInBounds_toArray, List.set_cons_zero, List.set_cons_succ, e4, e10]) ⟨hB, hz, s0, s1, h0, h1, h2, h3, h4, h5, h6, h7, h8, h9, h10, (fun _ => rfl), h12⟩
      · intro L v W2 hd hn ⟨hB, hz, s0, s1, h0, h1, h2, h3, h4, h5, h6, h7, h8, h9, h10, h11, h12⟩ K hK
        have e11 := h11 (hd ⟨11, .data⟩ (by simp) rfl)
        rw [if_pos (by simp [Region.wanted])]
        go_wp2_with fail
        exact hK _ (.bool false) _ (by simp only [Act.put, List.setIfInBounds_toArray, List.set_cons_zero, List.set_cons_succ, e11]) ⟨hB, hz, s0, s1, h0, h1, h2, h3, h4, h5, h6, h7, h8, h9, h10, h11, (fun _ => rfl)⟩
    · intro L v W2 hL ⟨hB, hz, s0, s1, h0, h1, h2, h3, h4, h5, h6, h7, h8, h9, h10, h11, h12⟩
      have e0 := h0 (hL 0 (by decide))
      have e1 := h1 (hL 1 (by decide))
      have e2 := h2 (hL 2 (by decide))
      have e3 := h3 (hL 3 (by decide))
      have e4 := h4 (hL 4 (by decide))
      have e5 := h5 (hL 5 (by decide))
      have e6 := h6 (hL 6 (by decide))
      have e7 := h7 (hL 7 (by decide))
      have e8 := h8 (hL 8 (by decide))
      have e9 := h9 (hL 9 (by decide))
      have e10 := h10 (hL 10 (by decide))
      have e11 := h11 (hL 11 (by decide))
      have e12 := h12 (hL 12 (by decide))
      clear hL h0 h1 h2 h3 h4 h5 h6 h7 h8 h9 h10 h11 h12
      simp only [Exit.then, e0, e1, e2, e3, e4, e5, e6, e7, e8, e9, e10, e11, e12]
      clear e0 e1 e2 e3 e4 e5 e6 e7 e8 e9 e10 e11 e12
      clear B0
      have B0 := s0
      clear s0
      clear B1
      have B1 := s1
      clear s1
      clear hb
      have hb := hB
      clear hB
      clear hbase hz lt_B0 lt_B1
      go_wp2_with fail
      go_ret
      exact ⟨by rw [HV.out]; rfl, hb⟩
  | true =>
    by_cases hlt : deg x < deg m
    · skip
      have HV := Lib.hid (rsB_2 ho hlt)
      have HOK := Lib.hid (fun W => IsPoly_any p x hx W)
      rw [ho] at HOK
      have HDG := Lib.hid (fun f W => degree_any f W)
      clear ho
      have lt_B0 : (w.heap.size) < W1.heap.size := B0.lt
      have lt_B1 : (w.heap.size + 1) < W1.heap.size := B1.lt
      have hbase : w.heap.size ≤ W1.heap.size := hb.size
      refine wp_region_stepsG Try.mixed (by kernel_rfl) (by kernel_rfl) (fun v => by (simp only [frL, Act.put, List.setIfInBounds_toArray, List.set_cons_zero, List.set_cons_succ, Nat.reduceAdd, Nat.zero_add]; exact rfl))
        (fun L v W2 => Below w.heap.size w W2 ∧ W1.heap.size ≤ W2.heap.size ∧ Row W2 (w.heap.size) 83 (fdC p m).toArray ∧ Blk W2 (w.heap.size + 1) 64 23 (x) ∧ (L 0 = true → v 0 = (.pointer (some ⟨w.heap.size, 0, none⟩))) ∧ (L 1 = true → v 1 = (.int .i64 p)) ∧ (L 2 = true → v 2 = (.agg (bcells 64 (x)))) ∧ (L 3 = true → v 3 = (.bool true)) ∧ (L 4 = true → v 4 = (.bool true)) ∧ (L 5 = true → v 5 = (.agg (bcells 64 (x)))) ∧ (L 6 = true → v 6 = (.int .i64 (deg x))) ∧ (L 7 = true → v 7 = (.pointer (some ⟨w.heap.size, 1, none⟩))) ∧ (L 8 = true → v 8 = (.agg (bcells 64 (m)))) ∧ (L 9 = true → v 9 = (.int .i64 (deg m))) ∧ (L 10 = true → v 10 = (.bool true)) ∧ (L 11 = true → v 11 = (.bool true)) ∧ (L 12 = true → v 12 = (.bool true))) ?_ ?_ ?_
      · intro v hv0
        exact ⟨hb.drew, Nat.le_refl _, B0.drew, B1.drew, (fun h => by cases h), (fun h => by cases h), (fun h => by cases h), (fun h => by cases h), (fun h => by cases h), (fun h => by cases h), (fun h => by cases h), (fun h => by cases h), (fun h => by cases h), (fun h => by cases h), (fun h => by cases h), (fun h => by cases h), (fun h => by cases h)⟩
      · refine (.cons ?_ (.cons ?_ (.cons ?_ (.cons ?_ (.cons ?_ (.cons ?_ (.cons ?_ (.cons ?_ (.cons ?_ (.cons ?_ (.cons ?_ (.cons ?_ (.cons ?_ (.nil _))))))))))))))
        · intro L v W2 hd hn ⟨hB, hz, s0, s1, h0, h1, h2, h3, h4, h5, h6, h7, h8, h9, h10, h11, h12⟩ K hK
          rw [if_pos (by simp [Region.wanted])]
          go_wp2_with fail
          exact hK _ (.pointer (some ⟨w.heap.size, 0, none⟩)) _ (by simp only [Act.put, List.setIfInBounds_toArray, List.set_cons_zero, List.set_cons_succ ]) ⟨hB, hz, s0, s1, (fun _ => rfl), h1, h2, h3, h4, h5, h6, h7, h8, h9, h10, h11, h12⟩
        · intro L v W2 hd hn ⟨hB, hz, s0, s1, h0, h1, h2, h3, h4, h5, h6, h7, h8, h9, h10, h11, h12⟩ K hK
          have e0 := h0 (hd ⟨0, .data⟩ (by simp) rfl)
          rw [if_pos (by simp [Region.wanted])]
          have cc := s0.cell (i := 0) (v := .int .i64 p) (fdC_at p m)
          go_wp2_with fail
          exact hK _ (.int .i64 p) _ (by simp only [Act.put, List.setIfInBounds_toArray, List.set_cons_zero, List.set_cons_succ, e0]) ⟨hB, hz, s0, s1, h0, (fun _ => rfl), h2, h3, h4, h5, h6, h7, h8, h9, h10, h11, h12⟩
        · intro L v W2 hd hn ⟨hB, hz, s0, s1, h0, h1, h2, h3, h4, h5, h6, h7, h8, h9, h10, h11, h12⟩ K hK
          rw [if_pos (by simp [Region.wanted])]
          refine wp_load_any 23 _ rfl _ rfl 64 23 _ s1 _ Try.underlying23 rfl Try.size23 ?_
          exact hK _ _ _ rfl ⟨hB, hz, s0, s1, h0, h1, (fun _ => rfl), h3, h4, h5, h6, h7, h8, h9, h10, h11, h12⟩
        · intro L v W2 hd hn ⟨hB, hz, s0, s1, h0, h1, h2, h3, h4, h5, h6, h7, h8, h9, h10, h11, h12⟩ K hK
          have e1 := h1 (hd ⟨1, .data⟩ (by simp) rfl)
          have e2 := h2 (hd ⟨2, .data⟩ (by simp) rfl)
          rw [if_pos (by simp [Region.wanted])]
          go_wp2_with (go_at_call 150; refine (HOK.out _).mono ?_; rintro e wy ⟨rfl, hy⟩)
          exact hK _ (.bool true) _ (by simp only [Act.put, List.setIfInBounds_toArray, List.set_cons_zero, List.set_cons_succ, e1, e2]) ⟨hB.trans (hy.mono hB.size), (Nat.le_trans hz hy.size), (s0).below hy (s0).lt, (s1).below hy (s1).lt, h0, h1, h2, (fun _ => rfl), h4, h5, h6, h7, h8, h9, h10, h11, h12⟩
        · intro L v W2 hd hn ⟨hB, hz, s0, s1, h0, h1, h2, h3, h4, h5, h6, h7, h8, h9, h10, h11, h12⟩ K hK
          have e3 := h3 (hd ⟨3, .data⟩ (by simp) rfl)
          rw [if_pos (by simp [Region.wanted])]
          go_wp2_with fail
          exact hK _ (.bool true) _ (by simp only [Act.put, List.setIfInBounds_toArray, List.set_cons_zero, List.set_cons_succ, e3]) ⟨hB, hz, s0, s1, h0, h1, h2, h3, (fun _ => rfl), h5, h6, h7, h8, h9, h10, h11, h12⟩
        · intro L v W2 hd hn ⟨hB, hz, s0, s1, h0, h1, h2, h3, h4, h5, h6, h7, h8, h9, h10, h11, h12⟩ K hK
          have e4 := h4 (hd ⟨4, .guard⟩ (by simp) rfl)
          rw [if_pos (by simp [Region.wanted, yielded, e4])]
          refine wp_load_any 23 _ rfl _ rfl 64 23 _ s1 _ Try.underlying23 rfl Try.size23 ?_
          exact hK _ _ _ rfl ⟨hB, hz, s0, s1, h0, h1, h2, h3, h4, (fun _ => rfl), h6, h7, h8, h9, h10, h11, h12⟩
        · intro L v W2 hd hn ⟨hB, hz, s0, s1, h0, h1, h2, h3, h4, h5, h6, h7, h8, h9, h10, h11, h12⟩ K hK
          have e5 := h5 (hd ⟨5, .data⟩ (by simp) rfl)
          have e4 := h4 (hd ⟨4, .chain⟩ (by simp) rfl)
          rw [if_pos (by simp [Region.wanted, yielded, e4])]
          go_wp2_with (go_at_call 78; refine (HDG.out _ _).mono ?_; rintro e wy ⟨rfl, hy⟩)
          exact hK _ (.int .i64 (deg x)) _ (by simp only [Act.put, List.setIfInBounds_toArray, List.set_cons_zero, List.set_cons_succ, e5, e4]) ⟨hB.trans (hy.mono hB.size), (Nat.le_trans hz hy.size), (s0).below hy (s0).lt, (s1).below hy (s1).lt, h0, h1, h2, h3, h4, h5, (fun _ => rfl), h7, h8, h9, h10, h11, h12⟩
        · intro L v W2 hd hn ⟨hB, hz, s0, s1, h0, h1, h2, h3, h4, h5, h6, h7, h8, h9, h10, h11, h12⟩ K hK
          have e4 := h4 (hd ⟨4, .guard⟩ (by simp) rfl)
          rw [if_pos (by simp [Region.wanted, yielded, e4])]
          go_wp2_with fail
          exact hK _ (.pointer (some ⟨w.heap.size, 1, none⟩)) _ (by simp only [Act.put, List.setIfInBounds_toArray, List.set_cons_zero, List.set_cons_succ, e4]) ⟨hB, hz, s0, s1, h0, h1, h2, h3, h4, h5, h6, (fun _ => rfl), h8, h9, h10, h11, h12⟩
        · intro L v W2 hd hn ⟨hB, hz, s0, s1, h0, h1, h2, h3, h4, h5, h6, h7, h8, h9, h10, h11, h12⟩ K hK
          have e7 := h7 (hd ⟨7, .data⟩ (by simp) rfl)
          have e4 := h4 (hd ⟨4, .guard⟩ (by simp) rfl)
          rw [if_pos (by simp [Region.wanted, yielded, e4])]
          refine wp_load_mid 23 _ rfl _ 1 e7 _ _ (s0.fd) Try.underlying23 rfl (by rw [bl_length]; exact Try.size23) ?_
          exact hK _ _ _ rfl ⟨hB, hz, s0, s1, h0, h1, h2, h3, h4, h5, h6, h7, (fun _ => rfl), h9, h10, h11, h12⟩
        · intro L v W2 hd hn ⟨hB, hz, s0, s1, h0, h1, h2, h3, h4, h5, h6, h7, h8, h9, h10, h11, h12⟩ K hK
          have e8 := h8 (hd ⟨8, .data⟩ (by simp) rfl)
          have e4 := h4 (hd ⟨4, .guard⟩ (by simp) rfl)
          rw [if_pos (by simp [Region.wanted, yielded, e4])]
          go_wp2_with (go_at_call 78; refine (HDG.out _ _).mono ?_; rintro e wy ⟨rfl, hy⟩)
          exact hK _ (.int .i64 (deg m)) _ (by simp only [Act.put, List.setIfInBounds_toArray, List.set_cons_zero, List.set_cons_succ, e8, e4]) ⟨hB.trans (hy.mono hB.size), (Nat.le_trans hz hy.size), (s0).below hy (s0).lt, (s1).below hy (s1).lt, h0, h1, h2, h3, h4, h5, h6, h7, h8, (fun _ => rfl), h10, h11, h12⟩
        · intro L v W2 hd hn ⟨hB, hz, s0, s1, h0, h1, h2, h3, h4, h5, h6, h7, h8, h9, h10, h11, h12⟩ K hK
          have e6 := h6 (hd ⟨6, .data⟩ (by simp) rfl)
          have e9 := h9 (hd ⟨9, .data⟩ (by simp) rfl)
          have e4 := h4 (hd ⟨4, .guard⟩ (by simp) rfl)
          rw [if_pos (by simp [Region.wanted, yielded, e4])]
          go_wp2_with fail
          exact hK _ (.bool true) _ (by simp only [Act.put, List.setIfInBounds_toArray, List.set_cons_zero, List.set_cons_succ, e6, e9, e4]) ⟨hB, hz, s0, s1, h0, h1, h2, h3, h4, h5, h6, h7, h8, h9, (fun _ => rfl), h11, h12⟩
        · intro L v W2 hd hn ⟨hB, hz, s0, s1, h0, h1, h2, h3, h4, h5, h6, h7, h8, h9, h10, h11, h12⟩ K hK
          have e4 := h4 (hd ⟨4, .data⟩ (by simp) rfl)
          have e10 := h10 (hd ⟨10, .data⟩ (by simp) rfl)
          rw [if_pos (by simp [Region.wanted])]
          go_wp2_with fail
          exact hK _ (.bool true) _ (by simp only [Act.put, List.setIfInBounds_toArray, List.set_cons_zero, List.set_cons_succ, e4, e10]) ⟨hB, hz, s0, s1, h0, h1, h2, h3, h4, h5, h6, h7, h8, h9, h10, (fun _ => rfl), h12⟩
        · intro L v W2 hd hn ⟨hB, hz, s0, s1, h0, h1, h2, h3, h4, h5, h6, h7, h8, h9, h10, h11, h12⟩ K hK
          have e11 := h11 (hd ⟨11, .data⟩ (by simp) rfl)
          rw [if_pos (by simp [Region.wanted])]
          go_wp2_with fail
          exact hK _ (.bool true) _ (by simp only [Act.put, List.setIfInBounds_toArray, List.set_cons_zero, List.set_cons_succ, e11]) ⟨hB, hz, s0, s1, h0, h1, h2, h3, h4, h5, h6, h7, h8, h9, h10, h11, (fun _ => rfl)⟩
      · intro L v W2 hL ⟨hB, hz, s0, s1, h0, h1, h2, h3, h4, h5, h6, h7, h8, h9, h10, h11, h12⟩
        have e0 := h0 (hL 0 (by decide))
        have e1 := h1 (hL 1 (by decide))
        have e2 := h2 (hL 2 (by decide))
        have e3 := h3 (hL 3 (by decide))
        have e4 := h4 (hL 4 (by decide))
        have e5 := h5 (hL 5 (by decide))
        have e6 := h6 (hL 6 (by decide))
        have e7 := h7 (hL 7 (by decide))
        have e8 := h8 (hL 8 (by decide))
        have e9 := h9 (hL 9 (by decide))
        have e10 := h10 (hL 10 (by decide))
        have e11 := h11 (hL 11 (by decide))
        have e12 := h12 (hL 12 (by decide))
        clear hL h0 h1 h2 h3 h4 h5 h6 h7 h8 h9 h10 h11 h12
        simp only [Exit.then, e0, e1, e2, e3, e4, e5, e6, e7, e8, e9, e10, e11, e12]
        clear e0 e1 e2 e3 e4 e5 e6 e7 e8 e9 e10 e11 e12
        clear B0
        have B0 := s0
        clear s0
        clear B1
        have B1 := s1
        clear s1
        clear hb
        have hb := hB
        clear hB
        clear hbase hz lt_B0 lt_B1
        go_wp2_with fail
        go_ret
        exact ⟨by rw [HV.out]; rfl, hb⟩
    · skip
      have HV := Lib.hid (rsB_3 ho hlt)
      have HOK := Lib.hid (fun W => IsPoly_any p x hx W)
      rw [ho] at HOK
      have HDG := Lib.hid (fun f W => degree_any f W)
      clear ho
      have lt_B0 : (w.heap.size) < W1.heap.size := B0.lt
      have lt_B1 : (w.heap.size + 1) < W1.heap.size := B1.lt
      have hbase : w.heap.size ≤ W1.heap.size := hb.size
      refine wp_region_stepsG Try.mixed (by kernel_rfl) (by kernel_rfl) (fun v => by (simp only [frL, Act.put, List.setIfInBounds_toArray, List.set_cons_zero, List.set_cons_succ, Nat.reduceAdd, Nat.zero_add]; exact rfl))
        (fun L v W2 => Below w.heap.size w W2 ∧ W1.heap.size ≤ W2.heap.size ∧ Row W2 (w.heap.size) 83 (fdC p m).toArray ∧ Blk W2 (w.heap.size + 1) 64 23 (x) ∧ (L 0 = true → v 0 = (.pointer (some ⟨w.heap.size, 0, none⟩))) ∧ (L 1 = true → v 1 = (.int .i64 p)) ∧ (L 2 = true → v 2 = (.agg (bcells 64 (x)))) ∧ (L 3 = true → v 3 = (.bool true)) ∧ (L 4 = true → v 4 = (.bool true)) ∧ (L 5 = true → v 5 = (.agg (bcells 64 (x)))) ∧ (L 6 = true → v 6 = (.int .i64 (deg x))) ∧ (L 7 = true → v 7 = (.pointer (some ⟨w.heap.size, 1, none⟩))) ∧ (L 8 = true → v 8 = (.agg (bcells 64 (m)))) ∧ (L 9 = true → v 9 = (.int .i64 (deg m))) ∧ (L 10 = true → v 10 = (.bool false)) ∧ (L 11 = true → v 11 = (.bool false)) ∧ (L 12 = true → v 12 = (.bool false))) ?_ ?_ ?_
      · intro v hv0
        exact ⟨hb.drew, Nat.le_refl _, B0.drew, B1.drew, (fun h => by cases h), (fun h => by cases h), (fun h => by cases h), (fun h => by cases h), (fun h => by cases h), (fun h => by cases h), (fun h => by cases h), (fun h => by cases h), (fun h => by cases h), (fun h => by cases h), (fun h => by cases h), (fun h => by cases h), (fun h => by cases h)⟩
      · refine (.cons ?_ (.cons ?_ (.cons ?_ (.cons ?_ (.cons ?_ (.cons ?_ (.cons ?_ (.cons ?_ (.cons ?_ (.cons ?_ (.cons ?_ (.cons ?_ (.cons ?_ (.nil _))))))))))))))
        · intro L v W2 hd hn ⟨hB, hz, s0, s1, h0, h1, h2, h3, h4, h5, h6, h7, h8, h9, h10, h11, h12⟩ K hK
          rw [if_pos (by simp [Region.wanted])]
          go_wp2_with fail
          exact hK _ (.pointer (some ⟨w.heap.size, 0, none⟩)) _ (by simp only [Act.put, List.setIfInBounds_toArray, List.set_cons_zero, List.set_cons_succ ]) ⟨hB, hz, s0, s1, (fun _ => rfl), h1, h2, h3, h4, h5, h6, h7, h8, h9, h10, h11, h12⟩
        · intro L v W2 hd hn ⟨hB, hz, s0, s1, h0, h1, h2, h3, h4, h5, h6, h7, h8, h9, h10, h11, h12⟩ K hK
          have e0 := h0 (hd ⟨0, .data⟩ (by simp) rfl)
          rw [if_pos (by simp [Region.wanted])]
          have cc := s0.cell (i := 0) (v := .int .i64 p) (fdC_at p m)
          go_wp2_with fail
          exact hK _ (.int .i64 p) _ (by simp only [Act.put, List.setIfInBounds_toArray, List.set_cons_zero, List.set_cons_succ, e0]) ⟨hB, hz, s0, s1, h0, (fun _ => rfl), h2, h3, h4, h5, h6, h7, h8, h9, h10, h11, h12⟩
        · intro L v W2 hd hn ⟨hB, hz, s0, s1, h0, h1, h2, h3, h4, h5, h6, h7, h8, h9, h10, h11, h12⟩ K hK
          rw [if_pos (by simp [Region.wanted])]
          refine wp_load_any 23 _ rfl _ rfl 64 23 _ s1 _ Try.underlying23 rfl Try.size23 ?_
          exact hK _ _ _ rfl ⟨hB, hz, s0, s1, h0, h1, (fun _ => rfl), h3, h4, h5, h6, h7, h8, h9, h10, h11, h12⟩
        · intro L v W2 hd hn ⟨hB, hz, s0, s1, h0, h1, h2, h3, h4, h5, h6, h7, h8, h9, h10, h11, h12⟩ K hK
          have e1 := h1 (hd ⟨1, .data⟩ (by simp) rfl)
          have e2 := h2 (hd ⟨2, .data⟩ (by simp) rfl)
          rw [if_pos (by simp [Region.wanted])]
          go_wp2_with (go_at_call 150; refine (HOK.out _).mono ?_; rintro e wy ⟨rfl, hy⟩)
          exact hK _ (.bool true) _ (by simp only [Act.put, List.setIfInBounds_toArray, List.set_cons_zero, List.set_cons_succ, e1, e2]) ⟨hB.trans (hy.mono hB.size), (Nat.le_trans hz hy.size), (s0).below hy (s0).lt, (s1).below hy (s1).lt, h0, h1, h2, (fun _ => rfl), h4, h5, h6, h7, h8, h9, h10, h11, h12⟩
        · intro L v W2 hd hn ⟨hB, hz, s0, s1, h0, h1, h2, h3, h4, h5, h6, h7, h8, h9, h10, h11, h12⟩ K hK
          have e3 := h3 (hd ⟨3, .data⟩ (by simp) rfl)
          rw [if_pos (by simp [Region.wanted])]
          go_wp2_with fail
          exact hK _ (.bool true) _ (by simp only [Act.put, List.setIfInBounds_toArray, List.set_cons_zero, List.set_cons_succ, e3]) ⟨hB, hz, s0, s1, h0, h1, h2, h3, (fun _ => rfl), h5, h6, h7, h8, h9, h10, h11, h12⟩
        · intro L v W2 hd hn ⟨hB, hz, s0, s1, h0, h1, h2, h3, h4, h5, h6, h7, h8, h9, h10, h11, h12⟩ K hK
          have e4 := h4 (hd ⟨4, .guard⟩ (by simp) rfl)
          rw [if_pos (by simp [Region.wanted, yielded, e4])]
          refine wp_load_any 23 _ rfl _ rfl 64 23 _ s1 _ Try.underlying23 rfl Try.size23 ?_
          exact hK _ _ _ rfl ⟨hB, hz, s0, s1, h0, h1, h2, h3, h4, (fun _ => rfl), h6, h7, h8, h9, h10, h11, h12⟩
        · intro L v W2 hd hn ⟨hB, hz, s0, s1, h0, h1, h2, h3, h4, h5, h6, h7, h8, h9, h10, h11, h12⟩ K hK
          have e5 := h5 (hd ⟨5, .data⟩ (by simp) rfl)
          have e4 := h4 (hd ⟨4, .chain⟩ (by simp) rfl)
          rw [if_pos (by simp [Region.wanted, yielded, e4])]
          go_wp2_with (go_at_call 78; refine (HDG.out _ _).mono ?_; rintro e wy ⟨rfl, hy⟩)
          exact hK _ (.int .i64 (deg x)) _ (by simp only [Act.put, List.setIfInBounds_toArray, List.set_cons_zero, List.set_cons_succ, e5, e4]) ⟨hB.trans (hy.mono hB.size), (Nat.le_trans hz hy.size), (s0).below hy (s0).lt, (s1).below hy (s1).lt, h0, h1, h2, h3, h4, h5, (fun _ => rfl), h7, h8, h9, h10, h11, h12⟩
        · intro L v W2 hd hn ⟨hB, hz, s0, s1, h0, h1, h2, h3, h4, h5, h6, h7, h8, h9, h10, h11, h12⟩ K hK
          have e4 := h4 (hd ⟨4, .guard⟩ (by simp) rfl)
          rw [if_pos (by simp [Region.wanted, yielded, e4])]
          go_wp2_with fail
          exact hK _ (.pointer (some ⟨w.heap.size, 1, none⟩)) _ (by simp only [Act.put, List.setIfInBounds_toArray, List.set_cons_zero, List.set_cons_succ, e4]) ⟨hB, hz, s0, s1, h0, h1, h2, h3, h4, h5, h6, (fun _ => rfl), h8, h9, h10, h11, h12⟩
        · intro L v W2 hd hn ⟨hB, hz, s0, s1, h0, h1, h2, h3, h4, h5, h6, h7, h8, h9, h10, h11, h12⟩ K hK
          have e7 := h7 (hd ⟨7, .data⟩ (by simp) rfl)
          have e4 := h4 (hd ⟨4, .guard⟩ (by simp) rfl)
          rw [if_pos (by simp [Region.wanted, yielded, e4])]
          refine wp_load_mid 23 _ rfl _ 1 e7 _ _ (s0.fd) Try.underlying23 rfl (by rw [bl_length]; exact Try.size23) ?_
          exact hK _ _ _ rfl ⟨hB, hz, s0, s1, h0, h1, h2, h3, h4, h5, h6, h7, (fun _ => rfl), h9, h10, h11, h12⟩
        · intro L v W2 hd hn ⟨hB, hz, s0, s1, h0, h1, h2, h3, h4, h5, h6, h7, h8, h9, h10, h11, h12⟩ K hK
          have e8 := h8 (hd ⟨8, .data⟩ (by simp) rfl)
          have e4 := h4 (hd ⟨4, .guard⟩ (by simp) rfl)
          rw [if_pos (by simp [Region.wanted, yielded, e4])]
          go_wp2_with (go_at_call 78; refine (HDG.out _ _).mono ?_; rintro e wy ⟨rfl, hy⟩)
          exact hK _ (.int .i64 (deg m)) _ (by simp only [Act.put, List.setIfInBounds_toArray, List.set_cons_zero, List.set_cons_succ, e8, e4]) ⟨hB.trans (hy.mono hB.size), (Nat.le_trans hz hy.size), (s0).below hy (s0).lt, (s1).below hy (s1).lt, h0, h1, h2, h3, h4, h5, h6, h7, h8, (fun _ => rfl), h10, h11, h12⟩
        · intro L v W2 hd hn ⟨hB, hz, s0, s1, h0, h1, h2, h3, h4, h5, h6, h7, h8, h9, h10, h11, h12⟩ K hK
          have e6 := h6 (hd ⟨6, .data⟩ (by simp) rfl)
          have e9 := h9 (hd ⟨9, .data⟩ (by simp) rfl)
          have e4 := h4 (hd ⟨4, .guard⟩ (by simp) rfl)
          rw [if_pos (by simp [Region.wanted, yielded, e4])]
          go_wp2_with fail
          exact hK _ (.bool false) _ (by simp only [Act.put, List.setIfInBounds_toArray, List.set_cons_zero, List.set_cons_succ, e6, e9, e4]) ⟨hB, hz, s0, s1, h0, h1, h2, h3, h4, h5, h6, h7, h8, h9, (fun _ => rfl), h11, h12⟩
        · intro L v W2 hd hn ⟨hB, hz, s0, s1, h0, h1, h2, h3, h4, h5, h6, h7, h8, h9, h10, h11, h12⟩ K hK
          have e4 := h4 (hd ⟨4, .data⟩ (by simp) rfl)
          have e10 := h10 (hd ⟨10, .data⟩ (by simp) rfl)
          rw [if_pos (by simp [Region.wanted])]
          go_wp2_with fail
          exact hK _ (.bool false) _ (by simp only [Act.put, List.setIfInBounds_toArray, List.set_cons_zero, List.set_cons_succ, e4, e10]) ⟨hB, hz, s0, s1, h0, h1, h2, h3, h4, h5, h6, h7, h8, h9, h10, (fun _ => rfl), h12⟩
        · intro L v W2 hd hn ⟨hB, hz, s0, s1, h0, h1, h2, h3, h4, h5, h6, h7, h8, h9, h10, h11, h12⟩ K hK
          have e11 := h11 (hd ⟨11, .data⟩ (by simp) rfl)
          rw [if_pos (by simp [Region.wanted])]
          go_wp2_with fail
          exact hK _ (.bool false) _ (by simp only [Act.put, List.setIfInBounds_toArray, List.set_cons_zero, List.set_cons_succ, e11]) ⟨hB, hz, s0, s1, h0, h1, h2, h3, h4, h5, h6, h7, h8, h9, h10, h11, (fun _ => rfl)⟩
      · intro L v W2 hL ⟨hB, hz, s0, s1, h0, h1, h2, h3, h4, h5, h6, h7, h8, h9, h10, h11, h12⟩
        have e0 := h0 (hL 0 (by decide))
        have e1 := h1 (hL 1 (by decide))
        have e2 := h2 (hL 2 (by decide))
        have e3 := h3 (hL 3 (by decide))
        have e4 := h4 (hL 4 (by decide))
        have e5 := h5 (hL 5 (by decide))
        have e6 := h6 (hL 6 (by decide))
        have e7 := h7 (hL 7 (by decide))
        have e8 := h8 (hL 8 (by decide))
        have e9 := h9 (hL 9 (by decide))
        have e10 := h10 (hL 10 (by decide))
        have e11 := h11 (hL 11 (by decide))
        have e12 := h12 (hL 12 (by decide))
        clear hL h0 h1 h2 h3 h4 h5 h6 h7 h8 h9 h10 h11 h12
        simp only [Exit.then, e0, e1, e2, e3, e4, e5, e6, e7, e8, e9, e10, e11, e12]
        clear e0 e1 e2 e3 e4 e5 e6 e7 e8 e9 e10 e11 e12
        clear B0
        have B0 := s0
        clear s0
        clear B1
        have B1 := s1
        clear s1
        clear hb
        have hb := hB
        clear hB
        clear hbase hz lt_B0 lt_B1
        go_wp2_with fail
        go_ret
        exact ⟨by rw [HV.out]; rfl, hb⟩
set_option maxRecDepth 100000 in
set_option maxHeartbeats 1600000 in
theorem l03Is_any (p : Int) (m : Nat → Nat) (F : Nat → Nat → Nat) (hm : byte m) (hF : ∀ i, byte (F i)) (w : World) :
    Calls Try.prog 93 #[.int .i64 p, .agg (bcells 64 m), .agg (bcells 512 (fl 64 F))] w fun e w' => e = .returned (.bool (skB p m F)) ∧ Below w.heap.size w w' := by
  have HR := Lib.hid (fun i W => l03Residue_any p m (F i) hm (hF i) W)
  have HY := Lib.hid (fun h => skB_yes (p := p) (m := m) (F := F) h)
  have HN := Lib.hid (fun i (hi : i < 8) h => skB_no (p := p) (m := m) (F := F) hi h)
  go_enter Try.func93, Try.ntmps93
  go_upto_region 1 with (fail)
  obtain ⟨W1, hwo⟩ : ∃ v : World, v = ((w.alloc (.cells (bcells 64 (m)) 23)).alloc (.cells (bcells 512 (fl 64 F)) 34)) := ⟨_, rfl⟩
  have B0 : Blk W1 (w.heap.size) 64 23 (m) := by subst hwo; have := ((Blk.new w 64 23 (m)).alloc (.cells (bcells 512 (fl 64 F)) 34)); simpa using this
  have B1 : Blk W1 (w.heap.size + 1) 512 34 (fl 64 F) := by subst hwo; have := (Blk.new (w.alloc (.cells (bcells 64 (m)) 23)) 512 34 (fl 64 F)); simpa using this
  have hb : Below w.heap.size w W1 := by subst hwo; exact (((Below.refl _ _).alloc (Nat.le_refl _) _).alloc (by simp) _)
  rw [← hwo]
  clear hwo
  go_wp2_with fail
  go_loopw [7] (fun c wr => ∃ j : Nat, c = .int .i64 (j : Int) ∧ j ≤ 8 ∧ Hid (∀ i, i < j → rsB p m (F i) = true) ∧ Below w.heap.size w wr ∧ Blk wr (w.heap.size) 64 23 m ∧ Blk wr (w.heap.size + 1) 512 34 (fl 64 F)) (fun c _ => 8 - (intOf c).toNat)
  case atStart => exact ⟨0, rfl, by omega, Lib.hid (fun i hi => absurd hi (Nat.not_lt_zero i)), hb, B0, B1⟩
  case round =>
    clear hb B0 B1
    obtain ⟨j, rfl, hj8, hall, hb, B0, B1⟩ := hrel
    by_cases hj : j < 8
    · have hjI : (j : Int) < 8 := by omega
      have HRJ := Lib.hid (HR.out j)
      cases hr : rsB p m (F j) with
      | false =>
        rw [hr] at HRJ
        have HV := Lib.hid (HN.out j hj hr)
        clear hr
        go_upto_region 4 with (fail)
        have lt_B0 : (w.heap.size) < wr.heap.size := B0.lt
        have lt_B1 : (w.heap.size + 1) < wr.heap.size := B1.lt
        have hbase : w.heap.size ≤ wr.heap.size := hb.size
        refine wp_region_steps0 Try.mixed (by kernel_rfl) (by kernel_rfl) (fun v => by (simp only [frL, Act.put, List.setIfInBounds_toArray, List.set_cons_zero, List.set_cons_succ, Nat.reduceAdd, Nat.zero_add]; exact rfl))
          (fun L v W2 => Below w.heap.size w W2 ∧ wr.heap.size ≤ W2.heap.size ∧ Blk W2 (w.heap.size) 64 23 (m) ∧ Blk W2 (w.heap.size + 1) 512 34 (fl 64 F) ∧ (L 0 = true → v 0 = (.int .i64 p)) ∧ (L 1 = true → v 1 = (.agg (bcells 64 (m)))) ∧ (L 2 = true → v 2 = (.int .i64 (j : Int))) ∧ (L 3 = true → v 3 = (.pointer (some ⟨w.heap.size + 1, j * 64, none⟩))) ∧ (L 4 = true → v 4 = (.agg (bcells 64 (F j)))) ∧ (L 5 = true → v 5 = (.bool false)) ∧ (L 6 = true → v 6 = (.bool true))) ?_ ?_ ?_
        · intro v hv0
          exact ⟨hb.drew, Nat.le_refl _, B0.drew, B1.drew, (fun h => by cases h), (fun h => by cases h), (fun h => by cases h), (fun h => by cases h), (fun h => by cases h), (fun h => by cases h), (fun h => by cases h)⟩
        · refine (.cons rfl ?_ (.cons rfl ?_ (.cons rfl ?_ (.cons rfl ?_ (.cons rfl ?_ (.cons rfl ?_ (.cons rfl ?_ (.nil _))))))))
          · intro L v W2 hd hn ⟨hB, hz, s0, s1, h0, h1, h2, h3, h4, h5, h6⟩ K hK
            go_wp2_with fail
            exact hK _ (.int .i64 p) _ (by simp only [Act.put, List.setIfInBounds_toArray, List.set_cons_zero, List.set_cons_succ ]) ⟨hB, hz, s0, s1, (fun _ => rfl), h1, h2, h3, h4, h5, h6⟩
          · intro L v W2 hd hn ⟨hB, hz, s0, s1, h0, h1, h2, h3, h4, h5, h6⟩ K hK
            refine wp_load_any 23 _ rfl _ rfl 64 23 _ s0 _ Try.underlying23 rfl Try.size23 ?_
            exact hK _ _ _ rfl ⟨hB, hz, s0, s1, h0, (fun _ => rfl), h2, h3, h4, h5, h6⟩
          · intro L v W2 hd hn ⟨hB, hz, s0, s1, h0, h1, h2, h3, h4, h5, h6⟩ K hK
            go_wp2_with fail
            exact hK _ (.int .i64 (j : Int)) _ (by simp only [Act.put, List.setIfInBounds_toArray, List.set_cons_zero, List.set_cons_succ ]) ⟨hB, hz, s0, s1, h0, h1, (fun _ => rfl), h3, h4, h5, h6⟩
          · intro L v W2 hd hn ⟨hB, hz, s0, s1, h0, h1, h2, h3, h4, h5, h6⟩ K hK
            have e2 := h2 (hd ⟨2, .data⟩ (by simp) rfl)
            go_wp2_with fail
            exact hK _ (.pointer (some ⟨w.heap.size + 1, j * 64, none⟩)) _ (by simp only [Act.put, List.setIfInBounds_toArray, List.set_cons_zero, List.set_cons_succ, e2]) ⟨hB, hz, s0, s1, h0, h1, h2, (fun _ => rfl), h4, h5, h6⟩
          · intro L v W2 hd hn ⟨hB, hz, s0, s1, h0, h1, h2, h3, h4, h5, h6⟩ K hK
            have e3 := h3 (hd ⟨3, .data⟩ (by simp) rfl)
            refine wp_load_mid 23 _ rfl _ (j * 64) e3 _ _ ((s1).sk (by omega)) Try.underlying23 rfl (by rw [bl_length]; exact Try.size23) ?_
            exact hK _ _ _ rfl ⟨hB, hz, s0, s1, h0, h1, h2, h3, (fun _ => rfl), h5, h6⟩
          · intro L v W2 hd hn ⟨hB, hz, s0, s1, h0, h1, h2, h3, h4, h5, h6⟩ K hK
            have e0 := h0 (hd ⟨0, .data⟩ (by simp) rfl)
            have e1 := h1 (hd ⟨1, .data⟩ (by simp) rfl)
            have e4 := h4 (hd ⟨4, .data⟩ (by simp) rfl)
            go_wp2_with (go_at_call 102; refine (HRJ.out _).mono ?_; rintro e wy ⟨rfl, hy⟩)
            exact hK _ (.bool false) _ (by simp only [Act.put, List.setIfInBounds_toArray, List.set_cons_zero, List.set_cons_succ, e0, e1, e4]) ⟨hB.trans (hy.mono hB.size), (Nat.le_trans hz hy.size), (s0).below hy (s0).lt, (s1).below hy (s1).lt, h0, h1, h2, h3, h4, (fun _ => rfl), h6⟩
          · intro L v W2 hd hn ⟨hB, hz, s0, s1, h0, h1, h2, h3, h4, h5, h6⟩ K hK
            have e5 := h5 (hd ⟨5, .data⟩ (by simp) rfl)
            go_wp2_with fail
            exact hK _ (.bool true) _ (by simp only [Act.put, List.setIfInBounds_toArray, List.set_cons_zero, List.set_cons_succ, e5]) ⟨hB, hz, s0, s1, h0, h1, h2, h3, h4, h5, (fun _ => rfl)⟩
        · intro L v W2 hL ⟨hB, hz, s0, s1, h0, h1, h2, h3, h4, h5, h6⟩
          have e0 := h0 (hL 0 (by decide))
          have e1 := h1 (hL 1 (by decide))
          have e2 := h2 (hL 2 (by decide))
          have e3 := h3 (hL 3 (by decide))
          have e4 := h4 (hL 4 (by decide))
          have e5 := h5 (hL 5 (by decide))
          have e6 := h6 (hL 6 (by decide))
          clear hL h0 h1 h2 h3 h4 h5 h6
          simp only [Exit.then, e0, e1, e2, e3, e4, e5, e6]
          clear e0 e1 e2 e3 e4 e5 e6
          clear B0
          have B0 := s0
          clear s0
          clear B1
          have B1 := s1
          clear s1
          clear hb
          have hb := hB
          clear hB
          clear hbase hz lt_B0 lt_B1
          go_wp2_with fail
          go_ret
          exact ⟨by rw [HV.out]; rfl, hb⟩
      | true =>
        rw [hr] at HRJ
        have HA := Lib.hid (show ∀ i, i < j + 1 → rsB p m (F i) = true from fun i hi => by
          by_cases e : i = j
          · subst e; exact hr
          · exact hall.out i (by omega))
        clear hr
        go_upto_region 4 with (fail)
        have lt_B0 : (w.heap.size) < wr.heap.size := B0.lt
        have lt_B1 : (w.heap.size + 1) < wr.heap.size := B1.lt
        have hbase : w.heap.size ≤ wr.heap.size := hb.size
        refine wp_region_steps0 Try.mixed (by kernel_rfl) (by kernel_rfl) (fun v => by (simp only [frL, Act.put, List.setIfInBounds_toArray, List.set_cons_zero, List.set_cons_succ, Nat.reduceAdd, Nat.zero_add]; exact rfl))
          (fun L v W2 => Below w.heap.size w W2 ∧ wr.heap.size ≤ W2.heap.size ∧ Blk W2 (w.heap.size) 64 23 (m) ∧ Blk W2 (w.heap.size + 1) 512 34 (fl 64 F) ∧ (L 0 = true → v 0 = (.int .i64 p)) ∧ (L 1 = true → v 1 = (.agg (bcells 64 (m)))) ∧ (L 2 = true → v 2 = (.int .i64 (j : Int))) ∧ (L 3 = true → v 3 = (.pointer (some ⟨w.heap.size + 1, j * 64, none⟩))) ∧ (L 4 = true → v 4 = (.agg (bcells 64 (F j)))) ∧ (L 5 = true → v 5 = (.bool true)) ∧ (L 6 = true → v 6 = (.bool false))) ?_ ?_ ?_
        · intro v hv0
          exact ⟨hb.drew, Nat.le_refl _, B0.drew, B1.drew, (fun h => by cases h), (fun h => by cases h), (fun h => by cases h), (fun h => by cases h), (fun h => by cases h), (fun h => by cases h), (fun h => by cases h)⟩
        · refine (.cons rfl ?_ (.cons rfl ?_ (.cons rfl ?_ (.cons rfl ?_ (.cons rfl ?_ (.cons rfl ?_ (.cons rfl ?_ (.nil _))))))))
          · intro L v W2 hd hn ⟨hB, hz, s0, s1, h0, h1, h2, h3, h4, h5, h6⟩ K hK
            go_wp2_with fail
            exact hK _ (.int .i64 p) _ (by simp only [Act.put, List.setIfInBounds_toArray, List.set_cons_zero, List.set_cons_succ ]) ⟨hB, hz, s0, s1, (fun _ => rfl), h1, h2, h3, h4, h5, h6⟩
          · intro L v W2 hd hn ⟨hB, hz, s0, s1, h0, h1, h2, h3, h4, h5, h6⟩ K hK
            refine wp_load_any 23 _ rfl _ rfl 64 23 _ s0 _ Try.underlying23 rfl Try.size23 ?_
            exact hK _ _ _ rfl ⟨hB, hz, s0, s1, h0, (fun _ => rfl), h2, h3, h4, h5, h6⟩
          · intro L v W2 hd hn ⟨hB, hz, s0, s1, h0, h1, h2, h3, h4, h5, h6⟩ K hK
            go_wp2_with fail
            exact hK _ (.int .i64 (j : Int)) _ (by simp only [Act.put, List.setIfInBounds_toArray, List.set_cons_zero, List.set_cons_succ ]) ⟨hB, hz, s0, s1, h0, h1, (fun _ => rfl), h3, h4, h5, h6⟩
          · intro L v W2 hd hn ⟨hB, hz, s0, s1, h0, h1, h2, h3, h4, h5, h6⟩ K hK
            have e2 := h2 (hd ⟨2, .data⟩ (by simp) rfl)
            go_wp2_with fail
            exact hK _ (.pointer (some ⟨w.heap.size + 1, j * 64, none⟩)) _ (by simp only [Act.put, List.setIfInBounds_toArray, List.set_cons_zero, List.set_cons_succ, e2]) ⟨hB, hz, s0, s1, h0, h1, h2, (fun _ => rfl), h4, h5, h6⟩
          · intro L v W2 hd hn ⟨hB, hz, s0, s1, h0, h1, h2, h3, h4, h5, h6⟩ K hK
            have e3 := h3 (hd ⟨3, .data⟩ (by simp) rfl)
            refine wp_load_mid 23 _ rfl _ (j * 64) e3 _ _ ((s1).sk (by omega)) Try.underlying23 rfl (by rw [bl_length]; exact Try.size23) ?_
            exact hK _ _ _ rfl ⟨hB, hz, s0, s1, h0, h1, h2, h3, (fun _ => rfl), h5, h6⟩
          · intro L v W2 hd hn ⟨hB, hz, s0, s1, h0, h1, h2, h3, h4, h5, h6⟩ K hK
            have e0 := h0 (hd ⟨0, .data⟩ (by simp) rfl)
            have e1 := h1 (hd ⟨1, .data⟩ (by simp) rfl)
            have e4 := h4 (hd ⟨4, .data⟩ (by simp) rfl)
            go_wp2_with (go_at_call 102; refine (HRJ.out _).mono ?_; rintro e wy ⟨rfl, hy⟩)
            exact hK _ (.bool true) _ (by simp only [Act.put, List.setIfInBounds_toArray, List.set_cons_zero, List.set_cons_succ, e0, e1, e4]) ⟨hB.trans (hy.mono hB.size), (Nat.le_trans hz hy.size), (s0).below hy (s0).lt, (s1).below hy (s1).lt, h0, h1, h2, h3, h4, (fun _ => rfl), h6⟩
          · intro L v W2 hd hn ⟨hB, hz, s0, s1, h0, h1, h2, h3, h4, h5, h6⟩ K hK
            have e5 := h5 (hd ⟨5, .data⟩ (by simp) rfl)
            go_wp2_with fail
            exact hK _ (.bool false) _ (by simp only [Act.put, List.setIfInBounds_toArray, List.set_cons_zero, List.set_cons_succ, e5]) ⟨hB, hz, s0, s1, h0, h1, h2, h3, h4, h5, (fun _ => rfl)⟩
        · intro L v W2 hL ⟨hB, hz, s0, s1, h0, h1, h2, h3, h4, h5, h6⟩
          have e0 := h0 (hL 0 (by decide))
          have e1 := h1 (hL 1 (by decide))
          have e2 := h2 (hL 2 (by decide))
          have e3 := h3 (hL 3 (by decide))
          have e4 := h4 (hL 4 (by decide))
          have e5 := h5 (hL 5 (by decide))
          have e6 := h6 (hL 6 (by decide))
          clear hL h0 h1 h2 h3 h4 h5 h6
          simp only [Exit.then, e0, e1, e2, e3, e4, e5, e6]
          clear e0 e1 e2 e3 e4 e5 e6
          clear B0
          have B0 := s0
          clear s0
          clear B1
          have B1 := s1
          clear s1
          clear hb
          have hb := hB
          clear hB
          clear hbase hz lt_B0 lt_B1
          go_wp2_with fail
          go_roundw
          case rel => exact ⟨j + 1, by go_num, by omega, HA, hb, B0, B1⟩
          case measure => simp [intOf] <;> omega
    · have hjI : ¬ (j : Int) < 8 := by omega
      obtain rfl : j = 8 := by omega
      have HV := Lib.hid (HY.out hall.out)
      go_wp2_with fail
      go_ret
      exact ⟨by rw [HV.out]; rfl, hb⟩
set_option maxRecDepth 100000 in
set_option maxHeartbeats 1600000 in
theorem isSkew_any (p : Int) (m : Nat → Nat) (F : Nat → Nat → Nat) (hm : byte m) (hF : ∀ i, byte (F i)) (w : World) :
    Calls Try.prog 161 #[.agg (fdC p m).toArray, .agg (bcells 512 (fl 64 F))] w fun e w' => e = .returned (.bool (skB p m F)) ∧ Below w.heap.size w w' := by
  have HR := Lib.hid (fun i W => isResidue_any p m (F i) hm (hF i) W)
  have HY := Lib.hid (fun h => skB_yes (p := p) (m := m) (F := F) h)
  have HN := Lib.hid (fun i (hi : i < 8) h => skB_no (p := p) (m := m) (F := F) hi h)
  go_enter Try.func161, Try.ntmps161
  go_upto_region 1 with (fail)
  obtain ⟨W1, hwo⟩ : ∃ v : World, v = ((w.alloc (.cells (fdC p m).toArray 83)).alloc (.cells (bcells 512 (fl 64 F)) 34)) := ⟨_, rfl⟩
  have B0 : Row W1 (w.heap.size) 83 (fdC p m).toArray := by subst hwo; have := ((Row.new w 83 (fdC p m).toArray).alloc (.cells (bcells 512 (fl 64 F)) 34)); simpa using this
  have B1 : Blk W1 (w.heap.size + 1) 512 34 (fl 64 F) := by subst hwo; have := (Blk.new (w.alloc (.cells (fdC p m).toArray 83)) 512 34 (fl 64 F)); simpa using this
  have hb : Below w.heap.size w W1 := by subst hwo; exact (((Below.refl _ _).alloc (Nat.le_refl _) _).alloc (by simp) _)
  rw [← hwo]
  clear hwo
  go_upto_region 2 with (first | (refine wpList_load_any rfl 34 (.tmp 3) rfl _ rfl 512 34 _ (B1) _ Try.underlying34 rfl Try.size34 ?_))
  go_loopw [8] (fun c wr => ∃ j : Nat, c = .int .i64 (j : Int) ∧ j ≤ 8 ∧ Hid (∀ i, i < j → rsB p m (F i) = true) ∧ Below w.heap.size w wr ∧ Row wr (w.heap.size) 83 (fdC p m).toArray ∧ Blk wr (w.heap.size + 1) 512 34 (fl 64 F)) (fun c _ => 8 - (intOf c).toNat)
  case atStart => exact ⟨0, rfl, by omega, Lib.hid (fun i hi => absurd hi (Nat.not_lt_zero i)), hb, B0, B1⟩
  case round =>
    clear hb B0 B1
    obtain ⟨j, rfl, hj8, hall, hb, B0, B1⟩ := hrel
    by_cases hj : j < 8
    · have hjI : (j : Int) < 8 := by omega
      have HRJ := Lib.hid (HR.out j)
      cases hr : rsB p m (F j) with
      | false =>
        rw [hr] at HRJ
        have HV := Lib.hid (HN.out j hj hr)
        clear hr
        have hix := run_index_sk (P := Try.prog) 34 23 F .i64 j _ Try.underlying34 Try.underlying23 rfl Try.size23 hj
        go_upto_region 3 with (fail)
        have lt_B0 := B0.lt
        have lt_B1 := B1.lt
        go_upto_region 4 with (first | rw [← zero64] | (refine wpList_store_blk rfl 23 (.tmp 6) (.tmp 10) rfl _ 64 (F j) rfl rfl 23 _ ((Blk.new wr 64 23 (fun _ => 0))) Try.size23 ?_; try simp only [Act.put]))
        have lt_B0 := B0.lt
        have lt_B1 := B1.lt
        have lhb := hb.size
        have qB0 : Row ((wr.alloc (.cells (bcells 64 (fun _ => 0)) 23)).setRow (wr.heap.size) (bcells 64 (F j))) (w.heap.size) 83 (fdC p m).toArray := ((B0.alloc (.cells (bcells 64 (fun _ => 0)) 23)).rowOther (by omega))
        have qB1 : Blk ((wr.alloc (.cells (bcells 64 (fun _ => 0)) 23)).setRow (wr.heap.size) (bcells 64 (F j))) (w.heap.size + 1) 512 34 (fl 64 F) := ((B1.alloc (.cells (bcells 64 (fun _ => 0)) 23)).rowOther (by omega))
        have qB2 : Blk ((wr.alloc (.cells (bcells 64 (fun _ => 0)) 23)).setRow (wr.heap.size) (bcells 64 (F j))) (wr.heap.size) 64 23 (F j) := ((Blk.new wr 64 23 (fun _ => 0)).row (F j))
        have qhb : Below w.heap.size w ((wr.alloc (.cells (bcells 64 (fun _ => 0)) 23)).setRow (wr.heap.size) (bcells 64 (F j))) := (below_row (hb.alloc (by have := hb.size; simp; omega) (.cells (bcells 64 (fun _ => 0)) 23)) (by omega) _)
        obtain ⟨W2, hwo⟩ : ∃ v : World, v = ((wr.alloc (.cells (bcells 64 (fun _ => 0)) 23)).setRow (wr.heap.size) (bcells 64 (F j))) := ⟨_, rfl⟩
        rw [← hwo] at qB0 qB1 qB2 qhb ⊢
        clear hwo
        clear B0 B1 hb
        have B0 := qB0
        have B1 := qB1
        have B2 := qB2
        have hb := qhb
        clear qB0 qB1 qB2 qhb
        obtain ⟨N1, hNN⟩ : ∃ n : Nat, n = wr.heap.size := ⟨_, rfl⟩
        rw [← hNN] at lt_B0 lt_B1 lhb B2 ⊢
        clear hNN
        have zN1_0 := lt_B0
        have zN1_1 := lt_B1
        have zN1 := lhb
        clear lt_B0 lt_B1 lhb
        try simp only [Act.put, List.setIfInBounds_toArray, List.set_cons_zero, List.set_cons_succ]
        clear hix
        go_upto_region 5 with (first | (refine wpList_load_rowv rfl 83 (.tmp 2) rfl _ rfl 83 (fdC p m).toArray (B0) _ Try.underlying83 rfl 65 Try.size83 (by simp [fdC_len]) ?_) | (refine wpList_load_any rfl 23 (.tmp 6) rfl _ rfl 64 23 _ (B2) _ Try.underlying23 rfl Try.size23 ?_) | (go_at_call 104; refine (HRJ.out _).mono ?_; rintro e W3 ⟨rfl, hW3⟩; replace B0 := B0.below hW3 B0.lt; replace B1 := B1.below hW3 B1.lt; replace B2 := B2.below hW3 B2.lt; replace hb := (hb).trans (hW3.mono (hb).size)))
        go_wp2_with fail
        go_ret
        exact ⟨by rw [HV.out]; rfl, hb⟩
      | true =>
        rw [hr] at HRJ
        have HA := Lib.hid (show ∀ i, i < j + 1 → rsB p m (F i) = true from fun i hi => by
          by_cases e : i = j
          · subst e; exact hr
          · exact hall.out i (by omega))
        clear hr
        have hix := run_index_sk (P := Try.prog) 34 23 F .i64 j _ Try.underlying34 Try.underlying23 rfl Try.size23 hj
        go_upto_region 3 with (fail)
        have lt_B0 := B0.lt
        have lt_B1 := B1.lt
        go_upto_region 4 with (first | rw [← zero64] | (refine wpList_store_blk rfl 23 (.tmp 6) (.tmp 10) rfl _ 64 (F j) rfl rfl 23 _ ((Blk.new wr 64 23 (fun _ => 0))) Try.size23 ?_; try simp only [Act.put]))
        have lt_B0 := B0.lt
        have lt_B1 := B1.lt
        have lhb := hb.size
        have qB0 : Row ((wr.alloc (.cells (bcells 64 (fun _ => 0)) 23)).setRow (wr.heap.size) (bcells 64 (F j))) (w.heap.size) 83 (fdC p m).toArray := ((B0.alloc (.cells (bcells 64 (fun _ => 0)) 23)).rowOther (by omega))
        have qB1 : Blk ((wr.alloc (.cells (bcells 64 (fun _ => 0)) 23)).setRow (wr.heap.size) (bcells 64 (F j))) (w.heap.size + 1) 512 34 (fl 64 F) := ((B1.alloc (.cells (bcells 64 (fun _ => 0)) 23)).rowOther (by omega))
        have qB2 : Blk ((wr.alloc (.cells (bcells 64 (fun _ => 0)) 23)).setRow (wr.heap.size) (bcells 64 (F j))) (wr.heap.size) 64 23 (F j) := ((Blk.new wr 64 23 (fun _ => 0)).row (F j))
        have qhb : Below w.heap.size w ((wr.alloc (.cells (bcells 64 (fun _ => 0)) 23)).setRow (wr.heap.size) (bcells 64 (F j))) := (below_row (hb.alloc (by have := hb.size; simp; omega) (.cells (bcells 64 (fun _ => 0)) 23)) (by omega) _)
        obtain ⟨W2, hwo⟩ : ∃ v : World, v = ((wr.alloc (.cells (bcells 64 (fun _ => 0)) 23)).setRow (wr.heap.size) (bcells 64 (F j))) := ⟨_, rfl⟩
        rw [← hwo] at qB0 qB1 qB2 qhb ⊢
        clear hwo
        clear B0 B1 hb
        have B0 := qB0
        have B1 := qB1
        have B2 := qB2
        have hb := qhb
        clear qB0 qB1 qB2 qhb
        obtain ⟨N1, hNN⟩ : ∃ n : Nat, n = wr.heap.size := ⟨_, rfl⟩
        rw [← hNN] at lt_B0 lt_B1 lhb B2 ⊢
        clear hNN
        have zN1_0 := lt_B0
        have zN1_1 := lt_B1
        have zN1 := lhb
        clear lt_B0 lt_B1 lhb
        try simp only [Act.put, List.setIfInBounds_toArray, List.set_cons_zero, List.set_cons_succ]
        clear hix
        go_upto_region 6 with (first | (refine wpList_load_rowv rfl 83 (.tmp 2) rfl _ rfl 83 (fdC p m).toArray (B0) _ Try.underlying83 rfl 65 Try.size83 (by simp [fdC_len]) ?_) | (refine wpList_load_any rfl 23 (.tmp 6) rfl _ rfl 64 23 _ (B2) _ Try.underlying23 rfl Try.size23 ?_) | (go_at_call 104; refine (HRJ.out _).mono ?_; rintro e W3 ⟨rfl, hW3⟩; replace B0 := B0.below hW3 B0.lt; replace B1 := B1.below hW3 B1.lt; replace B2 := B2.below hW3 B2.lt; replace hb := (hb).trans (hW3.mono (hb).size)))
        go_wp2_with fail
        go_roundw
        case rel => exact ⟨j + 1, by go_num, by omega, HA, hb, B0, B1⟩
        case measure => simp [intOf] <;> omega
    · have hjI : ¬ (j : Int) < 8 := by omega
      obtain rfl : j = 8 := by omega
      have HV := Lib.hid (HY.out hall.out)
      go_wp2_with fail
      go_ret
      exact ⟨by rw [HV.out]; rfl, hb⟩
set_option maxRecDepth 100000 in
set_option maxHeartbeats 1600000 in
theorem l03Code_any (p : Int) (m : Nat → Nat) (hm : byte m) (Fs : List (Nat → Nat → Nat)) (hF : ∀ F, F ∈ Fs → ∀ i, byte (F i)) (hlen : Fs.length ≤ 8) (bS : Nat) (w : World) (B0 : Row w bS 34 (skL Fs).toArray) :
    Calls Try.prog 95 #[.int .i64 p, .agg (bcells 64 m), .slice (some ⟨bS, 0, none⟩) Fs.length Fs.length] w fun e w' => e = .returned (.int .i64 (ckS p m Fs)) ∧ Below w.heap.size w w' := by
  have HFL := Lib.hid (fun W => l03Field_any p m hm W)
  have HSK := Lib.hid (fun F (h : F ∈ Fs) W => l03Is_any p m F hm (hF F h) W)
  have HNO := Lib.hid (fun (j : Nat) F (hj : Fs[j]? = some F) h => ckS_no (p := p) (m := m) hj h)
  obtain ⟨NL, hNL⟩ : ∃ NL, NL = Fs.length := ⟨_, rfl⟩
  have HNL := Lib.hid hNL
  rw [← hNL] at hlen ⊢
  clear hF hNL
  have zx_0 := B0.lt
  go_enter Try.func95, Try.ntmps95
  go_upto_region 1 with (fail)
  obtain ⟨W1, hwo⟩ : ∃ v : World, v = (w.alloc (.cells (bcells 64 (m)) 23)) := ⟨_, rfl⟩
  have B1 : Blk W1 (w.heap.size) 64 23 (m) := by subst hwo; have := (Blk.new w 64 23 (m)); simpa using this
  replace B0 : Row W1 (bS) 34 (skL Fs).toArray := by subst hwo; exact (B0.alloc (.cells (bcells 64 (m)) 23))
  have hb : Below w.heap.size w W1 := by subst hwo; exact ((Below.refl _ _).alloc (Nat.le_refl _) _)
  rw [← hwo]
  clear hwo
  cases hf : flV p m with
  | false =>
    have HV := Lib.hid (ckS_f (p := p) (m := m) (Fs := Fs) hf)
    go_upto_region 2 with (first | (refine wpList_load_any rfl 23 (.tmp 4) rfl _ rfl 64 23 _ (B1) _ Try.underlying23 rfl Try.size23 ?_) | (go_at_call 92; refine (HFL.out _).mono ?_; rintro e W2 ⟨rfl, hW2⟩; replace B0 := B0.below hW2 B0.lt; replace B1 := B1.below hW2 B1.lt; replace hb := (hb).trans (hW2.mono (hb).size); rw [hf]))
    go_wp2_with fail
    go_ret
    exact ⟨by rw [HV.out]; rfl, hb⟩
  | true =>
    have HYES := Lib.hid (fun h => ckS_yes (p := p) (m := m) (Fs := Fs) hf h)
    go_upto_region 3 with (first | (refine wpList_load_any rfl 23 (.tmp 4) rfl _ rfl 64 23 _ (B1) _ Try.underlying23 rfl Try.size23 ?_) | (go_at_call 92; refine (HFL.out _).mono ?_; rintro e W2 ⟨rfl, hW2⟩; replace B0 := B0.below hW2 B0.lt; replace B1 := B1.below hW2 B1.lt; replace hb := (hb).trans (hW2.mono (hb).size); rw [hf]))
    clear hf HFL
    go_wp2_with fail
    go_loopw [7] (fun c wr => ∃ j : Nat, c = .int .i64 (j : Int) ∧ j ≤ NL ∧ Hid (∀ (i : Nat) (F : Nat → Nat → Nat), i < j → Fs[i]? = some F → skB p m F = true) ∧ Below w.heap.size w wr ∧ Row wr (bS) 34 (skL Fs).toArray ∧ Blk wr (w.heap.size) 64 23 m) (fun c _ => NL - (intOf c).toNat)
    case atStart => exact ⟨0, rfl, Nat.zero_le _, Lib.hid (fun i F hi => absurd hi (Nat.not_lt_zero i)), hb, B0, B1⟩
    case round =>
      clear hb B0 B1
      obtain ⟨j, rfl, hjn, hall, hb, B0, B1⟩ := hrel
      by_cases hj : j < NL
      · have hjI : (j : Int) < (NL : Int) := by omega
        have hj' : j < Fs.length := by rw [← HNL.out]; exact hj
        obtain ⟨F, hF⟩ : ∃ F, Fs[j]? = some F := ⟨_, List.getElem?_eq_getElem hj'⟩
        have HFJ := Lib.hid hF
        have HSF := Lib.hid (HSK.out F (List.mem_of_getElem? hF))
        clear hF hj'
        cases hr : skB p m F with
        | false =>
          rw [hr] at HSF
          have HV := Lib.hid (HNO.out j F HFJ.out hr)
          clear hr
          go_upto_region 6 with (fail)
          have lt_B0 : (bS) < wr.heap.size := B0.lt
          have lt_B1 : (w.heap.size) < wr.heap.size := B1.lt
          have hbase : w.heap.size ≤ wr.heap.size := hb.size
          refine wp_region_steps0 Try.mixed (by kernel_rfl) (by kernel_rfl) (fun v => by (simp only [frL, Act.put, List.setIfInBounds_toArray, List.set_cons_zero, List.set_cons_succ, Nat.reduceAdd, Nat.zero_add]; exact rfl))
            (fun L v W3 => Below w.heap.size w W3 ∧ wr.heap.size ≤ W3.heap.size ∧ Row W3 (bS) 34 (skL Fs).toArray ∧ Blk W3 (w.heap.size) 64 23 (m) ∧ (L 0 = true → v 0 = (.int .i64 p)) ∧ (L 1 = true → v 1 = (.agg (bcells 64 (m)))) ∧ (L 2 = true → v 2 = (.slice (some ⟨bS, 0, none⟩) NL NL)) ∧ (L 3 = true → v 3 = (.int .i64 (j : Int))) ∧ (L 4 = true → v 4 = (.pointer (some ⟨bS, j * 512, none⟩))) ∧ (L 5 = true → v 5 = (.agg (bcells 512 (fl 64 F)))) ∧ (L 6 = true → v 6 = (.bool false)) ∧ (L 7 = true → v 7 = (.bool true))) ?_ ?_ ?_
          · intro v hv0
            exact ⟨hb.drew, Nat.le_refl _, B0.drew, B1.drew, (fun h => by cases h), (fun h => by cases h), (fun h => by cases h), (fun h => by cases h), (fun h => by cases h), (fun h => by cases h), (fun h => by cases h), (fun h => by cases h)⟩
          · refine (.cons rfl ?_ (.cons rfl ?_ (.cons rfl ?_ (.cons rfl ?_ (.cons rfl ?_ (.cons rfl ?_ (.cons rfl ?_ (.cons rfl ?_ (.nil _)))))))))
            · intro L v W3 hd hn ⟨hB, hz, s0, s1, h0, h1, h2, h3, h4, h5, h6, h7⟩ K hK
              go_wp2_with fail
              exact hK _ (.int .i64 p) _ (by simp only [Act.put, List.setIfInBounds_toArray, List.set_cons_zero, List.set_cons_succ ]) ⟨hB, hz, s0, s1, (fun _ => rfl), h1, h2, h3, h4, h5, h6, h7⟩
            · intro L v W3 hd hn ⟨hB, hz, s0, s1, h0, h1, h2, h3, h4, h5, h6, h7⟩ K hK
              refine wp_load_any 23 _ rfl _ rfl 64 23 _ s1 _ Try.underlying23 rfl Try.size23 ?_
              exact hK _ _ _ rfl ⟨hB, hz, s0, s1, h0, (fun _ => rfl), h2, h3, h4, h5, h6, h7⟩
            · intro L v W3 hd hn ⟨hB, hz, s0, s1, h0, h1, h2, h3, h4, h5, h6, h7⟩ K hK
              go_wp2_with fail
              exact hK _ (.slice (some ⟨bS, 0, none⟩) NL NL) _ (by simp only [Act.put, List.setIfInBounds_toArray, List.set_cons_zero, List.set_cons_succ ]) ⟨hB, hz, s0, s1, h0, h1, (fun _ => rfl), h3, h4, h5, h6, h7⟩
            · intro L v W3 hd hn ⟨hB, hz, s0, s1, h0, h1, h2, h3, h4, h5, h6, h7⟩ K hK
              go_wp2_with fail
              exact hK _ (.int .i64 (j : Int)) _ (by simp only [Act.put, List.setIfInBounds_toArray, List.set_cons_zero, List.set_cons_succ ]) ⟨hB, hz, s0, s1, h0, h1, h2, (fun _ => rfl), h4, h5, h6, h7⟩
            · intro L v W3 hd hn ⟨hB, hz, s0, s1, h0, h1, h2, h3, h4, h5, h6, h7⟩ K hK
              have e2 := h2 (hd ⟨2, .data⟩ (by simp) rfl)
              have e3 := h3 (hd ⟨3, .data⟩ (by simp) rfl)
              go_wp2_with fail
              exact hK _ (.pointer (some ⟨bS, j * 512, none⟩)) _ (by simp only [Act.put, List.setIfInBounds_toArray, List.set_cons_zero, List.set_cons_succ, e2, e3]) ⟨hB, hz, s0, s1, h0, h1, h2, h3, (fun _ => rfl), h5, h6, h7⟩
            · intro L v W3 hd hn ⟨hB, hz, s0, s1, h0, h1, h2, h3, h4, h5, h6, h7⟩ K hK
              have e4 := h4 (hd ⟨4, .data⟩ (by simp) rfl)
              refine wp_load_mid 34 _ rfl _ (j * 512) e4 _ _ (s0.skAt HFJ.out) Try.underlying34 rfl (by rw [bl_length]; exact Try.size34) ?_
              exact hK _ _ _ rfl ⟨hB, hz, s0, s1, h0, h1, h2, h3, h4, (fun _ => rfl), h6, h7⟩
            · intro L v W3 hd hn ⟨hB, hz, s0, s1, h0, h1, h2, h3, h4, h5, h6, h7⟩ K hK
              have e0 := h0 (hd ⟨0, .data⟩ (by simp) rfl)
              have e1 := h1 (hd ⟨1, .data⟩ (by simp) rfl)
              have e5 := h5 (hd ⟨5, .data⟩ (by simp) rfl)
              go_wp2_with (go_at_call 93; refine (HSF.out _).mono ?_; rintro e wy ⟨rfl, hy⟩)
              exact hK _ (.bool false) _ (by simp only [Act.put, List.setIfInBounds_toArray, List.set_cons_zero, List.set_cons_succ, e0, e1, e5]) ⟨hB.trans (hy.mono hB.size), (Nat.le_trans hz hy.size), (s0).below hy (s0).lt, (s1).below hy (s1).lt, h0, h1, h2, h3, h4, h5, (fun _ => rfl), h7⟩
            · intro L v W3 hd hn ⟨hB, hz, s0, s1, h0, h1, h2, h3, h4, h5, h6, h7⟩ K hK
              have e6 := h6 (hd ⟨6, .data⟩ (by simp) rfl)
              go_wp2_with fail
              exact hK _ (.bool true) _ (by simp only [Act.put, List.setIfInBounds_toArray, List.set_cons_zero, List.set_cons_succ, e6]) ⟨hB, hz, s0, s1, h0, h1, h2, h3, h4, h5, h6, (fun _ => rfl)⟩
          · intro L v W3 hL ⟨hB, hz, s0, s1, h0, h1, h2, h3, h4, h5, h6, h7⟩
            have e0 := h0 (hL 0 (by decide))
            have e1 := h1 (hL 1 (by decide))
            have e2 := h2 (hL 2 (by decide))
            have e3 := h3 (hL 3 (by decide))
            have e4 := h4 (hL 4 (by decide))
            have e5 := h5 (hL 5 (by decide))
            have e6 := h6 (hL 6 (by decide))
            have e7 := h7 (hL 7 (by decide))
            clear hL h0 h1 h2 h3 h4 h5 h6 h7
            simp only [Exit.then, e0, e1, e2, e3, e4, e5, e6, e7]
            clear e0 e1 e2 e3 e4 e5 e6 e7
            clear B0
            have B0 := s0
            clear s0
            clear B1
            have B1 := s1
            clear s1
            clear hb
            have hb := hB
            clear hB
            clear hbase hz lt_B0 lt_B1
            go_wp2_with fail
            go_ret
            exact ⟨by rw [HV.out]; rfl, hb⟩
        | true =>
          rw [hr] at HSF
          have HA := Lib.hid (show ∀ (i : Nat) (G : Nat → Nat → Nat), i < j + 1 → Fs[i]? = some G → skB p m G = true from fun i G hi hG => by
            by_cases e : i = j
            · subst e; rw [HFJ.out] at hG; injection hG with hG; subst hG; exact hr
            · exact hall.out i G (by omega) hG)
          clear hr
          go_upto_region 6 with (fail)
          have lt_B0 : (bS) < wr.heap.size := B0.lt
          have lt_B1 : (w.heap.size) < wr.heap.size := B1.lt
          have hbase : w.heap.size ≤ wr.heap.size := hb.size
          refine wp_region_steps0 Try.mixed (by kernel_rfl) (by kernel_rfl) (fun v => by (simp only [frL, Act.put, List.setIfInBounds_toArray, List.set_cons_zero, List.set_cons_succ, Nat.reduceAdd, Nat.zero_add]; exact rfl))
            (fun L v W3 => Below w.heap.size w W3 ∧ wr.heap.size ≤ W3.heap.size ∧ Row W3 (bS) 34 (skL Fs).toArray ∧ Blk W3 (w.heap.size) 64 23 (m) ∧ (L 0 = true → v 0 = (.int .i64 p)) ∧ (L 1 = true → v 1 = (.agg (bcells 64 (m)))) ∧ (L 2 = true → v 2 = (.slice (some ⟨bS, 0, none⟩) NL NL)) ∧ (L 3 = true → v 3 = (.int .i64 (j : Int))) ∧ (L 4 = true → v 4 = (.pointer (some ⟨bS, j * 512, none⟩))) ∧ (L 5 = true → v 5 = (.agg (bcells 512 (fl 64 F)))) ∧ (L 6 = true → v 6 = (.bool true)) ∧ (L 7 = true → v 7 = (.bool false))) ?_ ?_ ?_
          · intro v hv0
            exact ⟨hb.drew, Nat.le_refl _, B0.drew, B1.drew, (fun h => by cases h), (fun h => by cases h), (fun h => by cases h), (fun h => by cases h), (fun h => by cases h), (fun h => by cases h), (fun h => by cases h), (fun h => by cases h)⟩
          · refine (.cons rfl ?_ (.cons rfl ?_ (.cons rfl ?_ (.cons rfl ?_ (.cons rfl ?_ (.cons rfl ?_ (.cons rfl ?_ (.cons rfl ?_ (.nil _)))))))))
            · intro L v W3 hd hn ⟨hB, hz, s0, s1, h0, h1, h2, h3, h4, h5, h6, h7⟩ K hK
              go_wp2_with fail
              exact hK _ (.int .i64 p) _ (by simp only [Act.put, List.setIfInBounds_toArray, List.set_cons_zero, List.set_cons_succ ]) ⟨hB, hz, s0, s1, (fun _ => rfl), h1, h2, h3, h4, h5, h6, h7⟩
            · intro L v W3 hd hn ⟨hB, hz, s0, s1, h0, h1, h2, h3, h4, h5, h6, h7⟩ K hK
              refine wp_load_any 23 _ rfl _ rfl 64 23 _ s1 _ Try.underlying23 rfl Try.size23 ?_
              exact hK _ _ _ rfl ⟨hB, hz, s0, s1, h0, (fun _ => rfl), h2, h3, h4, h5, h6, h7⟩
            · intro L v W3 hd hn ⟨hB, hz, s0, s1, h0, h1, h2, h3, h4, h5, h6, h7⟩ K hK
              go_wp2_with fail
              exact hK _ (.slice (some ⟨bS, 0, none⟩) NL NL) _ (by simp only [Act.put, List.setIfInBounds_toArray, List.set_cons_zero, List.set_cons_succ ]) ⟨hB, hz, s0, s1, h0, h1, (fun _ => rfl), h3, h4, h5, h6, h7⟩
            · intro L v W3 hd hn ⟨hB, hz, s0, s1, h0, h1, h2, h3, h4, h5, h6, h7⟩ K hK
              go_wp2_with fail
              exact hK _ (.int .i64 (j : Int)) _ (by simp only [Act.put, List.setIfInBounds_toArray, List.set_cons_zero, List.set_cons_succ ]) ⟨hB, hz, s0, s1, h0, h1, h2, (fun _ => rfl), h4, h5, h6, h7⟩
            · intro L v W3 hd hn ⟨hB, hz, s0, s1, h0, h1, h2, h3, h4, h5, h6, h7⟩ K hK
              have e2 := h2 (hd ⟨2, .data⟩ (by simp) rfl)
              have e3 := h3 (hd ⟨3, .data⟩ (by simp) rfl)
              go_wp2_with fail
              exact hK _ (.pointer (some ⟨bS, j * 512, none⟩)) _ (by simp only [Act.put, List.setIfInBounds_toArray, List.set_cons_zero, List.set_cons_succ, e2, e3]) ⟨hB, hz, s0, s1, h0, h1, h2, h3, (fun _ => rfl), h5, h6, h7⟩
            · intro L v W3 hd hn ⟨hB, hz, s0, s1, h0, h1, h2, h3, h4, h5, h6, h7⟩ K hK
              have e4 := h4 (hd ⟨4, .data⟩ (by simp) rfl)
              refine wp_load_mid 34 _ rfl _ (j * 512) e4 _ _ (s0.skAt HFJ.out) Try.underlying34 rfl (by rw [bl_length]; exact Try.size34) ?_
              exact hK _ _ _ rfl ⟨hB, hz, s0, s1, h0, h1, h2, h3, h4, (fun _ => rfl), h6, h7⟩
            · intro L v W3 hd hn ⟨hB, hz, s0, s1, h0, h1, h2, h3, h4, h5, h6, h7⟩ K hK
              have e0 := h0 (hd ⟨0, .data⟩ (by simp) rfl)
              have e1 := h1 (hd ⟨1, .data⟩ (by simp) rfl)
              have e5 := h5 (hd ⟨5, .data⟩ (by simp) rfl)
              go_wp2_with (go_at_call 93; refine (HSF.out _).mono ?_; rintro e wy ⟨rfl, hy⟩)
              exact hK _ (.bool true) _ (by simp only [Act.put, List.setIfInBounds_toArray, List.set_cons_zero, List.set_cons_succ, e0, e1, e5]) ⟨hB.trans (hy.mono hB.size), (Nat.le_trans hz hy.size), (s0).below hy (s0).lt, (s1).below hy (s1).lt, h0, h1, h2, h3, h4, h5, (fun _ => rfl), h7⟩
            · intro L v W3 hd hn ⟨hB, hz, s0, s1, h0, h1, h2, h3, h4, h5, h6, h7⟩ K hK
              have e6 := h6 (hd ⟨6, .data⟩ (by simp) rfl)
              go_wp2_with fail
              exact hK _ (.bool false) _ (by simp only [Act.put, List.setIfInBounds_toArray, List.set_cons_zero, List.set_cons_succ, e6]) ⟨hB, hz, s0, s1, h0, h1, h2, h3, h4, h5, h6, (fun _ => rfl)⟩
          · intro L v W3 hL ⟨hB, hz, s0, s1, h0, h1, h2, h3, h4, h5, h6, h7⟩
            have e0 := h0 (hL 0 (by decide))
            have e1 := h1 (hL 1 (by decide))
            have e2 := h2 (hL 2 (by decide))
            have e3 := h3 (hL 3 (by decide))
            have e4 := h4 (hL 4 (by decide))
            have e5 := h5 (hL 5 (by decide))
            have e6 := h6 (hL 6 (by decide))
            have e7 := h7 (hL 7 (by decide))
            clear hL h0 h1 h2 h3 h4 h5 h6 h7
            simp only [Exit.then, e0, e1, e2, e3, e4, e5, e6, e7]
            clear e0 e1 e2 e3 e4 e5 e6 e7
            clear B0
            have B0 := s0
            clear s0
            clear B1
            have B1 := s1
            clear s1
            clear hb
            have hb := hB
            clear hB
            clear hbase hz lt_B0 lt_B1
            go_wp2_with fail
            go_roundw
            case rel => exact ⟨j + 1, by go_num, by omega, HA, hb, B0, B1⟩
            case measure => simp [intOf] <;> omega
      · have hjI : ¬ (j : Int) < (NL : Int) := by omega
        have HV := Lib.hid (HYES.out (fun i F hF => hall.out i F (by have := (List.getElem?_eq_some_iff.1 hF).1; have := HNL.out; omega) hF))
        go_wp2_with fail
        go_ret
        exact ⟨by rw [HV.out]; rfl, hb⟩
set_option maxRecDepth 100000 in
set_option maxHeartbeats 1600000 in
theorem checkSkews_any (p : Int) (m : Nat → Nat) (hm : byte m) (Fs : List (Nat → Nat → Nat)) (hF : ∀ F, F ∈ Fs → ∀ i, byte (F i)) (hlen : Fs.length ≤ 8) (bS : Nat) (w : World) (B0 : Row w bS 34 (skL Fs).toArray) :
    Calls Try.prog 94 #[.int .i64 p, .agg (bcells 64 m), .slice (some ⟨bS, 0, none⟩) Fs.length Fs.length] w fun e w' => e = .returned (.int .i64 (ckS p m Fs)) ∧ Below w.heap.size w w' := by
  have HFL := Lib.hid (fun W => impl_IsField_any p m hm W)
  have HSK := Lib.hid (fun F (h : F ∈ Fs) W => isSkew_any p m F hm (hF F h) W)
  have HNO := Lib.hid (fun (j : Nat) F (hj : Fs[j]? = some F) h => ckS_no (p := p) (m := m) hj h)
  obtain ⟨NL, hNL⟩ : ∃ NL, NL = Fs.length := ⟨_, rfl⟩
  have HNL := Lib.hid hNL
  rw [← hNL] at hlen ⊢
  clear hF hNL
  have zx_0 := B0.lt
  go_enter Try.func94, Try.ntmps94
  go_upto_region 1 with (fail)
  obtain ⟨W1, hwo⟩ : ∃ v : World, v = (w.alloc (.cells (bcells 64 (m)) 23)) := ⟨_, rfl⟩
  have B1 : Blk W1 (w.heap.size) 64 23 (m) := by subst hwo; have := (Blk.new w 64 23 (m)); simpa using this
  replace B0 : Row W1 (bS) 34 (skL Fs).toArray := by subst hwo; exact (B0.alloc (.cells (bcells 64 (m)) 23))
  have hb : Below w.heap.size w W1 := by subst hwo; exact ((Below.refl _ _).alloc (Nat.le_refl _) _)
  rw [← hwo]
  clear hwo
  cases hf : flV p m with
  | false =>
    have HV := Lib.hid (ckS_f (p := p) (m := m) (Fs := Fs) hf)
    have lt_B0 := B0.lt
    have lt_B1 := B1.lt
    go_upto_region 2 with (first | rw [← zero64] | rw [← fdC_zero] | (refine wpList_load_any rfl 23 (.tmp 4) rfl _ rfl 64 23 _ (B1) _ Try.underlying23 rfl Try.size23 ?_) | (refine wpList_build_of rfl 83 _ rfl (fdC p m).toArray (by rw [Array.toList_map]; exact built_fd p m) ?_) | (refine wpList_store_rowv rfl 83 (.tmp 7) (.tmp 12) rfl _ rfl (fdC p m).toArray rfl 83 _ ((Row.new W1 83 (fdC 0 (fun _ => 0)).toArray)) 65 Try.size83 (by simp [fdC_len]) (by simp [fdC_len]) (fdC_all _ _) ?_; try simp only [Act.put]))
    have lt_B0 := B0.lt
    have lt_B1 := B1.lt
    have lhb := hb.size
    have qB0 : Row ((W1.alloc (.cells (fdC 0 (fun _ => 0)).toArray 83)).setRow (W1.heap.size) (fdC p m).toArray) (bS) 34 (skL Fs).toArray := ((B0.alloc (.cells (fdC 0 (fun _ => 0)).toArray 83)).rowOther (by omega))
    have qB1 : Blk ((W1.alloc (.cells (fdC 0 (fun _ => 0)).toArray 83)).setRow (W1.heap.size) (fdC p m).toArray) (w.heap.size) 64 23 (m) := ((B1.alloc (.cells (fdC 0 (fun _ => 0)).toArray 83)).rowOther (by omega))
    have qB2 : Row ((W1.alloc (.cells (fdC 0 (fun _ => 0)).toArray 83)).setRow (W1.heap.size) (fdC p m).toArray) (W1.heap.size) 83 (fdC p m).toArray := ((Row.new W1 83 (fdC 0 (fun _ => 0)).toArray).row (fdC p m).toArray)
    have qhb : Below w.heap.size w ((W1.alloc (.cells (fdC 0 (fun _ => 0)).toArray 83)).setRow (W1.heap.size) (fdC p m).toArray) := (below_row (hb.alloc (by have := hb.size; simp; omega) (.cells (fdC 0 (fun _ => 0)).toArray 83)) (by omega) _)
    obtain ⟨W2, hwo⟩ : ∃ v : World, v = ((W1.alloc (.cells (fdC 0 (fun _ => 0)).toArray 83)).setRow (W1.heap.size) (fdC p m).toArray) := ⟨_, rfl⟩
    rw [← hwo] at qB0 qB1 qB2 qhb ⊢
    clear hwo
    clear B0 B1 hb
    have B0 := qB0
    have B1 := qB1
    have B2 := qB2
    have hb := qhb
    clear qB0 qB1 qB2 qhb
    obtain ⟨N1, hNN⟩ : ∃ n : Nat, n = W1.heap.size := ⟨_, rfl⟩
    rw [← hNN] at lt_B0 lt_B1 lhb B2 ⊢
    clear hNN
    have zN1_0 := lt_B0
    have zN1_1 := lt_B1
    have zN1 := lhb
    clear lt_B0 lt_B1 lhb
    try simp only [Act.put, List.setIfInBounds_toArray, List.set_cons_zero, List.set_cons_succ]
    go_upto_region 3 with (first | (refine wpList_load_any rfl 23 (.tmp 4) rfl _ rfl 64 23 _ (B1) _ Try.underlying23 rfl Try.size23 ?_) | (go_at_call 160; refine (HFL.out _).mono ?_; rintro e W3 ⟨rfl, hW3⟩; replace B0 := B0.below hW3 B0.lt; replace B1 := B1.below hW3 B1.lt; replace B2 := B2.below hW3 B2.lt; replace hb := (hb).trans (hW3.mono (hb).size); rw [hf]))
    go_wp2_with fail
    go_ret
    exact ⟨by rw [HV.out]; rfl, hb⟩
  | true =>
    have HYES := Lib.hid (fun h => ckS_yes (p := p) (m := m) (Fs := Fs) hf h)
    have lt_B0 := B0.lt
    have lt_B1 := B1.lt
    go_upto_region 2 with (first | rw [← zero64] | rw [← fdC_zero] | (refine wpList_load_any rfl 23 (.tmp 4) rfl _ rfl 64 23 _ (B1) _ Try.underlying23 rfl Try.size23 ?_) | (refine wpList_build_of rfl 83 _ rfl (fdC p m).toArray (by rw [Array.toList_map]; exact built_fd p m) ?_) | (refine wpList_store_rowv rfl 83 (.tmp 7) (.tmp 12) rfl _ rfl (fdC p m).toArray rfl 83 _ ((Row.new W1 83 (fdC 0 (fun _ => 0)).toArray)) 65 Try.size83 (by simp [fdC_len]) (by simp [fdC_len]) (fdC_all _ _) ?_; try simp only [Act.put]))
    have lt_B0 := B0.lt
    have lt_B1 := B1.lt
    have lhb := hb.size
    have qB0 : Row ((W1.alloc (.cells (fdC 0 (fun _ => 0)).toArray 83)).setRow (W1.heap.size) (fdC p m).toArray) (bS) 34 (skL Fs).toArray := ((B0.alloc (.cells (fdC 0 (fun _ => 0)).toArray 83)).rowOther (by omega))
    have qB1 : Blk ((W1.alloc (.cells (fdC 0 (fun _ => 0)).toArray 83)).setRow (W1.heap.size) (fdC p m).toArray) (w.heap.size) 64 23 (m) := ((B1.alloc (.cells (fdC 0 (fun _ => 0)).toArray 83)).rowOther (by omega))
    have qB2 : Row ((W1.alloc (.cells (fdC 0 (fun _ => 0)).toArray 83)).setRow (W1.heap.size) (fdC p m).toArray) (W1.heap.size) 83 (fdC p m).toArray := ((Row.new W1 83 (fdC 0 (fun _ => 0)).toArray).row (fdC p m).toArray)
    have qhb : Below w.heap.size w ((W1.alloc (.cells (fdC 0 (fun _ => 0)).toArray 83)).setRow (W1.heap.size) (fdC p m).toArray) := (below_row (hb.alloc (by have := hb.size; simp; omega) (.cells (fdC 0 (fun _ => 0)).toArray 83)) (by omega) _)
    obtain ⟨W2, hwo⟩ : ∃ v : World, v = ((W1.alloc (.cells (fdC 0 (fun _ => 0)).toArray 83)).setRow (W1.heap.size) (fdC p m).toArray) := ⟨_, rfl⟩
    rw [← hwo] at qB0 qB1 qB2 qhb ⊢
    clear hwo
    clear B0 B1 hb
    have B0 := qB0
    have B1 := qB1
    have B2 := qB2
    have hb := qhb
    clear qB0 qB1 qB2 qhb
    obtain ⟨N1, hNN⟩ : ∃ n : Nat, n = W1.heap.size := ⟨_, rfl⟩
    rw [← hNN] at lt_B0 lt_B1 lhb B2 ⊢
    clear hNN
    have zN1_0 := lt_B0
    have zN1_1 := lt_B1
    have zN1 := lhb
    clear lt_B0 lt_B1 lhb
    try simp only [Act.put, List.setIfInBounds_toArray, List.set_cons_zero, List.set_cons_succ]
    go_upto_region 4 with (first | (refine wpList_load_any rfl 23 (.tmp 4) rfl _ rfl 64 23 _ (B1) _ Try.underlying23 rfl Try.size23 ?_) | (go_at_call 160; refine (HFL.out _).mono ?_; rintro e W3 ⟨rfl, hW3⟩; replace B0 := B0.below hW3 B0.lt; replace B1 := B1.below hW3 B1.lt; replace B2 := B2.below hW3 B2.lt; replace hb := (hb).trans (hW3.mono (hb).size); rw [hf]))
    clear hf HFL
    go_wp2_with fail
    go_loopw [19] (fun c wr => ∃ j : Nat, c = .int .i64 (j : Int) ∧ j ≤ NL ∧ Hid (∀ (i : Nat) (F : Nat → Nat → Nat), i < j → Fs[i]? = some F → skB p m F = true) ∧ Below w.heap.size w wr ∧ Row wr (bS) 34 (skL Fs).toArray ∧ Blk wr (w.heap.size) 64 23 m ∧ Row wr (N1) 83 (fdC p m).toArray) (fun c _ => NL - (intOf c).toNat)
    case atStart => exact ⟨0, rfl, Nat.zero_le _, Lib.hid (fun i F hi => absurd hi (Nat.not_lt_zero i)), hb, B0, B1, B2⟩
    case round =>
      clear hb B0 B1 B2
      obtain ⟨j, rfl, hjn, hall, hb, B0, B1, B2⟩ := hrel
      by_cases hj : j < NL
      · have hjI : (j : Int) < (NL : Int) := by omega
        have hj' : j < Fs.length := by rw [← HNL.out]; exact hj
        obtain ⟨F, hF⟩ : ∃ F, Fs[j]? = some F := ⟨_, List.getElem?_eq_getElem hj'⟩
        have HFJ := Lib.hid hF
        have HSF := Lib.hid (HSK.out F (List.mem_of_getElem? hF))
        clear hF hj'
        cases hr : skB p m F with
        | false =>
          rw [hr] at HSF
          have HV := Lib.hid (HNO.out j F HFJ.out hr)
          clear hr
          go_upto_region 6 with (fail)
          have lt_B0 := B0.lt
          have lt_B1 := B1.lt
          have lt_B2 := B2.lt
          go_upto_region 7 with (first | rw [← zero64] | rw [← zero512] | (refine wpList_load_mid rfl 34 (.tmp 21) rfl _ (j * 512) rfl (bl 512 (fl 64 F)) _ (B0.skAt HFJ.out) Try.underlying34 rfl (by rw [bl_length]; exact Try.size34) ?_) | (refine wpList_store_blk rfl 34 (.tmp 9) (.tmp 22) rfl _ 512 (fl 64 F) rfl rfl 34 _ ((Blk.new wr 512 34 (fl 64 (fun _ _ => 0)))) Try.size34 ?_; try simp only [Act.put]))
          have lt_B0 := B0.lt
          have lt_B1 := B1.lt
          have lt_B2 := B2.lt
          have lhb := hb.size
          have qB0 : Row ((wr.alloc (.cells (bcells 512 (fl 64 (fun _ _ => 0))) 34)).setRow (wr.heap.size) (bcells 512 (fl 64 F))) (bS) 34 (skL Fs).toArray := ((B0.alloc (.cells (bcells 512 (fl 64 (fun _ _ => 0))) 34)).rowOther (by omega))
          have qB1 : Blk ((wr.alloc (.cells (bcells 512 (fl 64 (fun _ _ => 0))) 34)).setRow (wr.heap.size) (bcells 512 (fl 64 F))) (w.heap.size) 64 23 (m) := ((B1.alloc (.cells (bcells 512 (fl 64 (fun _ _ => 0))) 34)).rowOther (by omega))
          have qB2 : Row ((wr.alloc (.cells (bcells 512 (fl 64 (fun _ _ => 0))) 34)).setRow (wr.heap.size) (bcells 512 (fl 64 F))) (N1) 83 (fdC p m).toArray := ((B2.alloc (.cells (bcells 512 (fl 64 (fun _ _ => 0))) 34)).rowOther (by omega))
          have qB3 : Blk ((wr.alloc (.cells (bcells 512 (fl 64 (fun _ _ => 0))) 34)).setRow (wr.heap.size) (bcells 512 (fl 64 F))) (wr.heap.size) 512 34 (fl 64 F) := ((Blk.new wr 512 34 (fl 64 (fun _ _ => 0))).row (fl 64 F))
          have qhb : Below w.heap.size w ((wr.alloc (.cells (bcells 512 (fl 64 (fun _ _ => 0))) 34)).setRow (wr.heap.size) (bcells 512 (fl 64 F))) := (below_row (hb.alloc (by have := hb.size; simp; omega) (.cells (bcells 512 (fl 64 (fun _ _ => 0))) 34)) (by omega) _)
          obtain ⟨W4, hwo⟩ : ∃ v : World, v = ((wr.alloc (.cells (bcells 512 (fl 64 (fun _ _ => 0))) 34)).setRow (wr.heap.size) (bcells 512 (fl 64 F))) := ⟨_, rfl⟩
          rw [← hwo] at qB0 qB1 qB2 qB3 qhb ⊢
          clear hwo
          clear B0 B1 B2 hb
          have B0 := qB0
          have B1 := qB1
          have B2 := qB2
          have B3 := qB3
          have hb := qhb
          clear qB0 qB1 qB2 qB3 qhb
          obtain ⟨N2, hNN⟩ : ∃ n : Nat, n = wr.heap.size := ⟨_, rfl⟩
          rw [← hNN] at lt_B0 lt_B1 lt_B2 lhb B3 ⊢
          clear hNN
          have zN2_0 := lt_B0
          have zN2_1 := lt_B1
          have zN2_2 := lt_B2
          have zN2 := lhb
          clear lt_B0 lt_B1 lt_B2 lhb
          try simp only [Act.put, List.setIfInBounds_toArray, List.set_cons_zero, List.set_cons_succ]
          go_upto_region 8 with (first | (refine wpList_load_rowv rfl 83 (.tmp 7) rfl _ rfl 83 (fdC p m).toArray (B2) _ Try.underlying83 rfl 65 Try.size83 (by simp [fdC_len]) ?_) | (refine wpList_load_any rfl 34 (.tmp 9) rfl _ rfl 512 34 _ (B3) _ Try.underlying34 rfl Try.size34 ?_) | (go_at_call 161; refine (HSF.out _).mono ?_; rintro e W5 ⟨rfl, hW5⟩; replace B0 := B0.below hW5 B0.lt; replace B1 := B1.below hW5 B1.lt; replace B2 := B2.below hW5 B2.lt; replace B3 := B3.below hW5 B3.lt; replace hb := (hb).trans (hW5.mono (hb).size)))
          go_wp2_with fail
          go_ret
          exact ⟨by rw [HV.out]; rfl, hb⟩
        | true =>
          rw [hr] at HSF
          have HA := Lib.hid (show ∀ (i : Nat) (G : Nat → Nat → Nat), i < j + 1 → Fs[i]? = some G → skB p m G = true from fun i G hi hG => by
            by_cases e : i = j
            · subst e; rw [HFJ.out] at hG; injection hG with hG; subst hG; exact hr
            · exact hall.out i G (by omega) hG)
          clear hr
          go_upto_region 6 with (fail)
          have lt_B0 := B0.lt
          have lt_B1 := B1.lt
          have lt_B2 := B2.lt
          go_upto_region 7 with (first | rw [← zero64] | rw [← zero512] | (refine wpList_load_mid rfl 34 (.tmp 21) rfl _ (j * 512) rfl (bl 512 (fl 64 F)) _ (B0.skAt HFJ.out) Try.underlying34 rfl (by rw [bl_length]; exact Try.size34) ?_) | (refine wpList_store_blk rfl 34 (.tmp 9) (.tmp 22) rfl _ 512 (fl 64 F) rfl rfl 34 _ ((Blk.new wr 512 34 (fl 64 (fun _ _ => 0)))) Try.size34 ?_; try simp only [Act.put]))
          have lt_B0 := B0.lt
          have lt_B1 := B1.lt
          have lt_B2 := B2.lt
          have lhb := hb.size
          have qB0 : Row ((wr.alloc (.cells (bcells 512 (fl 64 (fun _ _ => 0))) 34)).setRow (wr.heap.size) (bcells 512 (fl 64 F))) (bS) 34 (skL Fs).toArray := ((B0.alloc (.cells (bcells 512 (fl 64 (fun _ _ => 0))) 34)).rowOther (by omega))
          have qB1 : Blk ((wr.alloc (.cells (bcells 512 (fl 64 (fun _ _ => 0))) 34)).setRow (wr.heap.size) (bcells 512 (fl 64 F))) (w.heap.size) 64 23 (m) := ((B1.alloc (.cells (bcells 512 (fl 64 (fun _ _ => 0))) 34)).rowOther (by omega))
          have qB2 : Row ((wr.alloc (.cells (bcells 512 (fl 64 (fun _ _ => 0))) 34)).setRow (wr.heap.size) (bcells 512 (fl 64 F))) (N1) 83 (fdC p m).toArray := ((B2.alloc (.cells (bcells 512 (fl 64 (fun _ _ => 0))) 34)).rowOther (by omega))
          have qB3 : Blk ((wr.alloc (.cells (bcells 512 (fl 64 (fun _ _ => 0))) 34)).setRow (wr.heap.size) (bcells 512 (fl 64 F))) (wr.heap.size) 512 34 (fl 64 F) := ((Blk.new wr 512 34 (fl 64 (fun _ _ => 0))).row (fl 64 F))
          have qhb : Below w.heap.size w ((wr.alloc (.cells (bcells 512 (fl 64 (fun _ _ => 0))) 34)).setRow (wr.heap.size) (bcells 512 (fl 64 F))) := (below_row (hb.alloc (by have := hb.size; simp; omega) (.cells (bcells 512 (fl 64 (fun _ _ => 0))) 34)) (by omega) _)
          obtain ⟨W4, hwo⟩ : ∃ v : World, v = ((wr.alloc (.cells (bcells 512 (fl 64 (fun _ _ => 0))) 34)).setRow (wr.heap.size) (bcells 512 (fl 64 F))) := ⟨_, rfl⟩
          rw [← hwo] at qB0 qB1 qB2 qB3 qhb ⊢
          clear hwo
          clear B0 B1 B2 hb
          have B0 := qB0
          have B1 := qB1
          have B2 := qB2
          have B3 := qB3
          have hb := qhb
          clear qB0 qB1 qB2 qB3 qhb
          obtain ⟨N2, hNN⟩ : ∃ n : Nat, n = wr.heap.size := ⟨_, rfl⟩
          rw [← hNN] at lt_B0 lt_B1 lt_B2 lhb B3 ⊢
          clear hNN
          have zN2_0 := lt_B0
          have zN2_1 := lt_B1
          have zN2_2 := lt_B2
          have zN2 := lhb
          clear lt_B0 lt_B1 lt_B2 lhb
          try simp only [Act.put, List.setIfInBounds_toArray, List.set_cons_zero, List.set_cons_succ]
          go_upto_region 9 with (first | (refine wpList_load_rowv rfl 83 (.tmp 7) rfl _ rfl 83 (fdC p m).toArray (B2) _ Try.underlying83 rfl 65 Try.size83 (by simp [fdC_len]) ?_) | (refine wpList_load_any rfl 34 (.tmp 9) rfl _ rfl 512 34 _ (B3) _ Try.underlying34 rfl Try.size34 ?_) | (go_at_call 161; refine (HSF.out _).mono ?_; rintro e W5 ⟨rfl, hW5⟩; replace B0 := B0.below hW5 B0.lt; replace B1 := B1.below hW5 B1.lt; replace B2 := B2.below hW5 B2.lt; replace B3 := B3.below hW5 B3.lt; replace hb := (hb).trans (hW5.mono (hb).size)))
          go_wp2_with fail
          go_roundw
          case rel => exact ⟨j + 1, by go_num, by omega, HA, hb, B0, B1, B2⟩
          case measure => simp [intOf] <;> omega
      · have hjI : ¬ (j : Int) < (NL : Int) := by omega
        have HV := Lib.hid (HYES.out (fun i F hF => hall.out i F (by have := (List.getElem?_eq_some_iff.1 hF).1; have := HNL.out; omega) hF))
        go_wp2_with fail
        go_ret
        exact ⟨by rw [HV.out]; rfl, hb⟩
end Go.Proofs.Ytbjpkmbhbpcbgaa
end
section
namespace Go.Proofs.Ytbjpkmbhbpcbgaa
open Go Go.RowKit
set_option linter.unusedVariables false
set_option linter.unusedSimpArgs false
attribute [local irreducible] deg addK okA flV
theorem ckS_fld {p : Int} {m : Nat → Nat} {Fs : List (Nat → Nat → Nat)} (h : ckS p m Fs = 0) : ∃ n : Nat, p = (n : Int) ∧ (n = 2 ∨ n = 3 ∨ n = 5 ∨ n = 7) ∧ (∀ k, k < 64 → m k < n) ∧ (∃ d, mon m d ∧ 1 ≤ d ∧ d ≤ 4) ∧ ∀ F, F ∈ Fs → ∀ i, i < 8 → (∀ j, j < 64 → F i j < n) ∧ deg (F i) < deg m := by
  obtain ⟨h1, h2⟩ := ckS_zero h
  have ho : okA p m = true := by
    cases ho : okA p m with
    | true => rfl
    | false => rw [flV_1 ho] at h1; cases h1
  have hm : monUp 4 m = true := by
    cases hm : monUp 4 m with
    | true => rfl
    | false => rw [flV_2 hm] at h1; cases h1
  obtain ⟨n, hn, hpr, hl⟩ := okA_nat ho
  obtain ⟨d, a1, a2, a3⟩ := mon_up hm
  refine ⟨n, hn, hpr, hl, ⟨d, a1, a2, by omega⟩, fun F hF i hi => ?_⟩
  have h3 := skB_at (h2 F hF) hi
  by_cases ho2 : okA p (F i) = true
  · refine ⟨fun j hj => ?_, ?_⟩
    · have := okA_lt ho2 hj; omega
    · by_cases hd : deg (F i) < deg m
      · exact hd
      · rw [rsB_3 ho2 hd] at h3; cases h3
  · rw [rsB_1 (by simpa using ho2)] at h3; cases h3
end Go.Proofs.Ytbjpkmbhbpcbgaa
end
section
namespace Go.Proofs.Ytbjpkmbhbpcbgaa
open Rg
set_option linter.unusedVariables false
/-- a residue -/
def rsd (p : Nat) (m x : Nat → Nat) : Prop := (∀ k, k < 64 → x k < p) ∧ deg x < deg m
/-- the Frobenius -/
def frI (p : Nat) (m x : Nat → Nat) : Nat → Nat := resP p (strP p x) m
/-- taken n times -/
def frN (p : Nat) (m x : Nat → Nat) : Nat → (Nat → Nat)
  | 0 => x
  | n + 1 => frI p m (frN p m x n)
theorem frN_z (p : Nat) (m x : Nat → Nat) : frN p m x 0 = x := rfl
theorem frN_s (p : Nat) (m x : Nat → Nat) (n : Nat) : frN p m x (n + 1) = frI p m (frN p m x n) := rfl
theorem rsd_eq {p : Nat} {m x y : Nat → Nat} (hp : p = 2 ∨ p = 3 ∨ p = 5 ∨ p = 7) (lm : ∀ k, k < 64 → m k < p) (h0 : 0 ≤ deg m) (hx : rsd p m x) (hy : rsd p m y) (h : (rs x : Res p (lz m)) = rs y) : ∀ k, k < 64 → x k = y k :=
  res_sameN hp hx.1 hy.1 lm h0 hx.2 hy.2 (cl_eq.1 h)
section
variable {p : Nat} {m : Nat → Nat} (hp : p = 2 ∨ p = 3 ∨ p = 5 ∨ p = 7) (lm : ∀ k, k < 64 → m k < p) (h0 : 0 ≤ deg m) (h9 : deg m ≤ 9)
include hp lm h0 h9
theorem frI_ok {x : Nat → Nat} (h : rsd p m x) : rsd p m (frI p m x) ∧ (rs (frI p m x) : Res p (lz m)) = pw (rs x) p := by
  have p0 : 0 < p := by omega
  have hd : deg x * (p : Int) ≤ 63 := by
    have := h.2
    rcases hp with rfl | rfl | rfl | rfl <;> omega
  have hl := strP_lt (q := p) p0 (by omega) h.1
  unfold frI
  exact ⟨⟨resP_lt p0 hl, (resP_deg hp hl lm h0).1⟩, by rw [rs_res hp hl lm h0, rs_str hp hd]⟩
theorem frN_ok {x : Nat → Nat} (h : rsd p m x) : ∀ n, rsd p m (frN p m x n) ∧ (rs (frN p m x n) : Res p (lz m)) = fr' p n (rs x)
  | 0 => ⟨h, (fr_z p _).symm⟩
  | n + 1 => by
    obtain ⟨a, b⟩ := frN_ok h n
    obtain ⟨c, e⟩ := frI_ok hp lm h0 h9 a
    rw [frN_s]
    exact ⟨c, by rw [e, b, fr_s]⟩
theorem frI_pm {x : Nat → Nat} (h : rsd p m x) : ∀ k, k < 64 → pmP p x p m k = frI p m x k := by
  obtain ⟨a, b⟩ := frI_ok hp lm h0 h9 h
  obtain ⟨c, e, _⟩ := pmP_spec (k := p) hp h.1 lm h0 (by omega)
  exact rsd_eq hp lm h0 ⟨c, e⟩ a (by rw [b, rs_pm hp h.1 lm h0 (by omega)])
end
end Go.Proofs.Ytbjpkmbhbpcbgaa
end
section
namespace Go.Proofs.Ytbjpkmbhbpcbgaa
open Go Go.RowKit
set_option linter.unusedVariables false
set_option linter.unusedSimpArgs false
attribute [local irreducible] deg addK strP frI frN mmP pmP resP
set_option maxRecDepth 100000 in
set_option maxHeartbeats 1600000 in
theorem kproduct_any (p : Nat) (m f g : Nat → Nat) (w : World) (hpr : p = 2 ∨ p = 3 ∨ p = 5 ∨ p = 7) (lm : ∀ k, k < 64 → m k < p) (h0 : 0 ≤ deg m) (lf : ∀ k, k < 64 → f k < p) (lg : ∀ k, k < 64 → g k < p) :
    Calls Try.prog 165 #[.agg (fdC (p : Int) m).toArray, .agg (bcells 64 f), .agg (bcells 64 g)] w fun e w' => e = .returned (.agg (bcells 64 (mmP p f g m))) ∧ Below w.heap.size w w' := by
  have HRP := Lib.hid (fun W => restOfProduct_any p f g m W hpr lf lg lm h0)
  go_enter Try.func165, Try.ntmps165
  go_upto_region 1 with (fail)
  rw [← zero64]
  obtain ⟨W1, hwo⟩ : ∃ v : World, v = ((((w.alloc (.cells (fdC (p : Int) m).toArray 83)).alloc (.cells (bcells 64 (f)) 23)).alloc (.cells (bcells 64 (g)) 23)).alloc (.cells (bcells 64 (fun _ => 0)) 23)) := ⟨_, rfl⟩
  have B0 : Row W1 (w.heap.size) 83 (fdC (p : Int) m).toArray := by subst hwo; have := ((((Row.new w 83 (fdC (p : Int) m).toArray).alloc (.cells (bcells 64 (f)) 23)).alloc (.cells (bcells 64 (g)) 23)).alloc (.cells (bcells 64 (fun _ => 0)) 23)); simpa using this
  have B1 : Blk W1 (w.heap.size + 1) 64 23 (f) := by subst hwo; have := (((Blk.new (w.alloc (.cells (fdC (p : Int) m).toArray 83)) 64 23 (f)).alloc (.cells (bcells 64 (g)) 23)).alloc (.cells (bcells 64 (fun _ => 0)) 23)); simpa using this
  have B2 : Blk W1 (w.heap.size + 1 + 1) 64 23 (g) := by subst hwo; have := ((Blk.new ((w.alloc (.cells (fdC (p : Int) m).toArray 83)).alloc (.cells (bcells 64 (f)) 23)) 64 23 (g)).alloc (.cells (bcells 64 (fun _ => 0)) 23)); simpa using this
  have B3 : Blk W1 (w.heap.size + 1 + 1 + 1) 64 23 (fun _ => 0) := by subst hwo; have := (Blk.new (((w.alloc (.cells (fdC (p : Int) m).toArray 83)).alloc (.cells (bcells 64 (f)) 23)).alloc (.cells (bcells 64 (g)) 23)) 64 23 (fun _ => 0)); simpa using this
  have hb : Below w.heap.size w W1 := by subst hwo; exact (((((Below.refl _ _).alloc (Nat.le_refl _) _).alloc (by simp) _).alloc (by simp; omega) _).alloc (by simp; omega) _)
  rw [← hwo]
  clear hwo
  have cc := B0.cell (i := 0) (v := .int .i64 (p : Int)) (fdC_at (p : Int) m)
  have lt_B0 := B0.lt
  have lt_B1 := B1.lt
  have lt_B2 := B2.lt
  have lt_B3 := B3.lt
  go_wp2_with (first | rw [← zero64] | (refine wpList_load_any rfl 23 (.tmp 4) rfl _ rfl 64 23 _ (B1) _ Try.underlying23 rfl Try.size23 ?_) | (refine wpList_load_any rfl 23 (.tmp 5) rfl _ rfl 64 23 _ (B2) _ Try.underlying23 rfl Try.size23 ?_) | (refine wpList_load_mid rfl 23 (.tmp 11) rfl _ 1 rfl (bl 64 m) _ (B0.fd) Try.underlying23 rfl (by rw [bl_length]; exact Try.size23) ?_) | (go_at_call 188; refine (HRP.out _).mono ?_; rintro e W2 ⟨rfl, hW2⟩; replace B0 := B0.below hW2 B0.lt; replace B1 := B1.below hW2 B1.lt; replace B2 := B2.below hW2 B2.lt; replace B3 := B3.below hW2 B3.lt; replace hb := (hb).trans (hW2.mono (hb).size)) | (refine wpList_store_blk rfl 23 (.tmp 6) (.tmp 13) rfl _ 64 (mmP p f g m) rfl rfl 23 _ (B3) Try.size23 ?_; try simp only [Act.put]))
  have qB0 : Row (W2.setRow (w.heap.size + 1 + 1 + 1) (bcells 64 (mmP p f g m))) (w.heap.size) 83 (fdC (p : Int) m).toArray := (B0.rowOther (by omega))
  have qB1 : Blk (W2.setRow (w.heap.size + 1 + 1 + 1) (bcells 64 (mmP p f g m))) (w.heap.size + 1) 64 23 (f) := (B1.rowOther (by omega))
  have qB2 : Blk (W2.setRow (w.heap.size + 1 + 1 + 1) (bcells 64 (mmP p f g m))) (w.heap.size + 1 + 1) 64 23 (g) := (B2.rowOther (by omega))
  have qB3 : Blk (W2.setRow (w.heap.size + 1 + 1 + 1) (bcells 64 (mmP p f g m))) (w.heap.size + 1 + 1 + 1) 64 23 (mmP p f g m) := (B3.row (mmP p f g m))
  have qhb : Below w.heap.size w (W2.setRow (w.heap.size + 1 + 1 + 1) (bcells 64 (mmP p f g m))) := (below_row hb (by omega) _)
  obtain ⟨W3, hwo⟩ : ∃ v : World, v = (W2.setRow (w.heap.size + 1 + 1 + 1) (bcells 64 (mmP p f g m))) := ⟨_, rfl⟩
  rw [← hwo] at qB0 qB1 qB2 qB3 qhb ⊢
  clear hwo
  clear B0 B1 B2 B3 hb
  have B0 := qB0
  have B1 := qB1
  have B2 := qB2
  have B3 := qB3
  have hb := qhb
  clear qB0 qB1 qB2 qB3 qhb
  try simp only [Act.put, List.setIfInBounds_toArray, List.set_cons_zero, List.set_cons_succ]
  refine bodyPost_ret (results_blk rfl _ _ _ 64 23 5 _ rfl B3 Try.underlying23 Try.size23) rfl ⟨rfl, hb⟩
set_option maxRecDepth 100000 in
set_option maxHeartbeats 1600000 in
theorem kfrob_any (p : Nat) (m x : Nat → Nat) (n : Nat) (w : World) (hpr : p = 2 ∨ p = 3 ∨ p = 5 ∨ p = 7) (lm : ∀ k, k < 64 → m k < p) (d : Nat) (hd : deg m = (d : Int)) (hd1 : 1 ≤ d) (hd9 : d ≤ 9) (hn : n ≤ 1000) (hx : rsd p m x) :
    Calls Try.prog 166 #[.agg (fdC (p : Int) m).toArray, .agg (bcells 64 x), .int .i64 (n : Int)] w fun e w' => e = .returned (.agg (bcells 64 (frN p m x (n % d)))) ∧ Below w.heap.size w w' := by
  have p0 : 0 < p := by omega
  have h0 : 0 ≤ deg m := by omega
  have h9 : deg m ≤ 9 := by omega
  obtain ⟨M, hM⟩ : ∃ M, M = n % d := ⟨_, rfl⟩
  have hMd : M < d := by rw [hM]; exact Nat.mod_lt _ (by omega)
  have tq1 : (n : Int).tmod (d : Int) = (M : Int) := by rw [Int.tmod_eq_emod_of_nonneg (by omega), hM]; rfl
  have tq2 : ((M : Int) + (d : Int)).tmod (d : Int) = (M : Int) := by
    rw [Int.tmod_eq_emod_of_nonneg (by omega), Int.add_emod_right]
    exact Int.emod_eq_of_lt (by omega) (by omega)
  have HM := Lib.hid hM
  rw [← hM]
  clear hM
  have HD := Lib.hid hd
  have hdz : ¬ (d : Int) = 0 := by omega
  have HZ := Lib.hid (frN_z p m x)
  have HS := Lib.hid (frN_s p m x)
  have HR := Lib.hid (fun j => (frN_ok hpr lm h0 h9 hx j).1)
  have HST := Lib.hid (fun (y : Nat → Nat) (hy : rsd p m y) W => stretched_any p y W (by omega) (by omega) (fun k hk => by have := hy.1 k hk; omega) (by have := hy.2; rcases hpr with rfl | rfl | rfl | rfl <;> omega))
  have HRO := Lib.hid (show ∀ y, rsd p m y → ∀ W, Calls Try.prog 113 #[.int .i64 (p : Int), .agg (bcells 64 (strP p y)), .agg (bcells 64 m)] W fun e w' => e = .returned (.agg (bcells 64 (frI p m y))) ∧ Below W.heap.size W w' from fun y hy W => by
    have h := restOf_any p (strP p y) m W hpr (strP_lt p0 (by omega) hy.1) lm h0
    unfold frI; exact h)
  have HDG := Lib.hid (fun W => degree_any m W)
  rw [hd] at HDG
  clear hd h0 h9 hx
  go_enter Try.func166, Try.ntmps166
  go_upto_region 1 with (fail)
  rw [← zero64]
  obtain ⟨W1, hwo⟩ : ∃ v : World, v = (((w.alloc (.cells (fdC (p : Int) m).toArray 83)).alloc (.cells (bcells 64 (x)) 23)).alloc (.cells (bcells 64 (fun _ => 0)) 23)) := ⟨_, rfl⟩
  have B0 : Row W1 (w.heap.size) 83 (fdC (p : Int) m).toArray := by subst hwo; have := (((Row.new w 83 (fdC (p : Int) m).toArray).alloc (.cells (bcells 64 (x)) 23)).alloc (.cells (bcells 64 (fun _ => 0)) 23)); simpa using this
  have B1 : Blk W1 (w.heap.size + 1) 64 23 (x) := by subst hwo; have := ((Blk.new (w.alloc (.cells (fdC (p : Int) m).toArray 83)) 64 23 (x)).alloc (.cells (bcells 64 (fun _ => 0)) 23)); simpa using this
  have B2 : Blk W1 (w.heap.size + 1 + 1) 64 23 (fun _ => 0) := by subst hwo; have := (Blk.new ((w.alloc (.cells (fdC (p : Int) m).toArray 83)).alloc (.cells (bcells 64 (x)) 23)) 64 23 (fun _ => 0)); simpa using this
  have hb : Below w.heap.size w W1 := by subst hwo; exact ((((Below.refl _ _).alloc (Nat.le_refl _) _).alloc (by simp) _).alloc (by simp; omega) _)
  rw [← hwo]
  clear hwo
  go_upto_region 2 with (first | (refine wpList_load_mid rfl 23 (.tmp 8) rfl _ 1 rfl (bl 64 m) _ (B0.fd) Try.underlying23 rfl (by rw [bl_length]; exact Try.size23) ?_) | (go_at_call 78; refine (HDG.out _).mono ?_; rintro e W2 ⟨rfl, hW2⟩; replace B0 := B0.below hW2 B0.lt; replace B1 := B1.below hW2 B1.lt; replace B2 := B2.below hW2 B2.lt; replace hb := (hb).trans (hW2.mono (hb).size)))
  go_wp2_with fail
  go_loopw [18] (fun c wr => ∃ j : Nat, c = .int .i64 (j : Int) ∧ j ≤ M ∧ Below w.heap.size w wr ∧ Row wr (w.heap.size) 83 (fdC (p : Int) m).toArray ∧ Blk wr (w.heap.size + 1) 64 23 (frN p m x j) ∧ Blk wr (w.heap.size + 1 + 1) 64 23 (fun _ => 0)) (fun c _ => M - (intOf c).toNat)
  case atStart => exact ⟨0, rfl, Nat.zero_le _, hb, B0, by rw [HZ.out]; exact B1, B2⟩
  case round =>
    clear hb B0 B1 B2
    obtain ⟨j, rfl, hjM, hb, B0, B1, B2⟩ := hrel
    by_cases hj : j < M
    · have hjI : (j : Int) < (M : Int) := by omega
      have HR1 := Lib.hid (HR.out j)
      have HS1 := Lib.hid (HST.out _ HR1.out)
      have HS2 := Lib.hid (HRO.out _ HR1.out)
      go_upto_region 4 with (fail)
      have lt_B0 : (w.heap.size) < wr.heap.size := B0.lt
      have lt_B1 : (w.heap.size + 1) < wr.heap.size := B1.lt
      have lt_B2 : (w.heap.size + 1 + 1) < wr.heap.size := B2.lt
      have hbase : w.heap.size ≤ wr.heap.size := hb.size
      refine wp_region_steps0 Try.mixed (by kernel_rfl) (by kernel_rfl) (fun v => by (simp only [frL, Act.put, List.setIfInBounds_toArray, List.set_cons_zero, List.set_cons_succ, Nat.reduceAdd, Nat.zero_add]; exact rfl))
        (fun L v W3 => Below w.heap.size w W3 ∧ wr.heap.size ≤ W3.heap.size ∧ Row W3 (w.heap.size) 83 (fdC (p : Int) m).toArray ∧ (∃ g, Blk W3 (w.heap.size + 1) 64 23 (g)) ∧ (L 9 = false → Blk W3 (w.heap.size + 1) 64 23 (frN p m x j)) ∧ (L 9 = true → Blk W3 (w.heap.size + 1) 64 23 (frI p m (frN p m x j))) ∧ Blk W3 (w.heap.size + 1 + 1) 64 23 (fun _ => 0) ∧ (L 0 = true → v 0 = (.pointer (some ⟨w.heap.size, 0, none⟩))) ∧ (L 1 = true → v 1 = (.int .i64 (p : Int))) ∧ (L 2 = true → v 2 = (.agg (bcells 64 (frN p m x j)))) ∧ (L 3 = true → v 3 = (.pointer (some ⟨w.heap.size, 0, none⟩))) ∧ (L 4 = true → v 4 = (.int .i64 (p : Int))) ∧ (L 5 = true → v 5 = (.agg (bcells 64 (strP p (frN p m x j))))) ∧ (L 6 = true → v 6 = (.pointer (some ⟨w.heap.size, 1, none⟩))) ∧ (L 7 = true → v 7 = (.agg (bcells 64 (m)))) ∧ (L 8 = true → v 8 = (.agg (bcells 64 (frI p m (frN p m x j)))))) ?_ ?_ ?_
      · intro v hv0
        exact ⟨hb.drew, Nat.le_refl _, B0.drew, ⟨_, B1.drew⟩, (fun _ => B1.drew), (fun h => by cases h), B2.drew, (fun h => by cases h), (fun h => by cases h), (fun h => by cases h), (fun h => by cases h), (fun h => by cases h), (fun h => by cases h), (fun h => by cases h), (fun h => by cases h), (fun h => by cases h)⟩
      · refine (.cons rfl ?_ (.cons rfl ?_ (.cons rfl ?_ (.cons rfl ?_ (.cons rfl ?_ (.cons rfl ?_ (.cons rfl ?_ (.cons rfl ?_ (.cons rfl ?_ (.cons rfl ?_ (.nil _)))))))))))
        · intro L v W3 hd hn ⟨hB, hz, s0, x1, q1, n1, s2, h0, h1, h2, h3, h4, h5, h6, h7, h8⟩ K hK
          go_wp2_with fail
          exact hK _ (.pointer (some ⟨w.heap.size, 0, none⟩)) _ (by simp only [Act.put, List.setIfInBounds_toArray, List.set_cons_zero, List.set_cons_succ ]) ⟨hB, hz, s0, x1, q1, n1, s2, (fun _ => rfl), h1, h2, h3, h4, h5, h6, h7, h8⟩
        · intro L v W3 hd hn ⟨hB, hz, s0, x1, q1, n1, s2, h0, h1, h2, h3, h4, h5, h6, h7, h8⟩ K hK
          have e0 := h0 (hd ⟨0, .data⟩ (by simp) rfl)
          have cc := s0.cell (i := 0) (v := .int .i64 (p : Int)) (fdC_at (p : Int) m)
          go_wp2_with fail
          exact hK _ (.int .i64 (p : Int)) _ (by simp only [Act.put, List.setIfInBounds_toArray, List.set_cons_zero, List.set_cons_succ, e0]) ⟨hB, hz, s0, x1, q1, n1, s2, h0, (fun _ => rfl), h2, h3, h4, h5, h6, h7, h8⟩
        · intro L v W3 hd hn ⟨hB, hz, s0, x1, q1, n1, s2, h0, h1, h2, h3, h4, h5, h6, h7, h8⟩ K hK
          have s1 := q1 (by
            cases hL : L 9 with
            | false => rfl
            | true => exact absurd rfl (hn 9 _ rfl hL ⟨2, .phase⟩ (by simp) rfl))
          refine wp_load_any 23 _ rfl _ rfl 64 23 _ s1 _ Try.underlying23 rfl Try.size23 ?_
          exact hK _ _ _ rfl ⟨hB, hz, s0, x1, q1, n1, s2, h0, h1, (fun _ => rfl), h3, h4, h5, h6, h7, h8⟩
        · intro L v W3 hd hn ⟨hB, hz, s0, x1, q1, n1, s2, h0, h1, h2, h3, h4, h5, h6, h7, h8⟩ K hK
          go_wp2_with fail
          exact hK _ (.pointer (some ⟨w.heap.size, 0, none⟩)) _ (by simp only [Act.put, List.setIfInBounds_toArray, List.set_cons_zero, List.set_cons_succ ]) ⟨hB, hz, s0, x1, q1, n1, s2, h0, h1, h2, (fun _ => rfl), h4, h5, h6, h7, h8⟩
        · intro L v W3 hd hn ⟨hB, hz, s0, x1, q1, n1, s2, h0, h1, h2, h3, h4, h5, h6, h7, h8⟩ K hK
          have e3 := h3 (hd ⟨3, .data⟩ (by simp) rfl)
          have cc := s0.cell (i := 0) (v := .int .i64 (p : Int)) (fdC_at (p : Int) m)
          go_wp2_with fail
          exact hK _ (.int .i64 (p : Int)) _ (by simp only [Act.put, List.setIfInBounds_toArray, List.set_cons_zero, List.set_cons_succ, e3]) ⟨hB, hz, s0, x1, q1, n1, s2, h0, h1, h2, h3, (fun _ => rfl), h5, h6, h7, h8⟩
        · intro L v W3 hd hn ⟨hB, hz, s0, x1, q1, n1, s2, h0, h1, h2, h3, h4, h5, h6, h7, h8⟩ K hK
          have e2 := h2 (hd ⟨2, .data⟩ (by simp) rfl)
          have e4 := h4 (hd ⟨4, .data⟩ (by simp) rfl)
          go_wp2_with (go_at_call 190; refine (HS1.out _).mono ?_; rintro e wy ⟨rfl, hy⟩)
          exact hK _ (.agg (bcells 64 (strP p (frN p m x j)))) _ (by simp only [Act.put, List.setIfInBounds_toArray, List.set_cons_zero, List.set_cons_succ, e2, e4]) ⟨hB.trans (hy.mono hB.size), (Nat.le_trans hz hy.size), (s0).below hy (s0).lt, (let ⟨g, h⟩ := x1; ⟨g, (h).below hy (h).lt⟩), (fun h => (q1 h).below hy (q1 h).lt), (fun h => (n1 h).below hy (n1 h).lt), (s2).below hy (s2).lt, h0, h1, h2, h3, h4, (fun _ => rfl), h6, h7, h8⟩
        · intro L v W3 hd hn ⟨hB, hz, s0, x1, q1, n1, s2, h0, h1, h2, h3, h4, h5, h6, h7, h8⟩ K hK
          go_wp2_with fail
          exact hK _ (.pointer (some ⟨w.heap.size, 1, none⟩)) _ (by simp only [Act.put, List.setIfInBounds_toArray, List.set_cons_zero, List.set_cons_succ ]) ⟨hB, hz, s0, x1, q1, n1, s2, h0, h1, h2, h3, h4, h5, (fun _ => rfl), h7, h8⟩
        · intro L v W3 hd hn ⟨hB, hz, s0, x1, q1, n1, s2, h0, h1, h2, h3, h4, h5, h6, h7, h8⟩ K hK
          have e6 := h6 (hd ⟨6, .data⟩ (by simp) rfl)
          refine wp_load_mid 23 _ rfl _ 1 e6 _ _ (s0.fd) Try.underlying23 rfl (by rw [bl_length]; exact Try.size23) ?_
          exact hK _ _ _ rfl ⟨hB, hz, s0, x1, q1, n1, s2, h0, h1, h2, h3, h4, h5, h6, (fun _ => rfl), h8⟩
        · intro L v W3 hd hn ⟨hB, hz, s0, x1, q1, n1, s2, h0, h1, h2, h3, h4, h5, h6, h7, h8⟩ K hK
          have e1 := h1 (hd ⟨1, .data⟩ (by simp) rfl)
          have e5 := h5 (hd ⟨5, .data⟩ (by simp) rfl)
          have e7 := h7 (hd ⟨7, .data⟩ (by simp) rfl)
          go_wp2_with (go_at_call 113; refine (HS2.out _).mono ?_; rintro e wy ⟨rfl, hy⟩)
          exact hK _ (.agg (bcells 64 (frI p m (frN p m x j)))) _ (by simp only [Act.put, List.setIfInBounds_toArray, List.set_cons_zero, List.set_cons_succ, e1, e5, e7]) ⟨hB.trans (hy.mono hB.size), (Nat.le_trans hz hy.size), (s0).below hy (s0).lt, (let ⟨g, h⟩ := x1; ⟨g, (h).below hy (h).lt⟩), (fun h => (q1 h).below hy (q1 h).lt), (fun h => (n1 h).below hy (n1 h).lt), (s2).below hy (s2).lt, h0, h1, h2, h3, h4, h5, h6, h7, (fun _ => rfl)⟩
        · intro L v W3 hd hn ⟨hB, hz, s0, x1, q1, n1, s2, h0, h1, h2, h3, h4, h5, h6, h7, h8⟩ K hK
          have e8 := h8 (hd ⟨8, .data⟩ (by simp) rfl)
          obtain ⟨gz, hk⟩ := x1
          refine wp_store_blk 23 _ _ rfl _ 64 (frI p m (frN p m x j)) rfl e8 23 gz hk Try.size23 ?_
          exact hK _ undef _ rfl ⟨below_row hB (by omega) _, (by simpa [World.setRow] using hz), (s0).rowOther (by omega), ⟨_, hk.row _⟩, (fun h => absurd h (by simp [setL])), (fun _ => hk.row _), (s2).rowOther (by omega), h0, h1, h2, h3, h4, h5, h6, h7, h8⟩
      · intro L v W3 hL ⟨hB, hz, s0, x1, q1, n1, s2, h0, h1, h2, h3, h4, h5, h6, h7, h8⟩
        have r1 := n1 (hL 9 (by decide))
        have e0 := h0 (hL 0 (by decide))
        have e1 := h1 (hL 1 (by decide))
        have e2 := h2 (hL 2 (by decide))
        have e3 := h3 (hL 3 (by decide))
        have e4 := h4 (hL 4 (by decide))
        have e5 := h5 (hL 5 (by decide))
        have e6 := h6 (hL 6 (by decide))
        have e7 := h7 (hL 7 (by decide))
        have e8 := h8 (hL 8 (by decide))
        clear hL x1 q1 n1 h0 h1 h2 h3 h4 h5 h6 h7 h8
        simp only [Exit.then, e0, e1, e2, e3, e4, e5, e6, e7, e8]
        clear e0 e1 e2 e3 e4 e5 e6 e7 e8
        clear B0
        have B0 := s0
        clear s0
        clear B1
        have B1 := r1
        clear r1
        clear B2
        have B2 := s2
        clear s2
        clear hb
        have hb := hB
        clear hB
        clear hbase hz lt_B0 lt_B1 lt_B2
        go_wp2_with fail
        go_roundw
        case rel => exact ⟨j + 1, by go_num, by omega, hb, B0, by rw [HS.out]; exact B1, B2⟩
        case measure => simp [intOf] <;> omega
    · have hjI : ¬ (j : Int) < (M : Int) := by omega
      obtain rfl : j = M := by omega
      go_upto_region 6 with (fail)
      have lt_B0 := B0.lt
      have lt_B1 := B1.lt
      have lt_B2 := B2.lt
      go_wp2_with (first | rw [← zero64] | (refine wpList_load_any rfl 23 (.tmp 4) rfl _ rfl 64 23 _ (B1) _ Try.underlying23 rfl Try.size23 ?_) | (refine wpList_store_blk rfl 23 (.tmp 6) (.tmp 30) rfl _ 64 (frN p m x j) rfl rfl 23 _ (B2) Try.size23 ?_; try simp only [Act.put]))
      have qB0 : Row (wr.setRow (w.heap.size + 1 + 1) (bcells 64 (frN p m x j))) (w.heap.size) 83 (fdC (p : Int) m).toArray := (B0.rowOther (by omega))
      have qB1 : Blk (wr.setRow (w.heap.size + 1 + 1) (bcells 64 (frN p m x j))) (w.heap.size + 1) 64 23 (frN p m x j) := (B1.rowOther (by omega))
      have qB2 : Blk (wr.setRow (w.heap.size + 1 + 1) (bcells 64 (frN p m x j))) (w.heap.size + 1 + 1) 64 23 (frN p m x j) := (B2.row (frN p m x j))
      have qhb : Below w.heap.size w (wr.setRow (w.heap.size + 1 + 1) (bcells 64 (frN p m x j))) := (below_row hb (by omega) _)
      obtain ⟨W3, hwo⟩ : ∃ v : World, v = (wr.setRow (w.heap.size + 1 + 1) (bcells 64 (frN p m x j))) := ⟨_, rfl⟩
      rw [← hwo] at qB0 qB1 qB2 qhb ⊢
      clear hwo
      clear B0 B1 B2 hb
      have B0 := qB0
      have B1 := qB1
      have B2 := qB2
      have hb := qhb
      clear qB0 qB1 qB2 qhb
      try simp only [Act.put, List.setIfInBounds_toArray, List.set_cons_zero, List.set_cons_succ]
      refine bodyPost_ret (results_blk rfl _ _ _ 64 23 5 _ rfl B2 Try.underlying23 Try.size23) rfl ⟨rfl, hb⟩
set_option maxRecDepth 100000 in
set_option maxHeartbeats 1600000 in
theorem l03Frobenius_any (p : Nat) (m x : Nat → Nat) (n : Nat) (w : World) (hpr : p = 2 ∨ p = 3 ∨ p = 5 ∨ p = 7) (lm : ∀ k, k < 64 → m k < p) (d : Nat) (hd : deg m = (d : Int)) (hd1 : 1 ≤ d) (hd9 : d ≤ 9) (hn : n ≤ 1000) (hx : rsd p m x) :
    Calls Try.prog 164 #[.int .i64 (p : Int), .agg (bcells 64 x), .int .i64 (n : Int), .agg (bcells 64 m)] w fun e w' => e = .returned (.agg (bcells 64 (frN p m x (n % d)))) ∧ Below w.heap.size w w' := by
  have p0 : 0 < p := by omega
  have h0 : 0 ≤ deg m := by omega
  have h9 : deg m ≤ 9 := by omega
  obtain ⟨M, hM⟩ : ∃ M, M = n % d := ⟨_, rfl⟩
  have hMd : M < d := by rw [hM]; exact Nat.mod_lt _ (by omega)
  have tq1 : (n : Int).tmod (d : Int) = (M : Int) := by rw [Int.tmod_eq_emod_of_nonneg (by omega), hM]; rfl
  rw [← hM]
  clear hM
  have hdz : ¬ (d : Int) = 0 := by omega
  have HZ := Lib.hid (frN_z p m x)
  have HS := Lib.hid (frN_s p m x)
  have HR := Lib.hid (fun j => (frN_ok hpr lm h0 h9 hx j).1)
  have HPM := Lib.hid (show ∀ y, rsd p m y → ∀ W, Calls Try.prog 153 #[.int .i64 (p : Int), .agg (bcells 64 y), .int .i64 (p : Int), .agg (bcells 64 m)] W fun e w' => e = .returned (.agg (bcells 64 (frI p m y))) ∧ Below W.heap.size W w' from fun y hy W => by
    have h := l01PowMod_any p y p m W hpr hy.1 lm h0 (by omega)
    rw [bcells_congr (frI_pm hpr lm h0 h9 hy)] at h; exact h)
  have HDG := Lib.hid (fun W => l01Deg_any m W)
  rw [hd] at HDG
  clear hd h0 h9 hx
  go_enter Try.func164, Try.ntmps164
  go_upto_region 1 with (fail)
  rw [← zero64]
  obtain ⟨W1, hwo⟩ : ∃ v : World, v = (((w.alloc (.cells (bcells 64 (x)) 23)).alloc (.cells (bcells 64 (m)) 23)).alloc (.cells (bcells 64 (fun _ => 0)) 23)) := ⟨_, rfl⟩
  have B0 : Blk W1 (w.heap.size) 64 23 (x) := by subst hwo; have := (((Blk.new w 64 23 (x)).alloc (.cells (bcells 64 (m)) 23)).alloc (.cells (bcells 64 (fun _ => 0)) 23)); simpa using this
  have B1 : Blk W1 (w.heap.size + 1) 64 23 (m) := by subst hwo; have := ((Blk.new (w.alloc (.cells (bcells 64 (x)) 23)) 64 23 (m)).alloc (.cells (bcells 64 (fun _ => 0)) 23)); simpa using this
  have B2 : Blk W1 (w.heap.size + 1 + 1) 64 23 (fun _ => 0) := by subst hwo; have := (Blk.new ((w.alloc (.cells (bcells 64 (x)) 23)).alloc (.cells (bcells 64 (m)) 23)) 64 23 (fun _ => 0)); simpa using this
  have hb : Below w.heap.size w W1 := by subst hwo; exact ((((Below.refl _ _).alloc (Nat.le_refl _) _).alloc (by simp) _).alloc (by simp; omega) _)
  rw [← hwo]
  clear hwo
  go_wp2_with (first | (refine wpList_load_any rfl 23 (.tmp 7) rfl _ rfl 64 23 _ B1 _ Try.underlying23 rfl Try.size23 ?_) | (go_at_call 73; refine (HDG.out _).mono ?_; rintro e W9 ⟨rfl, hW9⟩; replace B0 := B0.below hW9 B0.lt; replace B1 := B1.below hW9 B1.lt; replace B2 := B2.below hW9 B2.lt; replace hb := hb.trans (hW9.mono hb.size)))
  go_loopw [9] (fun c wr => ∃ i j : Nat, c = .int .i64 (i : Int) ∧ i + j = M ∧ Below w.heap.size w wr ∧ Blk wr (w.heap.size) 64 23 (frN p m x j) ∧ Blk wr (w.heap.size + 1) 64 23 m ∧ Blk wr (w.heap.size + 1 + 1) 64 23 (fun _ => 0)) (fun c _ => (intOf c).toNat)
  case atStart => exact ⟨M, 0, rfl, rfl, hb, by rw [HZ.out]; exact B0, B1, B2⟩
  case round =>
    clear hb B1 B0 B2
    obtain ⟨i, j, rfl, hij, hb, B0, B1, B2⟩ := hrel
    by_cases hj : 0 < i
    · have hjI : (i : Int) > 0 := by omega
      have hjI2 : (0 : Int) < (i : Int) := by omega
      have HR1 := Lib.hid (HR.out j)
      have HS1 := Lib.hid (HPM.out _ HR1.out)
      go_upto_region 4 with (fail)
      have lt_B0 := B0.lt
      have lt_B1 := B1.lt
      have lt_B2 := B2.lt
      go_upto_region 3 with (first | rw [← zero64] | (refine wpList_load_any rfl 23 (.tmp 5) rfl _ rfl 64 23 _ (B0) _ Try.underlying23 rfl Try.size23 ?_) | (refine wpList_load_any rfl 23 (.tmp 7) rfl _ rfl 64 23 _ (B1) _ Try.underlying23 rfl Try.size23 ?_) | (go_at_call 153; refine (HS1.out _).mono ?_; rintro e W2 ⟨rfl, hW2⟩; replace B0 := B0.below hW2 B0.lt; replace B1 := B1.below hW2 B1.lt; replace B2 := B2.below hW2 B2.lt; replace hb := (hb).trans (hW2.mono (hb).size)) | (refine wpList_store_blk rfl 23 (.tmp 5) (.tmp 22) rfl _ 64 (frI p m (frN p m x j)) rfl rfl 23 _ (B0) Try.size23 ?_; try simp only [Act.put]))
      have qB0 : Blk (W2.setRow (w.heap.size) (bcells 64 (frI p m (frN p m x j)))) (w.heap.size) 64 23 (frI p m (frN p m x j)) := (B0.row (frI p m (frN p m x j)))
      have qB1 : Blk (W2.setRow (w.heap.size) (bcells 64 (frI p m (frN p m x j)))) (w.heap.size + 1) 64 23 (m) := (B1.rowOther (by omega))
      have qB2 : Blk (W2.setRow (w.heap.size) (bcells 64 (frI p m (frN p m x j)))) (w.heap.size + 1 + 1) 64 23 (fun _ => 0) := (B2.rowOther (by omega))
      have qhb : Below w.heap.size w (W2.setRow (w.heap.size) (bcells 64 (frI p m (frN p m x j)))) := (below_row hb (by omega) _)
      obtain ⟨W3, hwo⟩ : ∃ v : World, v = (W2.setRow (w.heap.size) (bcells 64 (frI p m (frN p m x j)))) := ⟨_, rfl⟩
      rw [← hwo] at qB0 qB1 qB2 qhb ⊢
      clear hwo
      clear B0 B1 B2 hb
      have B0 := qB0
      have B1 := qB1
      have B2 := qB2
      have hb := qhb
      clear qB0 qB1 qB2 qhb
      try simp only [Act.put, List.setIfInBounds_toArray, List.set_cons_zero, List.set_cons_succ]
      obtain ⟨i, rfl⟩ : ∃ q, i = q + 1 := ⟨i - 1, by omega⟩
      go_wp2_with fail
      go_roundw
      case rel => exact ⟨i, j + 1, by go_num, by omega, hb, by rw [HS.out]; exact B0, B1, B2⟩
      case measure => simp [intOf] <;> omega
    · obtain rfl : i = 0 := by omega
      have hjI : ¬ (((0 : Nat) : Int) > 0) := by omega
      obtain rfl : j = M := by omega
      go_upto_region 5 with (fail)
      have lt_B0 := B0.lt
      have lt_B1 := B1.lt
      have lt_B2 := B2.lt
      go_wp2_with (first | rw [← zero64] | (refine wpList_load_any rfl 23 (.tmp 5) rfl _ rfl 64 23 _ (B0) _ Try.underlying23 rfl Try.size23 ?_) | (refine wpList_store_blk rfl 23 (.tmp 8) (.tmp 23) rfl _ 64 (frN p m x j) rfl rfl 23 _ (B2) Try.size23 ?_; try simp only [Act.put]))
      have qB0 : Blk (wr.setRow (w.heap.size + 1 + 1) (bcells 64 (frN p m x j))) (w.heap.size) 64 23 (frN p m x j) := (B0.rowOther (by omega))
      have qB1 : Blk (wr.setRow (w.heap.size + 1 + 1) (bcells 64 (frN p m x j))) (w.heap.size + 1) 64 23 (m) := (B1.rowOther (by omega))
      have qB2 : Blk (wr.setRow (w.heap.size + 1 + 1) (bcells 64 (frN p m x j))) (w.heap.size + 1 + 1) 64 23 (frN p m x j) := (B2.row (frN p m x j))
      have qhb : Below w.heap.size w (wr.setRow (w.heap.size + 1 + 1) (bcells 64 (frN p m x j))) := (below_row hb (by omega) _)
      obtain ⟨W2, hwo⟩ : ∃ v : World, v = (wr.setRow (w.heap.size + 1 + 1) (bcells 64 (frN p m x j))) := ⟨_, rfl⟩
      rw [← hwo] at qB0 qB1 qB2 qhb ⊢
      clear hwo
      clear B0 B1 B2 hb
      have B0 := qB0
      have B1 := qB1
      have B2 := qB2
      have hb := qhb
      clear qB0 qB1 qB2 qhb
      try simp only [Act.put, List.setIfInBounds_toArray, List.set_cons_zero, List.set_cons_succ]
      refine bodyPost_ret (results_blk rfl _ _ _ 64 23 5 _ rfl B2 Try.underlying23 Try.size23) rfl ⟨rfl, hb⟩
end Go.Proofs.Ytbjpkmbhbpcbgaa
end
section
namespace Go.Proofs.Ytbjpkmbhbpcbgaa
open Go.ChangeShapes Go.WideShapes Go.ChangeAt Go.RowKit
section
variable {H : Type} {enc : TypeId × Value → H} {P : Program}
theorem trod_int_to {e : TypeId} {k : IntKind} (he : P.underlying e = some (.int k)) {w : World} (w' : World) {b : Nat} (b' : Nat) {s : Nat → Bool} (s' : Nat → Bool) {h : Bool} (h' : Bool) {m : Nat} {c : List Value} {x : DataW H × List MemPlace}
    (hx : DataW.trod enc P w b s h m e c = some x) : DataW.trod enc P w' b' s' h' m e c = some x := by
  cases m with
  | zero => simp [DataW.trod] at hx
  | succ m =>
    obtain ⟨n, rfl, rfl, hw⟩ := DataW.trod_int he hx
    unfold DataW.trod
    rw [he]
    simp [hw]
theorem trod_int_same {e : TypeId} {k : IntKind} (he : P.underlying e = some (.int k)) (w w' : World) (b b' : Nat) (s s' : Nat → Bool) (h h' : Bool) (m : Nat) (c : List Value) :
    DataW.trod enc P w b s h m e c = DataW.trod enc P w' b' s' h' m e c := by
  cases h1 : DataW.trod enc P w b s h m e c with
  | some x => rw [trod_int_to he w' b' s' h' h1]
  | none =>
    cases h2 : DataW.trod enc P w' b' s' h' m e c with
    | none => rfl
    | some x => rw [trod_int_to he w b s h h2] at h1; cases h1
theorem open_barr {t e : TypeId} {n : Nat} {w : World} {r : Reach} {b0 base : Nat} {spare : Nat → Bool} {held : Bool} {v : Value} {d : DataW H} {p : List MemPlace}
    (ht : P.underlying t = some (.array n e)) (he : P.underlying e = some (.int .u8)) (hC : P.cellsOf t = n) (hCe : P.cellsOf e = 1)
    (hv : Value.okWide P w r b0 t v) (h : DataW.Trod enc P w base spare held t v d p) :
    ∃ f : Nat → Nat, byte f ∧ v = .agg (bcells n f) ∧ p = [] ∧ ∀ (w' : World) (base' : Nat) (spare' : Nat → Bool) (held' : Bool), DataW.Trod enc P w' base' spare' held' t v d [] := by
  unfold Value.okWide at hv
  rw [ht] at hv
  obtain ⟨cs, rfl, hsz, _⟩ := hv
  obtain ⟨fuel, hf⟩ := h
  obtain ⟨xs, m, hm, hx, hlen, hxl, hel⟩ := DataW.trod_array ht hf
  subst hm
  have hcs : cs.size = n := by rw [hsz, hC]
  have each : ∀ i, i < n → ∃ k : Nat, k < 256 ∧ cs[i]? = some (.int .u8 (k : Int)) ∧ xs[i]? = some (.lit (.int .u8 (k : Int)), []) := by
    intro i hi
    have h1 := hel i hi
    have hxi : xs[i]? = some (xs[i]'(by omega)) := List.getElem?_eq_getElem (by omega)
    rw [hxi, hCe] at h1
    obtain ⟨z, hz1, hz2, hz3⟩ := DataW.trod_int he h1
    have hb := bounds_u8 hz3
    obtain ⟨k, rfl⟩ := Int.eq_ofNat_of_zero_le hb.1
    refine ⟨k, by omega, ?_, by rw [hxi, hz2]⟩
    have h2 : ((cs.toList.drop (i * 1)).take 1)[0]? = some (.int .u8 (k : Int)) := by
      have h3 : (Value.agg cs).cells.toList = cs.toList := rfl
      rw [← h3, hz1]; rfl
    simpa using h2
  refine ⟨fun i => match cs[i]? with | some (.int _ z) => if i < n then z.toNat else 0 | _ => 0, ?_, ?_, ?_, ?_⟩
  · intro i
    by_cases hi : i < n
    · obtain ⟨k, hk, hc, _⟩ := each i hi
      simp only [hc, hi, if_true, Int.toNat_natCast]
      exact hk
    · have : cs[i]? = none := Array.getElem?_eq_none (by omega)
      simp [this]
  · congr 1
    apply Array.ext_getElem?
    intro i
    by_cases hi : i < n
    · obtain ⟨k, hk, hc, _⟩ := each i hi
      rw [bcells_get hi]
      simp only [hc, hi, if_true, Int.toNat_natCast]
    · rw [Array.getElem?_eq_none (by omega), Array.getElem?_eq_none (by rw [bcells_size]; omega)]
  · have hp : p = xs.flatMap (·.2) := by simpa using congrArg Prod.snd hx
    rw [hp]
    rw [List.flatMap_eq_nil_iff]
    intro x hxm
    obtain ⟨i, hi⟩ := List.getElem?_of_mem hxm
    have hin : i < n := by rw [← hxl]; exact (List.getElem?_eq_some_iff.1 hi).1
    obtain ⟨k, _, _, h2⟩ := each i hin
    rw [hi] at h2
    injection h2 with h2
    rw [h2]
  · intro w' base' spare' held'
    refine ⟨m + 1, ?_⟩
    have e1 : DataW.trod enc P w' base' spare' held' (m + 1) t (Value.agg cs).cells.toList = DataW.trod enc P w base spare held (m + 1) t (Value.agg cs).cells.toList := by
      unfold DataW.trod
      rw [ht]
      simp only [trod_int_same he w' w base' base spare' spare held' held m]
    rw [e1, hf]
    have hp : p = xs.flatMap (·.2) := by simpa using congrArg Prod.snd hx
    have : p = [] := by
      rw [hp, List.flatMap_eq_nil_iff]
      intro x hxm
      obtain ⟨i, hi⟩ := List.getElem?_of_mem hxm
      have hin : i < n := by rw [← hxl]; exact (List.getElem?_eq_some_iff.1 hi).1
      obtain ⟨k, _, _, h2⟩ := each i hin
      rw [hi] at h2
      injection h2 with h2
      rw [h2]
    rw [this]
/-- the row's last step where the call has only made new memory, and the row does not say 'again' -/
theorem post_of_below0 {f : Func} {s : ChangeSpec} {apart fresh handsOn : Bool} {W W' : World} {args : Array Value} {v : Value} {ds gs : List (DataW H)} {before pa pv : List MemPlace}
    (hW : DataW.Whole enc P f.params.toList s.vars apart W args.toList ds gs before)
    (hres : ∀ (b : Nat) (sp : Nat → Bool) (hd : Bool), DataW.TrodAll enc P W' b sp hd f.resultTypes.toList (v.resultList f.resultTypes.size) (s.fn H (ds ++ gs)).results [])
    (hargs : ∀ sp : Nat → Bool, (∀ p ∈ before, sp p.block = true) → DataW.TrodAll enc P W' 0 sp true f.params.toList args.toList (s.fn H (ds ++ gs)).args pa)
    (hvars : ∀ sp : Nat → Bool, (∀ p ∈ before, sp p.block = true) → DataW.TrodVars enc P W' sp s.vars (s.fn H (ds ++ gs)).vars pv)
    (hps : before = pa ++ pv) (hb : Below W.heap.size W W') : s.post enc P f apart fresh handsOn false W args v W' := by
  have held : ∀ p ∈ before, (fun b => decide (b < W.heap.size)) p.block = true := fun p hp => by simpa using hW.lt p hp
  refine ⟨ds, gs, before, [], pa, pv, hW, hres _ _ _, hargs _ held, hvars _ held, ?_, fun h => by cases h⟩
  refine World.keptBut_mono (fun p hp => ⟨hp, .inr ?_⟩) (hb.frame (· ∈ before))
  rw [hps, List.mem_append] at hp
  exact hp
end
end Go.Proofs.Ytbjpkmbhbpcbgaa
end
section
namespace Go.Proofs.Ytbjpkmbhbpcbgaa
open Go.ChangeShapes Go.WideShapes Go.ChangeAt Go.RowKit
set_option linter.unusedVariables false
theorem fl_whole (f : Nat → Nat) : fl 64 (fun i j => f (i * 64 + j)) = f := by
  funext k
  unfold fl
  show f (k / 64 * 64 + k % 64) = f k
  congr 1
  omega
section
variable {H : Type} {enc : TypeId × Value → H} {P : Program}
theorem trod_barr_same {e u n : Nat} {k : IntKind} (he : P.underlying e = some (.array n u)) (hu : P.underlying u = some (.int k)) (w w' : World) (b b' : Nat) (s s' : Nat → Bool) (h h' : Bool) (m : Nat) (c : List Value) :
    DataW.trod enc P w b s h m e c = DataW.trod enc P w' b' s' h' m e c := by
  cases m with
  | zero => simp [DataW.trod]
  | succ m =>
    unfold DataW.trod
    rw [he]
    simp only [trod_int_same hu w w' b b' s s' h h' m]
theorem open_bsk {t e u : TypeId} {w : World} {r : Reach} {b0 base : Nat} {spare : Nat → Bool} {held : Bool} {v : Value} {d : DataW H} {p : List MemPlace}
    (ht : P.underlying t = some (.array 8 e)) (he : P.underlying e = some (.array 64 u)) (hu : P.underlying u = some (.int .u8)) (hC : P.cellsOf t = 512) (hCe : P.cellsOf e = 64) (hCu : P.cellsOf u = 1)
    (hv : Value.okWide P w r b0 t v) (h : DataW.Trod enc P w base spare held t v d p) :
    ∃ F : Nat → Nat → Nat, (∀ i, byte (F i)) ∧ v = .agg (bcells 512 (fl 64 F)) ∧ p = [] ∧ ∀ (w' : World) (base' : Nat) (spare' : Nat → Bool) (held' : Bool), DataW.Trod enc P w' base' spare' held' t v d [] := by
  unfold Value.okWide at hv
  rw [ht] at hv
  obtain ⟨cs, rfl, hsz, _⟩ := hv
  obtain ⟨fuel, hf⟩ := h
  obtain ⟨xs, m, hm, hx, hlen, hxl, hel⟩ := DataW.trod_array ht hf
  subst hm
  have hcs : cs.size = 512 := by rw [hsz, hC]
  have each : ∀ i, i < 8 → (∃ y, xs[i]? = some (y, [])) ∧ ∀ j, j < 64 → ∃ k : Nat, k < 256 ∧ cs[i * 64 + j]? = some (.int .u8 (k : Int)) := by
    intro i hi
    have h1 := hel i hi
    have hxi : xs[i]? = some (xs[i]'(by omega)) := List.getElem?_eq_getElem (by omega)
    rw [hxi, hCe] at h1
    obtain ⟨ys, m2, hm2, hx2, hlen2, hyl, hel2⟩ := DataW.trod_array he h1
    subst hm2
    have byt : ∀ j, j < 64 → ∃ k : Nat, k < 256 ∧ cs[i * 64 + j]? = some (.int .u8 (k : Int)) ∧ ys[j]? = some (.lit (.int .u8 (k : Int)), []) := by
      intro j hj
      have h3 := hel2 j hj
      have hyj : ys[j]? = some (ys[j]'(by omega)) := List.getElem?_eq_getElem (by omega)
      rw [hyj, hCu] at h3
      obtain ⟨z, hz1, hz2, hz3⟩ := DataW.trod_int hu h3
      have hb := bounds_u8 hz3
      obtain ⟨k, rfl⟩ := Int.eq_ofNat_of_zero_le hb.1
      refine ⟨k, by omega, ?_, by rw [hyj, hz2]⟩
      have h4 : (((((Value.agg cs).cells.toList.drop (i * 64)).take 64).drop (j * 1)).take 1)[0]? = some (.int .u8 (k : Int)) := by
        rw [hz1]; rfl
      have h5 : (Value.agg cs).cells.toList = cs.toList := rfl
      rw [h5] at h4
      simp only [List.getElem?_take, List.getElem?_drop, Nat.mul_one, Nat.add_zero, Nat.lt_add_one, if_true, hj] at h4
      simpa using h4
    refine ⟨⟨(xs[i]'(by omega)).1, ?_⟩, fun j hj => let ⟨k, a, b, _⟩ := byt j hj; ⟨k, a, b⟩⟩
    · rw [hxi]
      congr 1
      refine Prod.ext rfl ?_
      have hp : (xs[i]'(by omega)).2 = ys.flatMap (·.2) := by simpa using congrArg Prod.snd hx2
      show (xs[i]'(by omega)).2 = []
      rw [hp, List.flatMap_eq_nil_iff]
      intro x hxm
      obtain ⟨j, hj⟩ := List.getElem?_of_mem hxm
      have hjn : j < 64 := by rw [← hyl]; exact (List.getElem?_eq_some_iff.1 hj).1
      obtain ⟨k, _, _, h2⟩ := byt j hjn
      rw [hj] at h2
      injection h2 with h2
      rw [h2]
  have hp : p = [] := by
    have hp : p = xs.flatMap (·.2) := by simpa using congrArg Prod.snd hx
    rw [hp, List.flatMap_eq_nil_iff]
    intro x hxm
    obtain ⟨i, hi⟩ := List.getElem?_of_mem hxm
    have hin : i < 8 := by rw [← hxl]; exact (List.getElem?_eq_some_iff.1 hi).1
    obtain ⟨⟨y, h2⟩, _⟩ := each i hin
    rw [hi] at h2
    injection h2 with h2
    rw [h2]
  have cell : ∀ k, k < 512 → ∃ z : Nat, z < 256 ∧ cs[k]? = some (.int .u8 (z : Int)) := by
    intro k hk
    obtain ⟨z, a, b⟩ := (each (k / 64) (by omega)).2 (k % 64) (by omega)
    rw [show k / 64 * 64 + k % 64 = k by omega] at b
    exact ⟨z, a, b⟩
  obtain ⟨f, hf1, hf2⟩ : ∃ f : Nat → Nat, byte f ∧ (Value.agg cs) = .agg (bcells 512 f) := by
    refine ⟨fun i => match cs[i]? with | some (.int _ z) => if i < 512 then z.toNat else 0 | _ => 0, ?_, ?_⟩
    · intro i
      by_cases hi : i < 512
      · obtain ⟨k, hk, hc⟩ := cell i hi
        simp only [hc, hi, if_true, Int.toNat_natCast]
        exact hk
      · have : cs[i]? = none := Array.getElem?_eq_none (by omega)
        simp [this]
    · congr 1
      apply Array.ext_getElem?
      intro i
      by_cases hi : i < 512
      · obtain ⟨k, hk, hc⟩ := cell i hi
        rw [bcells_get hi]
        simp only [hc, hi, if_true, Int.toNat_natCast]
      · rw [Array.getElem?_eq_none (by omega), Array.getElem?_eq_none (by rw [bcells_size]; omega)]
  refine ⟨fun i j => f (i * 64 + j), fun i j => hf1 _, ?_, hp, ?_⟩
  · rw [fl_whole]; exact hf2
  · intro w' base' spare' held'
    refine ⟨m + 1, ?_⟩
    have e1 : DataW.trod enc P w' base' spare' held' (m + 1) t (Value.agg cs).cells.toList = DataW.trod enc P w base spare held (m + 1) t (Value.agg cs).cells.toList := by
      unfold DataW.trod
      rw [ht]
      simp only [trod_barr_same he hu w' w base' base spare' spare held' held m]
    rw [e1, hf, hp]
end
end Go.Proofs.Ytbjpkmbhbpcbgaa
end
section
namespace Go.Proofs.Ytbjpkmbhbpcbgaa
open Go
def cutW : List Char := [Char.ofNat 99, Char.ofNat 117, Char.ofNat 116]
theorem strip_cut (rest : List (List Char)) : stripLifts liftWords (cutW :: rest) = ([], cutW :: rest) := by
  have key : ∀ os : List String, (os.all fun o => !(cutW == o.toList)) = true → stripLifts os (cutW :: rest) = ([], cutW :: rest) := by
    intro os
    induction os with
    | nil => intro _; rfl
    | cons o os ih =>
      intro h
      simp only [List.all_cons, Bool.and_eq_true, Bool.not_eq_true'] at h
      unfold stripLifts
      rw [h.1]
      exact ih h.2
  exact key _ (by decide +kernel)
theorem make_cut {P : Program} {rest : List (List Char)} (h : behindMainWord (wordsSigns P.initOrder.toList) = cutW :: rest) : P.make = some .cut := by
  unfold Program.make
  rw [h]
  have e1 : (cutW == "gc".toList || cutW == "spec".toList) = false := by decide +kernel
  have e2 : (cutW == "cut".toList) = true := by decide +kernel
  simp only [e1, e2, Bool.true_or]
  rfl
theorem mayEnter_cut {P : Program} {rest : List (List Char)} (h : behindMainWord (wordsSigns P.initOrder.toList) = cutW :: rest) (h1 : P.laysLater = false) (h2 : P.bearsReflect = false) (h3 : P.doorFits [] = true) : P.mayEnter = true := by
  unfold Program.mayEnter
  rw [h]
  have e2 : (some cutW == some "cut".toList) = true := by decide +kernel
  simp only [strip_cut, h1, h2, h3, List.head?_cons, e2]
  simp
theorem lifts_cut {P : Program} {rest : List (List Char)} (h : behindMainWord (wordsSigns P.initOrder.toList) = cutW :: rest) : P.liftsFinal = false := by
  unfold Program.liftsFinal Program.headLifts
  rw [h]
  have e2 : (some cutW == some "cut".toList) = true := by decide +kernel
  have e3 : (some cutW == some "carried".toList) = false := by decide +kernel
  simp only [strip_cut, List.head?_cons, e2, e3]
  simp
/-- the signs of the head, and its words behind the first three -/
def initSigns : List Nat := [104, 97, 114, 110, 101, 115, 115, 32, 101, 51, 54, 49, 54, 99, 97, 51, 99, 98, 54, 102, 52, 57, 52, 51, 51, 101, 56, 54, 53, 53, 54, 51, 52, 50, 97, 49, 49, 57, 55, 53, 101, 48, 99, 53, 57, 53, 54, 98, 55, 49, 50, 57, 57, 98, 48, 101, 102, 53, 101, 49, 98, 102, 51, 50, 101, 101, 97, 52, 55, 100, 49, 53, 32, 99, 117, 116, 32, 97, 116, 32, 108, 111, 111, 112, 46, 101, 120, 97, 109, 112, 108, 101, 47, 103, 48, 49, 50, 52, 53, 47, 108, 97, 119, 115, 46, 70, 110, 69, 120, 97, 99, 116, 80, 111, 119, 101, 114, 79, 102, 32, 108, 111, 111, 112, 46, 101, 120, 97, 109, 112, 108, 101, 47, 103, 48, 49, 50, 52, 53, 47, 108, 97, 119, 115, 46, 70, 110, 69, 120, 97, 99, 116, 80, 114, 105, 109, 105, 116, 105, 118, 101, 79, 102, 32, 108, 111, 111, 112, 46, 101, 120, 97, 109, 112, 108, 101, 47, 103, 48, 49, 50, 52, 53, 47, 108, 97, 119, 115, 46, 70, 110, 69, 120, 97, 99, 116, 73, 115, 83, 107, 101, 119, 32, 108, 111, 111, 112, 46, 101, 120, 97, 109, 112, 108, 101, 47, 103, 48, 49, 50, 52, 53, 47, 108, 97, 119, 115, 46, 70, 110, 69, 120, 97, 99, 116, 83, 107, 101, 119, 68, 101, 103, 114, 101, 101, 32, 108, 111, 111, 112, 46, 101, 120, 97, 109, 112, 108, 101, 47, 103, 48, 49, 50, 52, 53, 47, 108, 97, 119, 115, 46, 70, 110, 69, 120, 97, 99, 116, 65, 100, 100, 83, 107, 101, 119, 115, 32, 108, 111, 111, 112, 46, 101, 120, 97, 109, 112, 108, 101, 47, 103, 48, 49, 50, 52, 53, 47, 108, 97, 119, 115, 46, 70, 110, 69, 120, 97, 99, 116, 77, 117, 108, 116, 105, 112, 108, 121, 83, 107, 101, 119, 115, 32, 108, 111, 111, 112, 46, 101, 120, 97, 109, 112, 108, 101, 47, 103, 48, 49, 50, 52, 53, 47, 108, 97, 119, 115, 46, 70, 110, 69, 120, 97, 99, 116, 86, 97, 108, 117, 101, 79, 102, 83, 107, 101, 119, 32, 108, 111, 111, 112, 46, 101, 120, 97, 109, 112, 108, 101, 47, 103, 48, 49, 50, 52, 53, 47, 108, 97, 119, 115, 46, 70, 110, 69, 120, 97, 99, 116, 65, 100, 100, 65, 99, 116, 105, 111, 110, 115, 32, 108, 111, 111, 112, 46, 101, 120, 97, 109, 112, 108, 101, 47, 103, 48, 49, 50, 52, 53, 47, 108, 97, 119, 115, 46, 70, 110, 69, 120, 97, 99, 116, 65, 99, 116, 79, 110, 82, 101, 115, 105, 100, 117, 101, 32, 108, 111, 111, 112, 46, 101, 120, 97, 109, 112, 108, 101, 47, 103, 48, 49, 50, 52, 53, 47, 108, 97, 119, 115, 46, 70, 110, 69, 120, 97, 99, 116, 65, 110, 110, 105, 104, 105, 108, 97, 116, 111, 114, 79, 102, 32, 108, 111, 111, 112, 46, 101, 120, 97, 109, 112, 108, 101, 47, 103, 48, 49, 50, 52, 53, 47, 108, 97, 119, 115, 46, 70, 110, 69, 120, 97, 99, 116, 69, 120, 112, 111, 110, 101, 110, 116, 79, 102, 32, 108, 111, 111, 112, 46, 101, 120, 97, 109, 112, 108, 101, 47, 103, 48, 49, 50, 52, 53, 47, 108, 97, 119, 115, 46, 70, 110, 69, 120, 97, 99, 116, 84, 111, 114, 115, 105, 111, 110, 78, 117, 109, 98, 101, 114, 32, 108, 111, 111, 112, 46, 101, 120, 97, 109, 112, 108, 101, 47, 103, 48, 49, 50, 52, 53, 47, 108, 97, 119, 115, 46, 70, 110, 69, 120, 97, 99, 116, 68, 101, 101, 112, 82, 101, 115, 116, 32, 108, 111, 111, 112, 46, 101, 120, 97, 109, 112, 108, 101, 47, 103, 48, 49, 50, 52, 53, 47, 108, 97, 119, 115, 46, 70, 110, 69, 120, 97, 99, 116, 66, 114, 97, 99, 107, 101, 116, 79, 102, 32, 108, 111, 111, 112, 46, 101, 120, 97, 109, 112, 108, 101, 47, 103, 48, 49, 50, 52, 53, 47, 108, 97, 119, 115, 46, 70, 110, 69, 120, 97, 99, 116, 70, 105, 114, 115, 116, 70, 97, 99, 116, 111, 114, 105, 97, 108, 32, 108, 111, 111, 112, 46, 101, 120, 97, 109, 112, 108, 101, 47, 103, 48, 49, 50, 52, 53, 47, 108, 97, 119, 115, 46, 70, 110, 69, 120, 97, 99, 116, 83, 101, 99, 111, 110, 100, 70, 97, 99, 116, 111, 114, 105, 97, 108, 32, 108, 111, 111, 112, 46, 101, 120, 97, 109, 112, 108, 101, 47, 103, 48, 49, 50, 52, 53, 47, 108, 97, 119, 115, 46, 70, 110, 69, 120, 97, 99, 116, 65, 99, 116, 105, 111, 110, 79, 102, 32, 108, 111, 111, 112, 46, 101, 120, 97, 109, 112, 108, 101, 47, 103, 48, 49, 50, 52, 53, 47, 108, 97, 119, 115, 46, 70, 110, 69, 120, 97, 99, 116, 67, 111, 109, 112, 111, 115, 101, 65, 99, 116, 105, 111, 110, 115, 32, 108, 111, 111, 112, 46, 101, 120, 97, 109, 112, 108, 101, 47, 103, 48, 49, 50, 52, 53, 47, 108, 97, 119, 115, 46, 70, 110, 69, 120, 97, 99, 116, 66, 105, 110, 111, 109, 105, 97, 108, 79, 102, 32, 108, 111, 111, 112, 46, 101, 120, 97, 109, 112, 108, 101, 47, 103, 48, 49, 50, 52, 53, 47, 108, 97, 119, 115, 46, 70, 110, 69, 120, 97, 99, 116, 67, 97, 114, 108, 105, 116, 122, 70, 97, 99, 116, 111, 114, 105, 97, 108]
def initRest : List (List Nat) := [[97, 116], [108, 111, 111, 112, 46, 101, 120, 97, 109, 112, 108, 101, 47, 103, 48, 49, 50, 52, 53, 47, 108, 97, 119, 115, 46, 70, 110, 69, 120, 97, 99, 116, 80, 111, 119, 101, 114, 79, 102], [108, 111, 111, 112, 46, 101, 120, 97, 109, 112, 108, 101, 47, 103, 48, 49, 50, 52, 53, 47, 108, 97, 119, 115, 46, 70, 110, 69, 120, 97, 99, 116, 80, 114, 105, 109, 105, 116, 105, 118, 101, 79, 102], [108, 111, 111, 112, 46, 101, 120, 97, 109, 112, 108, 101, 47, 103, 48, 49, 50, 52, 53, 47, 108, 97, 119, 115, 46, 70, 110, 69, 120, 97, 99, 116, 73, 115, 83, 107, 101, 119], [108, 111, 111, 112, 46, 101, 120, 97, 109, 112, 108, 101, 47, 103, 48, 49, 50, 52, 53, 47, 108, 97, 119, 115, 46, 70, 110, 69, 120, 97, 99, 116, 83, 107, 101, 119, 68, 101, 103, 114, 101, 101], [108, 111, 111, 112, 46, 101, 120, 97, 109, 112, 108, 101, 47, 103, 48, 49, 50, 52, 53, 47, 108, 97, 119, 115, 46, 70, 110, 69, 120, 97, 99, 116, 65, 100, 100, 83, 107, 101, 119, 115], [108, 111, 111, 112, 46, 101, 120, 97, 109, 112, 108, 101, 47, 103, 48, 49, 50, 52, 53, 47, 108, 97, 119, 115, 46, 70, 110, 69, 120, 97, 99, 116, 77, 117, 108, 116, 105, 112, 108, 121, 83, 107, 101, 119, 115], [108, 111, 111, 112, 46, 101, 120, 97, 109, 112, 108, 101, 47, 103, 48, 49, 50, 52, 53, 47, 108, 97, 119, 115, 46, 70, 110, 69, 120, 97, 99, 116, 86, 97, 108, 117, 101, 79, 102, 83, 107, 101, 119], [108, 111, 111, 112, 46, 101, 120, 97, 109, 112, 108, 101, 47, 103, 48, 49, 50, 52, 53, 47, 108, 97, 119, 115, 46, 70, 110, 69, 120, 97, 99, 116, 65, 100, 100, 65, 99, 116, 105, 111, 110, 115], [108, 111, 111, 112, 46, 101, 120, 97, 109, 112, 108, 101, 47, 103, 48, 49, 50, 52, 53, 47, 108, 97, 119, 115, 46, 70, 110, 69, 120, 97, 99, 116, 65, 99, 116, 79, 110, 82, 101, 115, 105, 100, 117, 101], [108, 111, 111, 112, 46, 101, 120, 97, 109, 112, 108, 101, 47, 103, 48, 49, 50, 52, 53, 47, 108, 97, 119, 115, 46, 70, 110, 69, 120, 97, 99, 116, 65, 110, 110, 105, 104, 105, 108, 97, 116, 111, 114, 79, 102], [108, 111, 111, 112, 46, 101, 120, 97, 109, 112, 108, 101, 47, 103, 48, 49, 50, 52, 53, 47, 108, 97, 119, 115, 46, 70, 110, 69, 120, 97, 99, 116, 69, 120, 112, 111, 110, 101, 110, 116, 79, 102], [108, 111, 111, 112, 46, 101, 120, 97, 109, 112, 108, 101, 47, 103, 48, 49, 50, 52, 53, 47, 108, 97, 119, 115, 46, 70, 110, 69, 120, 97, 99, 116, 84, 111, 114, 115, 105, 111, 110, 78, 117, 109, 98, 101, 114], [108, 111, 111, 112, 46, 101, 120, 97, 109, 112, 108, 101, 47, 103, 48, 49, 50, 52, 53, 47, 108, 97, 119, 115, 46, 70, 110, 69, 120, 97, 99, 116, 68, 101, 101, 112, 82, 101, 115, 116], [108, 111, 111, 112, 46, 101, 120, 97, 109, 112, 108, 101, 47, 103, 48, 49, 50, 52, 53, 47, 108, 97, 119, 115, 46, 70, 110, 69, 120, 97, 99, 116, 66, 114, 97, 99, 107, 101, 116, 79, 102], [108, 111, 111, 112, 46, 101, 120, 97, 109, 112, 108, 101, 47, 103, 48, 49, 50, 52, 53, 47, 108, 97, 119, 115, 46, 70, 110, 69, 120, 97, 99, 116, 70, 105, 114, 115, 116, 70, 97, 99, 116, 111, 114, 105, 97, 108], [108, 111, 111, 112, 46, 101, 120, 97, 109, 112, 108, 101, 47, 103, 48, 49, 50, 52, 53, 47, 108, 97, 119, 115, 46, 70, 110, 69, 120, 97, 99, 116, 83, 101, 99, 111, 110, 100, 70, 97, 99, 116, 111, 114, 105, 97, 108], [108, 111, 111, 112, 46, 101, 120, 97, 109, 112, 108, 101, 47, 103, 48, 49, 50, 52, 53, 47, 108, 97, 119, 115, 46, 70, 110, 69, 120, 97, 99, 116, 65, 99, 116, 105, 111, 110, 79, 102], [108, 111, 111, 112, 46, 101, 120, 97, 109, 112, 108, 101, 47, 103, 48, 49, 50, 52, 53, 47, 108, 97, 119, 115, 46, 70, 110, 69, 120, 97, 99, 116, 67, 111, 109, 112, 111, 115, 101, 65, 99, 116, 105, 111, 110, 115], [108, 111, 111, 112, 46, 101, 120, 97, 109, 112, 108, 101, 47, 103, 48, 49, 50, 52, 53, 47, 108, 97, 119, 115, 46, 70, 110, 69, 120, 97, 99, 116, 66, 105, 110, 111, 109, 105, 97, 108, 79, 102], [108, 111, 111, 112, 46, 101, 120, 97, 109, 112, 108, 101, 47, 103, 48, 49, 50, 52, 53, 47, 108, 97, 119, 115, 46, 70, 110, 69, 120, 97, 99, 116, 67, 97, 114, 108, 105, 116, 122, 70, 97, 99, 116, 111, 114, 105, 97, 108]]
theorem init_split : behindMainWord (wordsSigns (initSigns.map Char.ofNat)) = cutW :: initRest.map (fun w => w.map Char.ofNat) := by kernel_rfl
theorem init_order : Try.prog.initOrder = String.ofList (initSigns.map Char.ofNat) := by kernel_rfl
theorem init_cut : behindMainWord (wordsSigns Try.prog.initOrder.toList) = cutW :: initRest.map (fun w => w.map Char.ofNat) :=
  (congrArg (fun s : String => behindMainWord (wordsSigns s.toList)) init_order).trans ((congrArg (fun l => behindMainWord (wordsSigns l)) String.toList_ofList).trans init_split)
theorem Try.laysLater : Try.prog.laysLater = false := by kernel_rfl
theorem Try.bearsReflect : Try.prog.bearsReflect = false := by kernel_rfl
theorem Try.doorFits : Try.prog.doorFits [] = true := by kernel_rfl
theorem Try.mayEnter : Try.pinned.checked.prog.mayEnter = true := mayEnter_cut init_cut Try.laysLater Try.bearsReflect Try.doorFits
theorem Try.liftsFinal : Try.pinned.checked.prog.liftsFinal = false := lifts_cut init_cut
theorem Try.make : Try.pinned.checked.prog.make = some .cut := make_cut init_cut
end Go.Proofs.Ytbjpkmbhbpcbgaa
end
