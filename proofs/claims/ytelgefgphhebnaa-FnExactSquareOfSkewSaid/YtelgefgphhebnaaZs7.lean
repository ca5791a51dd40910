/-
  What the rows of this claim rest on: arrays of bytes, walks of the functions, plain mathematics.
-/
import Derived.Test.YtelgefgphhebnaaZs6
import Derived.Handy
import Derived.Laws.MakeOwn
section
namespace Go.Proofs.Ytelgefgphhebnaa
open Go Go.RowKit
set_option linter.unusedVariables false
set_option linter.unusedSimpArgs false
attribute [local irreducible] deg addK okA flV
/-- a residue -/
noncomputable def rsB (p : Int) (m x : Nat → Nat) : Bool := okA p x && decide (deg x < deg m)
theorem rsB_1 {p : Int} {m x : Nat → Nat} (h : okA p x = false) : rsB p m x = false := by unfold rsB; rw [h]; rfl
theorem rsB_2 {p : Int} {m x : Nat → Nat} (h : okA p x = true) (h2 : deg x < deg m) : rsB p m x = true := by unfold rsB; rw [h]; simpa using h2
theorem rsB_3 {p : Int} {m x : Nat → Nat} (h : okA p x = true) (h2 : ¬ deg x < deg m) : rsB p m x = false := by unfold rsB; rw [h]; simpa using h2
/-- a skew polynomial -/
noncomputable def skB (p : Int) (m : Nat → Nat) (F : Nat → Nat → Nat) : Bool := (List.range 8).all fun i => rsB p m (F i)
theorem skB_yes {p : Int} {m : Nat → Nat} {F : Nat → Nat → Nat} (h : ∀ i, i < 8 → rsB p m (F i) = true) : skB p m F = true := by
 unfold skB; rw [List.all_eq_true]; intro i hi; exact h i (by simpa using hi)
theorem skB_no {p : Int} {m : Nat → Nat} {F : Nat → Nat → Nat} {i : Nat} (hi : i < 8) (h : rsB p m (F i) = false) : skB p m F = false := by
 cases h2 : skB p m F with
 | false => rfl
 | true =>
  unfold skB at h2; rw [List.all_eq_true] at h2
  have := h2 i (by simpa using hi)
  rw [h] at this; cases this
theorem skB_at {p : Int} {m : Nat → Nat} {F : Nat → Nat → Nat} (h : skB p m F = true) {i : Nat} (hi : i < 8) : rsB p m (F i) = true := by
 unfold skB at h; rw [List.all_eq_true] at h; exact h i (by simpa using hi)
/-- the code of a field and skew polynomials -/
noncomputable def ckS (p : Int) (m : Nat → Nat) (Fs : List (Nat → Nat → Nat)) : Int := if flV p m = true ∧ (∀ F, F ∈ Fs → skB p m F = true) then 0 else 1
theorem ckS_f {p : Int} {m : Nat → Nat} {Fs : List (Nat → Nat → Nat)} (h : flV p m = false) : ckS p m Fs = 1 := if_neg (fun a => by rw [h] at a; exact absurd a.1 (by simp))
theorem ckS_no {p : Int} {m : Nat → Nat} {Fs : List (Nat → Nat → Nat)} {F : Nat → Nat → Nat} {j : Nat} (hj : Fs[j]? = some F) (h : skB p m F = false) : ckS p m Fs = 1 := if_neg (fun a => by
 have := a.2 F (List.mem_of_getElem? hj); rw [h] at this; cases this)
theorem ckS_yes {p : Int} {m : Nat → Nat} {Fs : List (Nat → Nat → Nat)} (h : flV p m = true) (h2 : ∀ (i : Nat) (F : Nat → Nat → Nat), Fs[i]? = some F → skB p m F = true) : ckS p m Fs = 0 := if_pos ⟨h, fun F hF => by
 obtain ⟨i, hi, e⟩ := List.getElem_of_mem hF
 exact h2 i F (by rw [← e]; exact List.getElem?_eq_getElem hi)⟩
theorem ckS_two (p : Int) (m : Nat → Nat) (Fs : List (Nat → Nat → Nat)) : ckS p m Fs = 0 ∨ ckS p m Fs = 1 := by unfold ckS; split <;> simp
theorem ckS_zero {p : Int} {m : Nat → Nat} {Fs : List (Nat → Nat → Nat)} (h : ckS p m Fs = 0) : flV p m = true ∧ ∀ F, F ∈ Fs → skB p m F = true := by
 unfold ckS at h
 by_cases a : flV p m = true ∧ (∀ F, F ∈ Fs → skB p m F = true)
 · exact a
 · rw [if_neg a] at h; omega
attribute [irreducible] rsB skB ckS
set_option maxRecDepth 100000 in
set_option maxHeartbeats 1600000 in
theorem l03Residue_any (p : Int) (m x : Nat → Nat) (hm : byte m) (hx : byte x) (w : World) :
 Calls Try.prog 95 #[.int .i64 p, .agg (zb 64 m), .agg (zb 64 x)] w fun e w' => e = .returned (.bool (rsB p m x)) ∧ Below w.heap.size w w' := by
 go_enter Try.func95, Try.ntmps95
 go_upto_region 1 with (fail)
 obtain ⟨W1, hwo⟩ : ∃ v : World, v = ((w.alloc (.cells (zb 64 (m)) 28)).alloc (.cells (zb 64 (x)) 28)) := ⟨_, rfl⟩
 have B0 : Blk W1 (w.heap.size) 64 28 (m) := by subst hwo; have := ((Blk.new w 64 28 (m)).alloc (.cells (zb 64 (x)) 28)); simpa using this
 have B1 : Blk W1 (w.heap.size + 1) 64 28 (x) := by subst hwo; have := (Blk.new (w.alloc (.cells (zb 64 (m)) 28)) 64 28 (x)); simpa using this
 have hb : Below w.heap.size w W1 := by subst hwo; exact (((Below.refl _ _).alloc (Nat.le_refl _) _).alloc (by simp) _)
 rw [← hwo]
 clear hwo
 cases ho : okA p x with
 | false =>
  have HV := Lib.hid (rsB_1 (m := m) ho)
  have HOK := Lib.hid (fun W => l01Is_any p x hx W)
  rw [ho] at HOK
  have HDG := Lib.hid (fun f W => l01Deg_any f W)
  clear ho
  have lt_B0 : (w.heap.size) < W1.heap.size := B0.lt
  have lt_B1 : (w.heap.size + 1) < W1.heap.size := B1.lt
  have hbase : w.heap.size ≤ W1.heap.size := hb.size
  refine wp_region_stepsG Try.mixed (by kernel_rfl) (by kernel_rfl) (fun v => by (simp only [frL, Act.put, pA, pB, pC, Nat.reduceAdd, Nat.zero_add]; exact rfl))
   (fun L v W2 => Below w.heap.size w W2 ∧ W1.heap.size ≤ W2.heap.size ∧ Blk W2 (w.heap.size) 64 28 (m) ∧ Blk W2 (w.heap.size + 1) 64 28 (x) ∧ VF L v [some (.int .i64 p), some (.agg (zb 64 (x))), some (.bool false), some (.bool false), some undef, some undef, some undef, some undef, some undef, some (.bool false), some (.bool false)]) ?_ ?_ ?_
  · intro v hv0
    exact ⟨hb.drew, Nat.le_refl _, B0.drew, B1.drew, VF.start⟩
  · refine (.cons ?_ (.cons ?_ (.cons ?_ (.cons ?_ (.cons ?_ (.cons ?_ (.cons ?_ (.cons ?_ (.cons ?_ (.cons ?_ (.cons ?_ (.nil _))))))))))))
    · intro L v W2 hd hn ⟨hB, hz, s0, s1, V⟩ K hK
      rw [if_pos (by simp [Region.wanted])]
      go_wp2_with fail
      exact hK _ (.int .i64 p) _ (by simp only [Act.put, pA, pB, pC ]) ⟨hB, hz, s0, s1, V.step 0 rfl⟩
    · intro L v W2 hd hn ⟨hB, hz, s0, s1, V⟩ K hK
      rw [if_pos (by simp [Region.wanted])]
      refine zlc s1 Try.underlying28 Try.size28 ?_
      exact hK _ _ _ rfl ⟨hB, hz, s0, s1, V.step 1 rfl⟩
    · intro L v W2 hd hn ⟨hB, hz, s0, s1, V⟩ K hK
      have e0 := V.at (zdq hd 0 rfl) rfl
      have e1 := V.at (zdq hd 1 rfl) rfl
      rw [if_pos (by simp [Region.wanted])]
      go_wp2_with (go_at_call 133; refine (HOK.out _).mono ?_; rintro e wy ⟨rfl, hy⟩)
      exact hK _ (.bool false) _ (by simp only [Act.put, pA, pB, pC, e0, e1]) ⟨hB.trans (hy.mono hB.size), (Nat.le_trans hz hy.size), s0.zw hy, s1.zw hy, V.step 2 rfl⟩
    · intro L v W2 hd hn ⟨hB, hz, s0, s1, V⟩ K hK
      have e2 := V.at (zdq hd 2 rfl) rfl
      rw [if_pos (by simp [Region.wanted])]
      go_wp2_with fail
      exact hK _ (.bool false) _ (by simp only [Act.put, pA, pB, pC, e2]) ⟨hB, hz, s0, s1, V.step 3 rfl⟩
    · intro L v W2 hd hn ⟨hB, hz, s0, s1, V⟩ K hK
      have e3 := V.at (zdq hd 3 rfl) rfl
      rw [if_neg (by simp [Region.wanted, yielded, e3])]
      exact hK _ undef _ rfl ⟨hB, hz, s0, s1, V.step 4 rfl⟩
    · intro L v W2 hd hn ⟨hB, hz, s0, s1, V⟩ K hK
      have e4 := V.at (zdq hd 4 rfl) rfl
      have e3 := V.at (zdq hd 3 rfl) rfl
      rw [if_neg (by simp [Region.wanted, yielded, e3])]
      exact hK _ undef _ rfl ⟨hB, hz, s0, s1, V.step 5 rfl⟩
    · intro L v W2 hd hn ⟨hB, hz, s0, s1, V⟩ K hK
      have e3 := V.at (zdq hd 3 rfl) rfl
      rw [if_neg (by simp [Region.wanted, yielded, e3])]
      exact hK _ undef _ rfl ⟨hB, hz, s0, s1, V.step 6 rfl⟩
    · intro L v W2 hd hn ⟨hB, hz, s0, s1, V⟩ K hK
      have e6 := V.at (zdq hd 6 rfl) rfl
      have e3 := V.at (zdq hd 3 rfl) rfl
      rw [if_neg (by simp [Region.wanted, yielded, e3])]
      exact hK _ undef _ rfl ⟨hB, hz, s0, s1, V.step 7 rfl⟩
    · intro L v W2 hd hn ⟨hB, hz, s0, s1, V⟩ K hK
      have e5 := V.at (zdq hd 5 rfl) rfl
      have e7 := V.at (zdq hd 7 rfl) rfl
      have e3 := V.at (zdq hd 3 rfl) rfl
      rw [if_neg (by simp [Region.wanted, yielded, e3])]
      exact hK _ undef _ rfl ⟨hB, hz, s0, s1, V.step 8 rfl⟩
    · intro L v W2 hd hn ⟨hB, hz, s0, s1, V⟩ K hK
      have e3 := V.at (zdq hd 3 rfl) rfl
      have e8 := V.at (zdq hd 8 rfl) rfl
      rw [if_pos (by simp [Region.wanted])]
      go_wp2_with fail
      exact hK _ (.bool false) _ (by simp only [Act.put, pA, pB, pC, e3, e8]) ⟨hB, hz, s0, s1, V.step 9 rfl⟩
    · intro L v W2 hd hn ⟨hB, hz, s0, s1, V⟩ K hK
      have e9 := V.at (zdq hd 9 rfl) rfl
      rw [if_pos (by simp [Region.wanted])]
      go_wp2_with fail
      exact hK _ (.bool false) _ (by simp only [Act.put, pA, pB, pC, e9]) ⟨hB, hz, s0, s1, V.step 10 rfl⟩
  · intro L v W2 hL ⟨hB, hz, s0, s1, V⟩
    have e0 := V.at (hL 0 (by decide)) rfl
    have e1 := V.at (hL 1 (by decide)) rfl
    have e2 := V.at (hL 2 (by decide)) rfl
    have e3 := V.at (hL 3 (by decide)) rfl
    have e4 := V.at (hL 4 (by decide)) rfl
    have e5 := V.at (hL 5 (by decide)) rfl
    have e6 := V.at (hL 6 (by decide)) rfl
    have e7 := V.at (hL 7 (by decide)) rfl
    have e8 := V.at (hL 8 (by decide)) rfl
    have e9 := V.at (hL 9 (by decide)) rfl
    have e10 := V.at (hL 10 (by decide)) rfl
    clear hL V
    simp only [Exit.then, e0, e1, e2, e3, e4, e5, e6, e7, e8, e9, e10]
    clear e0 e1 e2 e3 e4 e5 e6 e7 e8 e9 e10
    replace B0 := s0
    clear s0
    replace B1 := s1
    clear s1
    replace hb := hB
    clear hB
    clear hbase hz lt_B0 lt_B1
    go_wp2_with fail
    go_ret
    exact ⟨by rw [HV.out]; rfl, hb⟩
 | true =>
  by_cases hlt : deg x < deg m
  · skip
    have HV := Lib.hid (rsB_2 ho hlt)
    have HOK := Lib.hid (fun W => l01Is_any p x hx W)
    rw [ho] at HOK
    have HDG := Lib.hid (fun f W => l01Deg_any f W)
    clear ho
    have lt_B0 : (w.heap.size) < W1.heap.size := B0.lt
    have lt_B1 : (w.heap.size + 1) < W1.heap.size := B1.lt
    have hbase : w.heap.size ≤ W1.heap.size := hb.size
    refine wp_region_stepsG Try.mixed (by kernel_rfl) (by kernel_rfl) (fun v => by (simp only [frL, Act.put, pA, pB, pC, Nat.reduceAdd, Nat.zero_add]; exact rfl))
     (fun L v W2 => Below w.heap.size w W2 ∧ W1.heap.size ≤ W2.heap.size ∧ Blk W2 (w.heap.size) 64 28 (m) ∧ Blk W2 (w.heap.size + 1) 64 28 (x) ∧ VF L v [some (.int .i64 p), some (.agg (zb 64 (x))), some (.bool true), some (.bool true), some (.agg (zb 64 (x))), some (.int .i64 (deg x)), some (.agg (zb 64 (m))), some (.int .i64 (deg m)), some (.bool true), some (.bool true), some (.bool true)]) ?_ ?_ ?_
    · intro v hv0
      exact ⟨hb.drew, Nat.le_refl _, B0.drew, B1.drew, VF.start⟩
    · refine (.cons ?_ (.cons ?_ (.cons ?_ (.cons ?_ (.cons ?_ (.cons ?_ (.cons ?_ (.cons ?_ (.cons ?_ (.cons ?_ (.cons ?_ (.nil _))))))))))))
      · intro L v W2 hd hn ⟨hB, hz, s0, s1, V⟩ K hK
        rw [if_pos (by simp [Region.wanted])]
        go_wp2_with fail
        exact hK _ (.int .i64 p) _ (by simp only [Act.put, pA, pB, pC ]) ⟨hB, hz, s0, s1, V.step 0 rfl⟩
      · intro L v W2 hd hn ⟨hB, hz, s0, s1, V⟩ K hK
        rw [if_pos (by simp [Region.wanted])]
        refine zlc s1 Try.underlying28 Try.size28 ?_
        exact hK _ _ _ rfl ⟨hB, hz, s0, s1, V.step 1 rfl⟩
      · intro L v W2 hd hn ⟨hB, hz, s0, s1, V⟩ K hK
        have e0 := V.at (zdq hd 0 rfl) rfl
        have e1 := V.at (zdq hd 1 rfl) rfl
        rw [if_pos (by simp [Region.wanted])]
        go_wp2_with (go_at_call 133; refine (HOK.out _).mono ?_; rintro e wy ⟨rfl, hy⟩)
        exact hK _ (.bool true) _ (by simp only [Act.put, pA, pB, pC, e0, e1]) ⟨hB.trans (hy.mono hB.size), (Nat.le_trans hz hy.size), s0.zw hy, s1.zw hy, V.step 2 rfl⟩
      · intro L v W2 hd hn ⟨hB, hz, s0, s1, V⟩ K hK
        have e2 := V.at (zdq hd 2 rfl) rfl
        rw [if_pos (by simp [Region.wanted])]
        go_wp2_with fail
        exact hK _ (.bool true) _ (by simp only [Act.put, pA, pB, pC, e2]) ⟨hB, hz, s0, s1, V.step 3 rfl⟩
      · intro L v W2 hd hn ⟨hB, hz, s0, s1, V⟩ K hK
        have e3 := V.at (zdq hd 3 rfl) rfl
        rw [if_pos (by simp [Region.wanted, yielded, e3])]
        refine zlc s1 Try.underlying28 Try.size28 ?_
        exact hK _ _ _ rfl ⟨hB, hz, s0, s1, V.step 4 rfl⟩
      · intro L v W2 hd hn ⟨hB, hz, s0, s1, V⟩ K hK
        have e4 := V.at (zdq hd 4 rfl) rfl
        have e3 := V.at (zdq hd 3 rfl) rfl
        rw [if_pos (by simp [Region.wanted, yielded, e3])]
        go_wp2_with (go_at_call 106; refine (HDG.out _ _).mono ?_; rintro e wy ⟨rfl, hy⟩)
        exact hK _ (.int .i64 (deg x)) _ (by simp only [Act.put, pA, pB, pC, e4, e3]) ⟨hB.trans (hy.mono hB.size), (Nat.le_trans hz hy.size), s0.zw hy, s1.zw hy, V.step 5 rfl⟩
      · intro L v W2 hd hn ⟨hB, hz, s0, s1, V⟩ K hK
        have e3 := V.at (zdq hd 3 rfl) rfl
        rw [if_pos (by simp [Region.wanted, yielded, e3])]
        refine zlc s0 Try.underlying28 Try.size28 ?_
        exact hK _ _ _ rfl ⟨hB, hz, s0, s1, V.step 6 rfl⟩
      · intro L v W2 hd hn ⟨hB, hz, s0, s1, V⟩ K hK
        have e6 := V.at (zdq hd 6 rfl) rfl
        have e3 := V.at (zdq hd 3 rfl) rfl
        rw [if_pos (by simp [Region.wanted, yielded, e3])]
        go_wp2_with (go_at_call 106; refine (HDG.out _ _).mono ?_; rintro e wy ⟨rfl, hy⟩)
        exact hK _ (.int .i64 (deg m)) _ (by simp only [Act.put, pA, pB, pC, e6, e3]) ⟨hB.trans (hy.mono hB.size), (Nat.le_trans hz hy.size), s0.zw hy, s1.zw hy, V.step 7 rfl⟩
      · intro L v W2 hd hn ⟨hB, hz, s0, s1, V⟩ K hK
        have e5 := V.at (zdq hd 5 rfl) rfl
        have e7 := V.at (zdq hd 7 rfl) rfl
        have e3 := V.at (zdq hd 3 rfl) rfl
        rw [if_pos (by simp [Region.wanted, yielded, e3])]
        go_wp2_with fail
        exact hK _ (.bool true) _ (by simp only [Act.put, pA, pB, pC, e5, e7, e3]) ⟨hB, hz, s0, s1, V.step 8 rfl⟩
      · intro L v W2 hd hn ⟨hB, hz, s0, s1, V⟩ K hK
        have e3 := V.at (zdq hd 3 rfl) rfl
        have e8 := V.at (zdq hd 8 rfl) rfl
        rw [if_pos (by simp [Region.wanted])]
        go_wp2_with fail
        exact hK _ (.bool true) _ (by simp only [Act.put, pA, pB, pC, e3, e8]) ⟨hB, hz, s0, s1, V.step 9 rfl⟩
      · intro L v W2 hd hn ⟨hB, hz, s0, s1, V⟩ K hK
        have e9 := V.at (zdq hd 9 rfl) rfl
        rw [if_pos (by simp [Region.wanted])]
        go_wp2_with fail
        exact hK _ (.bool true) _ (by simp only [Act.put, pA, pB, pC, e9]) ⟨hB, hz, s0, s1, V.step 10 rfl⟩
    · intro L v W2 hL ⟨hB, hz, s0, s1, V⟩
      have e0 := V.at (hL 0 (by decide)) rfl
      have e1 := V.at (hL 1 (by decide)) rfl
      have e2 := V.at (hL 2 (by decide)) rfl
      have e3 := V.at (hL 3 (by decide)) rfl
      have e4 := V.at (hL 4 (by decide)) rfl
      have e5 := V.at (hL 5 (by decide)) rfl
      have e6 := V.at (hL 6 (by decide)) rfl
      have e7 := V.at (hL 7 (by decide)) rfl
      have e8 := V.at (hL 8 (by decide)) rfl
      have e9 := V.at (hL 9 (by decide)) rfl
      have e10 := V.at (hL 10 (by decide)) rfl
      clear hL V
      simp only [Exit.then, e0, e1, e2, e3, e4, e5, e6, e7, e8, e9, e10]
      clear e0 e1 e2 e3 e4 e5 e6 e7 e8 e9 e10
      replace B0 := s0
      clear s0
      replace B1 := s1
      clear s1
      replace hb := hB
      clear hB
      clear hbase hz lt_B0 lt_B1
      go_wp2_with fail
      go_ret
      exact ⟨by rw [HV.out]; rfl, hb⟩
  · skip
    have HV := Lib.hid (rsB_3 ho hlt)
    have HOK := Lib.hid (fun W => l01Is_any p x hx W)
    rw [ho] at HOK
    have HDG := Lib.hid (fun f W => l01Deg_any f W)
    clear ho
    have lt_B0 : (w.heap.size) < W1.heap.size := B0.lt
    have lt_B1 : (w.heap.size + 1) < W1.heap.size := B1.lt
    have hbase : w.heap.size ≤ W1.heap.size := hb.size
    refine wp_region_stepsG Try.mixed (by kernel_rfl) (by kernel_rfl) (fun v => by (simp only [frL, Act.put, pA, pB, pC, Nat.reduceAdd, Nat.zero_add]; exact rfl))
     (fun L v W2 => Below w.heap.size w W2 ∧ W1.heap.size ≤ W2.heap.size ∧ Blk W2 (w.heap.size) 64 28 (m) ∧ Blk W2 (w.heap.size + 1) 64 28 (x) ∧ VF L v [some (.int .i64 p), some (.agg (zb 64 (x))), some (.bool true), some (.bool true), some (.agg (zb 64 (x))), some (.int .i64 (deg x)), some (.agg (zb 64 (m))), some (.int .i64 (deg m)), some (.bool false), some (.bool false), some (.bool false)]) ?_ ?_ ?_
    · intro v hv0
      exact ⟨hb.drew, Nat.le_refl _, B0.drew, B1.drew, VF.start⟩
    · refine (.cons ?_ (.cons ?_ (.cons ?_ (.cons ?_ (.cons ?_ (.cons ?_ (.cons ?_ (.cons ?_ (.cons ?_ (.cons ?_ (.cons ?_ (.nil _))))))))))))
      · intro L v W2 hd hn ⟨hB, hz, s0, s1, V⟩ K hK
        rw [if_pos (by simp [Region.wanted])]
        go_wp2_with fail
        exact hK _ (.int .i64 p) _ (by simp only [Act.put, pA, pB, pC ]) ⟨hB, hz, s0, s1, V.step 0 rfl⟩
      · intro L v W2 hd hn ⟨hB, hz, s0, s1, V⟩ K hK
        rw [if_pos (by simp [Region.wanted])]
        refine zlc s1 Try.underlying28 Try.size28 ?_
        exact hK _ _ _ rfl ⟨hB, hz, s0, s1, V.step 1 rfl⟩
      · intro L v W2 hd hn ⟨hB, hz, s0, s1, V⟩ K hK
        have e0 := V.at (zdq hd 0 rfl) rfl
        have e1 := V.at (zdq hd 1 rfl) rfl
        rw [if_pos (by simp [Region.wanted])]
        go_wp2_with (go_at_call 133; refine (HOK.out _).mono ?_; rintro e wy ⟨rfl, hy⟩)
        exact hK _ (.bool true) _ (by simp only [Act.put, pA, pB, pC, e0, e1]) ⟨hB.trans (hy.mono hB.size), (Nat.le_trans hz hy.size), s0.zw hy, s1.zw hy, V.step 2 rfl⟩
      · intro L v W2 hd hn ⟨hB, hz, s0, s1, V⟩ K hK
        have e2 := V.at (zdq hd 2 rfl) rfl
        rw [if_pos (by simp [Region.wanted])]
        go_wp2_with fail
        exact hK _ (.bool true) _ (by simp only [Act.put, pA, pB, pC, e2]) ⟨hB, hz, s0, s1, V.step 3 rfl⟩
      · intro L v W2 hd hn ⟨hB, hz, s0, s1, V⟩ K hK
        have e3 := V.at (zdq hd 3 rfl) rfl
        rw [if_pos (by simp [Region.wanted, yielded, e3])]
        refine zlc s1 Try.underlying28 Try.size28 ?_
        exact hK _ _ _ rfl ⟨hB, hz, s0, s1, V.step 4 rfl⟩
      · intro L v W2 hd hn ⟨hB, hz, s0, s1, V⟩ K hK
        have e4 := V.at (zdq hd 4 rfl) rfl
        have e3 := V.at (zdq hd 3 rfl) rfl
        rw [if_pos (by simp [Region.wanted, yielded, e3])]
        go_wp2_with (go_at_call 106; refine (HDG.out _ _).mono ?_; rintro e wy ⟨rfl, hy⟩)
        exact hK _ (.int .i64 (deg x)) _ (by simp only [Act.put, pA, pB, pC, e4, e3]) ⟨hB.trans (hy.mono hB.size), (Nat.le_trans hz hy.size), s0.zw hy, s1.zw hy, V.step 5 rfl⟩
      · intro L v W2 hd hn ⟨hB, hz, s0, s1, V⟩ K hK
        have e3 := V.at (zdq hd 3 rfl) rfl
        rw [if_pos (by simp [Region.wanted, yielded, e3])]
        refine zlc s0 Try.underlying28 Try.size28 ?_
        exact hK _ _ _ rfl ⟨hB, hz, s0, s1, V.step 6 rfl⟩
      · intro L v W2 hd hn ⟨hB, hz, s0, s1, V⟩ K hK
        have e6 := V.at (zdq hd 6 rfl) rfl
        have e3 := V.at (zdq hd 3 rfl) rfl
        rw [if_pos (by simp [Region.wanted, yielded, e3])]
        go_wp2_with (go_at_call 106; refine (HDG.out _ _).mono ?_; rintro e wy ⟨rfl, hy⟩)
        exact hK _ (.int .i64 (deg m)) _ (by simp only [Act.put, pA, pB, pC, e6, e3]) ⟨hB.trans (hy.mono hB.size), (Nat.le_trans hz hy.size), s0.zw hy, s1.zw hy, V.step 7 rfl⟩
      · intro L v W2 hd hn ⟨hB, hz, s0, s1, V⟩ K hK
        have e5 := V.at (zdq hd 5 rfl) rfl
        have e7 := V.at (zdq hd 7 rfl) rfl
        have e3 := V.at (zdq hd 3 rfl) rfl
        rw [if_pos (by simp [Region.wanted, yielded, e3])]
        go_wp2_with fail
        exact hK _ (.bool false) _ (by simp only [Act.put, pA, pB, pC, e5, e7, e3]) ⟨hB, hz, s0, s1, V.step 8 rfl⟩
      · intro L v W2 hd hn ⟨hB, hz, s0, s1, V⟩ K hK
        have e3 := V.at (zdq hd 3 rfl) rfl
        have e8 := V.at (zdq hd 8 rfl) rfl
        rw [if_pos (by simp [Region.wanted])]
        go_wp2_with fail
        exact hK _ (.bool false) _ (by simp only [Act.put, pA, pB, pC, e3, e8]) ⟨hB, hz, s0, s1, V.step 9 rfl⟩
      · intro L v W2 hd hn ⟨hB, hz, s0, s1, V⟩ K hK
        have e9 := V.at (zdq hd 9 rfl) rfl
        rw [if_pos (by simp [Region.wanted])]
        go_wp2_with fail
        exact hK _ (.bool false) _ (by simp only [Act.put, pA, pB, pC, e9]) ⟨hB, hz, s0, s1, V.step 10 rfl⟩
    · intro L v W2 hL ⟨hB, hz, s0, s1, V⟩
      have e0 := V.at (hL 0 (by decide)) rfl
      have e1 := V.at (hL 1 (by decide)) rfl
      have e2 := V.at (hL 2 (by decide)) rfl
      have e3 := V.at (hL 3 (by decide)) rfl
      have e4 := V.at (hL 4 (by decide)) rfl
      have e5 := V.at (hL 5 (by decide)) rfl
      have e6 := V.at (hL 6 (by decide)) rfl
      have e7 := V.at (hL 7 (by decide)) rfl
      have e8 := V.at (hL 8 (by decide)) rfl
      have e9 := V.at (hL 9 (by decide)) rfl
      have e10 := V.at (hL 10 (by decide)) rfl
      clear hL V
      simp only [Exit.then, e0, e1, e2, e3, e4, e5, e6, e7, e8, e9, e10]
      clear e0 e1 e2 e3 e4 e5 e6 e7 e8 e9 e10
      replace B0 := s0
      clear s0
      replace B1 := s1
      clear s1
      replace hb := hB
      clear hB
      clear hbase hz lt_B0 lt_B1
      go_wp2_with fail
      go_ret
      exact ⟨by rw [HV.out]; rfl, hb⟩
set_option maxRecDepth 100000 in
set_option maxHeartbeats 1600000 in
theorem isResidue_any (p : Int) (m x : Nat → Nat) (hm : byte m) (hx : byte x) (w : World) :
 Calls Try.prog 99 #[.agg (fdC p m).toArray, .agg (zb 64 x)] w fun e w' => e = .returned (.bool (rsB p m x)) ∧ Below w.heap.size w w' := by
 go_enter Try.func99, Try.ntmps99
 go_upto_region 1 with (fail)
 obtain ⟨W1, hwo⟩ : ∃ v : World, v = ((w.alloc (.cells (fdC p m).toArray 70)).alloc (.cells (zb 64 (x)) 28)) := ⟨_, rfl⟩
 have B0 : Row W1 (w.heap.size) 70 (fdC p m).toArray := by subst hwo; have := ((Row.new w 70 (fdC p m).toArray).alloc (.cells (zb 64 (x)) 28)); simpa using this
 have B1 : Blk W1 (w.heap.size + 1) 64 28 (x) := by subst hwo; have := (Blk.new (w.alloc (.cells (fdC p m).toArray 70)) 64 28 (x)); simpa using this
 have hb : Below w.heap.size w W1 := by subst hwo; exact (((Below.refl _ _).alloc (Nat.le_refl _) _).alloc (by simp) _)
 rw [← hwo]
 clear hwo
 cases ho : okA p x with
 | false =>
  have HV := Lib.hid (rsB_1 (m := m) ho)
  have HOK := Lib.hid (fun W => IsPoly_any p x hx W)
  rw [ho] at HOK
  have HDG := Lib.hid (fun f W => degree_any f W)
  clear ho
  have lt_B0 : (w.heap.size) < W1.heap.size := B0.lt
  have lt_B1 : (w.heap.size + 1) < W1.heap.size := B1.lt
  have hbase : w.heap.size ≤ W1.heap.size := hb.size
  refine wp_region_stepsG Try.mixed (by kernel_rfl) (by kernel_rfl) (fun v => by (simp only [frL, Act.put, pA, pB, pC, Nat.reduceAdd, Nat.zero_add]; exact rfl))
   (fun L v W2 => Below w.heap.size w W2 ∧ W1.heap.size ≤ W2.heap.size ∧ Row W2 (w.heap.size) 70 (fdC p m).toArray ∧ Blk W2 (w.heap.size + 1) 64 28 (x) ∧ VF L v [some (.pointer (some ⟨w.heap.size, 0, none⟩)), some (.int .i64 p), some (.agg (zb 64 (x))), some (.bool false), some (.bool false), some undef, some undef, some undef, some undef, some undef, some undef, some (.bool false), some (.bool false)]) ?_ ?_ ?_
  · intro v hv0
    exact ⟨hb.drew, Nat.le_refl _, B0.drew, B1.drew, VF.start⟩
  · refine (.cons ?_ (.cons ?_ (.cons ?_ (.cons ?_ (.cons ?_ (.cons ?_ (.cons ?_ (.cons ?_ (.cons ?_ (.cons ?_ (.cons ?_ (.cons ?_ (.cons ?_ (.nil _))))))))))))))
    · intro L v W2 hd hn ⟨hB, hz, s0, s1, V⟩ K hK
      rw [if_pos (by simp [Region.wanted])]
      go_wp2_with fail
      exact hK _ (.pointer (some ⟨w.heap.size, 0, none⟩)) _ (by simp only [Act.put, pA, pB, pC ]) ⟨hB, hz, s0, s1, V.step 0 rfl⟩
    · intro L v W2 hd hn ⟨hB, hz, s0, s1, V⟩ K hK
      have e0 := V.at (zdq hd 0 rfl) rfl
      rw [if_pos (by simp [Region.wanted])]
      have cc := s0.cell (i := 0) (v := .int .i64 p) (fdC_at p m)
      go_wp2_with fail
      exact hK _ (.int .i64 p) _ (by simp only [Act.put, pA, pB, pC, e0]) ⟨hB, hz, s0, s1, V.step 1 rfl⟩
    · intro L v W2 hd hn ⟨hB, hz, s0, s1, V⟩ K hK
      rw [if_pos (by simp [Region.wanted])]
      refine zlc s1 Try.underlying28 Try.size28 ?_
      exact hK _ _ _ rfl ⟨hB, hz, s0, s1, V.step 2 rfl⟩
    · intro L v W2 hd hn ⟨hB, hz, s0, s1, V⟩ K hK
      have e1 := V.at (zdq hd 1 rfl) rfl
      have e2 := V.at (zdq hd 2 rfl) rfl
      rw [if_pos (by simp [Region.wanted])]
      go_wp2_with (go_at_call 136; refine (HOK.out _).mono ?_; rintro e wy ⟨rfl, hy⟩)
      exact hK _ (.bool false) _ (by simp only [Act.put, pA, pB, pC, e1, e2]) ⟨hB.trans (hy.mono hB.size), (Nat.le_trans hz hy.size), s0.zw hy, s1.zw hy, V.step 3 rfl⟩
    · intro L v W2 hd hn ⟨hB, hz, s0, s1, V⟩ K hK
      have e3 := V.at (zdq hd 3 rfl) rfl
      rw [if_pos (by simp [Region.wanted])]
      go_wp2_with fail
      exact hK _ (.bool false) _ (by simp only [Act.put, pA, pB, pC, e3]) ⟨hB, hz, s0, s1, V.step 4 rfl⟩
    · intro L v W2 hd hn ⟨hB, hz, s0, s1, V⟩ K hK
      have e4 := V.at (zdq hd 4 rfl) rfl
      rw [if_neg (by simp [Region.wanted, yielded, e4])]
      exact hK _ undef _ rfl ⟨hB, hz, s0, s1, V.step 5 rfl⟩
    · intro L v W2 hd hn ⟨hB, hz, s0, s1, V⟩ K hK
      have e5 := V.at (zdq hd 5 rfl) rfl
      have e4 := V.at (zdq hd 4 rfl) rfl
      rw [if_neg (by simp [Region.wanted, yielded, e4])]
      exact hK _ undef _ rfl ⟨hB, hz, s0, s1, V.step 6 rfl⟩
    · intro L v W2 hd hn ⟨hB, hz, s0, s1, V⟩ K hK
      have e4 := V.at (zdq hd 4 rfl) rfl
      rw [if_neg (by simp [Region.wanted, yielded, e4])]
      exact hK _ undef _ rfl ⟨hB, hz, s0, s1, V.step 7 rfl⟩
    · intro L v W2 hd hn ⟨hB, hz, s0, s1, V⟩ K hK
      have e7 := V.at (zdq hd 7 rfl) rfl
      have e4 := V.at (zdq hd 4 rfl) rfl
      rw [if_neg (by simp [Region.wanted, yielded, e4])]
      exact hK _ undef _ rfl ⟨hB, hz, s0, s1, V.step 8 rfl⟩
    · intro L v W2 hd hn ⟨hB, hz, s0, s1, V⟩ K hK
      have e8 := V.at (zdq hd 8 rfl) rfl
      have e4 := V.at (zdq hd 4 rfl) rfl
      rw [if_neg (by simp [Region.wanted, yielded, e4])]
      exact hK _ undef _ rfl ⟨hB, hz, s0, s1, V.step 9 rfl⟩
    · intro L v W2 hd hn ⟨hB, hz, s0, s1, V⟩ K hK
      have e6 := V.at (zdq hd 6 rfl) rfl
      have e9 := V.at (zdq hd 9 rfl) rfl
      have e4 := V.at (zdq hd 4 rfl) rfl
      rw [if_neg (by simp [Region.wanted, yielded, e4])]
      exact hK _ undef _ rfl ⟨hB, hz, s0, s1, V.step 10 rfl⟩
    · intro L v W2 hd hn ⟨hB, hz, s0, s1, V⟩ K hK
      have e4 := V.at (zdq hd 4 rfl) rfl
      have e10 := V.at (zdq hd 10 rfl) rfl
      rw [if_pos (by simp [Region.wanted])]
      go_wp2_with fail
      exact hK _ (.bool false) _ (by simp only [Act.put, pA, pB, pC, e4, e10]) ⟨hB, hz, s0, s1, V.step 11 rfl⟩
    · intro L v W2 hd hn ⟨hB, hz, s0, s1, V⟩ K hK
      have e11 := V.at (zdq hd 11 rfl) rfl
      rw [if_pos (by simp [Region.wanted])]
      go_wp2_with fail
      exact hK _ (.bool false) _ (by simp only [Act.put, pA, pB, pC, e11]) ⟨hB, hz, s0, s1, V.step 12 rfl⟩
  · intro L v W2 hL ⟨hB, hz, s0, s1, V⟩
    have e0 := V.at (hL 0 (by decide)) rfl
    have e1 := V.at (hL 1 (by decide)) rfl
    have e2 := V.at (hL 2 (by decide)) rfl
    have e3 := V.at (hL 3 (by decide)) rfl
    have e4 := V.at (hL 4 (by decide)) rfl
    have e5 := V.at (hL 5 (by decide)) rfl
    have e6 := V.at (hL 6 (by decide)) rfl
    have e7 := V.at (hL 7 (by decide)) rfl
    have e8 := V.at (hL 8 (by decide)) rfl
    have e9 := V.at (hL 9 (by decide)) rfl
    have e10 := V.at (hL 10 (by decide)) rfl
    have e11 := V.at (hL 11 (by decide)) rfl
    have e12 := V.at (hL 12 (by decide)) rfl
    clear hL V
    simp only [Exit.then, e0, e1, e2, e3, e4, e5, e6, e7, e8, e9, e10, e11, e12]
    clear e0 e1 e2 e3 e4 e5 e6 e7 e8 e9 e10 e11 e12
    replace B0 := s0
    clear s0
    replace B1 := s1
    clear s1
    replace hb := hB
    clear hB
    clear hbase hz lt_B0 lt_B1
    go_wp2_with fail
    go_ret
    exact ⟨by rw [HV.out]; rfl, hb⟩
 | true =>
  by_cases hlt : deg x < deg m
  · skip
    have HV := Lib.hid (rsB_2 ho hlt)
    have HOK := Lib.hid (fun W => IsPoly_any p x hx W)
    rw [ho] at HOK
    have HDG := Lib.hid (fun f W => degree_any f W)
    clear ho
    have lt_B0 : (w.heap.size) < W1.heap.size := B0.lt
    have lt_B1 : (w.heap.size + 1) < W1.heap.size := B1.lt
    have hbase : w.heap.size ≤ W1.heap.size := hb.size
    refine wp_region_stepsG Try.mixed (by kernel_rfl) (by kernel_rfl) (fun v => by (simp only [frL, Act.put, pA, pB, pC, Nat.reduceAdd, Nat.zero_add]; exact rfl))
     (fun L v W2 => Below w.heap.size w W2 ∧ W1.heap.size ≤ W2.heap.size ∧ Row W2 (w.heap.size) 70 (fdC p m).toArray ∧ Blk W2 (w.heap.size + 1) 64 28 (x) ∧ VF L v [some (.pointer (some ⟨w.heap.size, 0, none⟩)), some (.int .i64 p), some (.agg (zb 64 (x))), some (.bool true), some (.bool true), some (.agg (zb 64 (x))), some (.int .i64 (deg x)), some (.pointer (some ⟨w.heap.size, 1, none⟩)), some (.agg (zb 64 (m))), some (.int .i64 (deg m)), some (.bool true), some (.bool true), some (.bool true)]) ?_ ?_ ?_
    · intro v hv0
      exact ⟨hb.drew, Nat.le_refl _, B0.drew, B1.drew, VF.start⟩
    · refine (.cons ?_ (.cons ?_ (.cons ?_ (.cons ?_ (.cons ?_ (.cons ?_ (.cons ?_ (.cons ?_ (.cons ?_ (.cons ?_ (.cons ?_ (.cons ?_ (.cons ?_ (.nil _))))))))))))))
      · intro L v W2 hd hn ⟨hB, hz, s0, s1, V⟩ K hK
        rw [if_pos (by simp [Region.wanted])]
        go_wp2_with fail
        exact hK _ (.pointer (some ⟨w.heap.size, 0, none⟩)) _ (by simp only [Act.put, pA, pB, pC ]) ⟨hB, hz, s0, s1, V.step 0 rfl⟩
      · intro L v W2 hd hn ⟨hB, hz, s0, s1, V⟩ K hK
        have e0 := V.at (zdq hd 0 rfl) rfl
        rw [if_pos (by simp [Region.wanted])]
        have cc := s0.cell (i := 0) (v := .int .i64 p) (fdC_at p m)
        go_wp2_with fail
        exact hK _ (.int .i64 p) _ (by simp only [Act.put, pA, pB, pC, e0]) ⟨hB, hz, s0, s1, V.step 1 rfl⟩
      · intro L v W2 hd hn ⟨hB, hz, s0, s1, V⟩ K hK
        rw [if_pos (by simp [Region.wanted])]
        refine zlc s1 Try.underlying28 Try.size28 ?_
        exact hK _ _ _ rfl ⟨hB, hz, s0, s1, V.step 2 rfl⟩
      · intro L v W2 hd hn ⟨hB, hz, s0, s1, V⟩ K hK
        have e1 := V.at (zdq hd 1 rfl) rfl
        have e2 := V.at (zdq hd 2 rfl) rfl
        rw [if_pos (by simp [Region.wanted])]
        go_wp2_with (go_at_call 136; refine (HOK.out _).mono ?_; rintro e wy ⟨rfl, hy⟩)
        exact hK _ (.bool true) _ (by simp only [Act.put, pA, pB, pC, e1, e2]) ⟨hB.trans (hy.mono hB.size), (Nat.le_trans hz hy.size), s0.zw hy, s1.zw hy, V.step 3 rfl⟩
      · intro L v W2 hd hn ⟨hB, hz, s0, s1, V⟩ K hK
        have e3 := V.at (zdq hd 3 rfl) rfl
        rw [if_pos (by simp [Region.wanted])]
        go_wp2_with fail
        exact hK _ (.bool true) _ (by simp only [Act.put, pA, pB, pC, e3]) ⟨hB, hz, s0, s1, V.step 4 rfl⟩
      · intro L v W2 hd hn ⟨hB, hz, s0, s1, V⟩ K hK
        have e4 := V.at (zdq hd 4 rfl) rfl
        rw [if_pos (by simp [Region.wanted, yielded, e4])]
        refine zlc s1 Try.underlying28 Try.size28 ?_
        exact hK _ _ _ rfl ⟨hB, hz, s0, s1, V.step 5 rfl⟩
      · intro L v W2 hd hn ⟨hB, hz, s0, s1, V⟩ K hK
        have e5 := V.at (zdq hd 5 rfl) rfl
        have e4 := V.at (zdq hd 4 rfl) rfl
        rw [if_pos (by simp [Region.wanted, yielded, e4])]
        go_wp2_with (go_at_call 77; refine (HDG.out _ _).mono ?_; rintro e wy ⟨rfl, hy⟩)
        exact hK _ (.int .i64 (deg x)) _ (by simp only [Act.put, pA, pB, pC, e5, e4]) ⟨hB.trans (hy.mono hB.size), (Nat.le_trans hz hy.size), s0.zw hy, s1.zw hy, V.step 6 rfl⟩
      · intro L v W2 hd hn ⟨hB, hz, s0, s1, V⟩ K hK
        have e4 := V.at (zdq hd 4 rfl) rfl
        rw [if_pos (by simp [Region.wanted, yielded, e4])]
        go_wp2_with fail
        exact hK _ (.pointer (some ⟨w.heap.size, 1, none⟩)) _ (by simp only [Act.put, pA, pB, pC, e4]) ⟨hB, hz, s0, s1, V.step 7 rfl⟩
      · intro L v W2 hd hn ⟨hB, hz, s0, s1, V⟩ K hK
        have e7 := V.at (zdq hd 7 rfl) rfl
        have e4 := V.at (zdq hd 4 rfl) rfl
        rw [if_pos (by simp [Region.wanted, yielded, e4])]
        refine wp_load_mid 28 _ rfl _ 1 e7 _ _ (s0.fd) Try.underlying28 rfl (by rw [zl]; exact Try.size28) ?_
        exact hK _ _ _ rfl ⟨hB, hz, s0, s1, V.step 8 rfl⟩
      · intro L v W2 hd hn ⟨hB, hz, s0, s1, V⟩ K hK
        have e8 := V.at (zdq hd 8 rfl) rfl
        have e4 := V.at (zdq hd 4 rfl) rfl
        rw [if_pos (by simp [Region.wanted, yielded, e4])]
        go_wp2_with (go_at_call 77; refine (HDG.out _ _).mono ?_; rintro e wy ⟨rfl, hy⟩)
        exact hK _ (.int .i64 (deg m)) _ (by simp only [Act.put, pA, pB, pC, e8, e4]) ⟨hB.trans (hy.mono hB.size), (Nat.le_trans hz hy.size), s0.zw hy, s1.zw hy, V.step 9 rfl⟩
      · intro L v W2 hd hn ⟨hB, hz, s0, s1, V⟩ K hK
        have e6 := V.at (zdq hd 6 rfl) rfl
        have e9 := V.at (zdq hd 9 rfl) rfl
        have e4 := V.at (zdq hd 4 rfl) rfl
        rw [if_pos (by simp [Region.wanted, yielded, e4])]
        go_wp2_with fail
        exact hK _ (.bool true) _ (by simp only [Act.put, pA, pB, pC, e6, e9, e4]) ⟨hB, hz, s0, s1, V.step 10 rfl⟩
      · intro L v W2 hd hn ⟨hB, hz, s0, s1, V⟩ K hK
        have e4 := V.at (zdq hd 4 rfl) rfl
        have e10 := V.at (zdq hd 10 rfl) rfl
        rw [if_pos (by simp [Region.wanted])]
        go_wp2_with fail
        exact hK _ (.bool true) _ (by simp only [Act.put, pA, pB, pC, e4, e10]) ⟨hB, hz, s0, s1, V.step 11 rfl⟩
      · intro L v W2 hd hn ⟨hB, hz, s0, s1, V⟩ K hK
        have e11 := V.at (zdq hd 11 rfl) rfl
        rw [if_pos (by simp [Region.wanted])]
        go_wp2_with fail
        exact hK _ (.bool true) _ (by simp only [Act.put, pA, pB, pC, e11]) ⟨hB, hz, s0, s1, V.step 12 rfl⟩
    · intro L v W2 hL ⟨hB, hz, s0, s1, V⟩
      have e0 := V.at (hL 0 (by decide)) rfl
      have e1 := V.at (hL 1 (by decide)) rfl
      have e2 := V.at (hL 2 (by decide)) rfl
      have e3 := V.at (hL 3 (by decide)) rfl
      have e4 := V.at (hL 4 (by decide)) rfl
      have e5 := V.at (hL 5 (by decide)) rfl
      have e6 := V.at (hL 6 (by decide)) rfl
      have e7 := V.at (hL 7 (by decide)) rfl
      have e8 := V.at (hL 8 (by decide)) rfl
      have e9 := V.at (hL 9 (by decide)) rfl
      have e10 := V.at (hL 10 (by decide)) rfl
      have e11 := V.at (hL 11 (by decide)) rfl
      have e12 := V.at (hL 12 (by decide)) rfl
      clear hL V
      simp only [Exit.then, e0, e1, e2, e3, e4, e5, e6, e7, e8, e9, e10, e11, e12]
      clear e0 e1 e2 e3 e4 e5 e6 e7 e8 e9 e10 e11 e12
      replace B0 := s0
      clear s0
      replace B1 := s1
      clear s1
      replace hb := hB
      clear hB
      clear hbase hz lt_B0 lt_B1
      go_wp2_with fail
      go_ret
      exact ⟨by rw [HV.out]; rfl, hb⟩
  · skip
    have HV := Lib.hid (rsB_3 ho hlt)
    have HOK := Lib.hid (fun W => IsPoly_any p x hx W)
    rw [ho] at HOK
    have HDG := Lib.hid (fun f W => degree_any f W)
    clear ho
    have lt_B0 : (w.heap.size) < W1.heap.size := B0.lt
    have lt_B1 : (w.heap.size + 1) < W1.heap.size := B1.lt
    have hbase : w.heap.size ≤ W1.heap.size := hb.size
    refine wp_region_stepsG Try.mixed (by kernel_rfl) (by kernel_rfl) (fun v => by (simp only [frL, Act.put, pA, pB, pC, Nat.reduceAdd, Nat.zero_add]; exact rfl))
     (fun L v W2 => Below w.heap.size w W2 ∧ W1.heap.size ≤ W2.heap.size ∧ Row W2 (w.heap.size) 70 (fdC p m).toArray ∧ Blk W2 (w.heap.size + 1) 64 28 (x) ∧ VF L v [some (.pointer (some ⟨w.heap.size, 0, none⟩)), some (.int .i64 p), some (.agg (zb 64 (x))), some (.bool true), some (.bool true), some (.agg (zb 64 (x))), some (.int .i64 (deg x)), some (.pointer (some ⟨w.heap.size, 1, none⟩)), some (.agg (zb 64 (m))), some (.int .i64 (deg m)), some (.bool false), some (.bool false), some (.bool false)]) ?_ ?_ ?_
    · intro v hv0
      exact ⟨hb.drew, Nat.le_refl _, B0.drew, B1.drew, VF.start⟩
    · refine (.cons ?_ (.cons ?_ (.cons ?_ (.cons ?_ (.cons ?_ (.cons ?_ (.cons ?_ (.cons ?_ (.cons ?_ (.cons ?_ (.cons ?_ (.cons ?_ (.cons ?_ (.nil _))))))))))))))
      · intro L v W2 hd hn ⟨hB, hz, s0, s1, V⟩ K hK
        rw [if_pos (by simp [Region.wanted])]
        go_wp2_with fail
        exact hK _ (.pointer (some ⟨w.heap.size, 0, none⟩)) _ (by simp only [Act.put, pA, pB, pC ]) ⟨hB, hz, s0, s1, V.step 0 rfl⟩
      · intro L v W2 hd hn ⟨hB, hz, s0, s1, V⟩ K hK
        have e0 := V.at (zdq hd 0 rfl) rfl
        rw [if_pos (by simp [Region.wanted])]
        have cc := s0.cell (i := 0) (v := .int .i64 p) (fdC_at p m)
        go_wp2_with fail
        exact hK _ (.int .i64 p) _ (by simp only [Act.put, pA, pB, pC, e0]) ⟨hB, hz, s0, s1, V.step 1 rfl⟩
      · intro L v W2 hd hn ⟨hB, hz, s0, s1, V⟩ K hK
        rw [if_pos (by simp [Region.wanted])]
        refine zlc s1 Try.underlying28 Try.size28 ?_
        exact hK _ _ _ rfl ⟨hB, hz, s0, s1, V.step 2 rfl⟩
      · intro L v W2 hd hn ⟨hB, hz, s0, s1, V⟩ K hK
        have e1 := V.at (zdq hd 1 rfl) rfl
        have e2 := V.at (zdq hd 2 rfl) rfl
        rw [if_pos (by simp [Region.wanted])]
        go_wp2_with (go_at_call 136; refine (HOK.out _).mono ?_; rintro e wy ⟨rfl, hy⟩)
        exact hK _ (.bool true) _ (by simp only [Act.put, pA, pB, pC, e1, e2]) ⟨hB.trans (hy.mono hB.size), (Nat.le_trans hz hy.size), s0.zw hy, s1.zw hy, V.step 3 rfl⟩
      · intro L v W2 hd hn ⟨hB, hz, s0, s1, V⟩ K hK
        have e3 := V.at (zdq hd 3 rfl) rfl
        rw [if_pos (by simp [Region.wanted])]
        go_wp2_with fail
        exact hK _ (.bool true) _ (by simp only [Act.put, pA, pB, pC, e3]) ⟨hB, hz, s0, s1, V.step 4 rfl⟩
      · intro L v W2 hd hn ⟨hB, hz, s0, s1, V⟩ K hK
        have e4 := V.at (zdq hd 4 rfl) rfl
        rw [if_pos (by simp [Region.wanted, yielded, e4])]
        refine zlc s1 Try.underlying28 Try.size28 ?_
        exact hK _ _ _ rfl ⟨hB, hz, s0, s1, V.step 5 rfl⟩
      · intro L v W2 hd hn ⟨hB, hz, s0, s1, V⟩ K hK
        have e5 := V.at (zdq hd 5 rfl) rfl
        have e4 := V.at (zdq hd 4 rfl) rfl
        rw [if_pos (by simp [Region.wanted, yielded, e4])]
        go_wp2_with (go_at_call 77; refine (HDG.out _ _).mono ?_; rintro e wy ⟨rfl, hy⟩)
        exact hK _ (.int .i64 (deg x)) _ (by simp only [Act.put, pA, pB, pC, e5, e4]) ⟨hB.trans (hy.mono hB.size), (Nat.le_trans hz hy.size), s0.zw hy, s1.zw hy, V.step 6 rfl⟩
      · intro L v W2 hd hn ⟨hB, hz, s0, s1, V⟩ K hK
        have e4 := V.at (zdq hd 4 rfl) rfl
        rw [if_pos (by simp [Region.wanted, yielded, e4])]
        go_wp2_with fail
        exact hK _ (.pointer (some ⟨w.heap.size, 1, none⟩)) _ (by simp only [Act.put, pA, pB, pC, e4]) ⟨hB, hz, s0, s1, V.step 7 rfl⟩
      · intro L v W2 hd hn ⟨hB, hz, s0, s1, V⟩ K hK
        have e7 := V.at (zdq hd 7 rfl) rfl
        have e4 := V.at (zdq hd 4 rfl) rfl
        rw [if_pos (by simp [Region.wanted, yielded, e4])]
        refine wp_load_mid 28 _ rfl _ 1 e7 _ _ (s0.fd) Try.underlying28 rfl (by rw [zl]; exact Try.size28) ?_
        exact hK _ _ _ rfl ⟨hB, hz, s0, s1, V.step 8 rfl⟩
      · intro L v W2 hd hn ⟨hB, hz, s0, s1, V⟩ K hK
        have e8 := V.at (zdq hd 8 rfl) rfl
        have e4 := V.at (zdq hd 4 rfl) rfl
        rw [if_pos (by simp [Region.wanted, yielded, e4])]
        go_wp2_with (go_at_call 77; refine (HDG.out _ _).mono ?_; rintro e wy ⟨rfl, hy⟩)
        exact hK _ (.int .i64 (deg m)) _ (by simp only [Act.put, pA, pB, pC, e8, e4]) ⟨hB.trans (hy.mono hB.size), (Nat.le_trans hz hy.size), s0.zw hy, s1.zw hy, V.step 9 rfl⟩
      · intro L v W2 hd hn ⟨hB, hz, s0, s1, V⟩ K hK
        have e6 := V.at (zdq hd 6 rfl) rfl
        have e9 := V.at (zdq hd 9 rfl) rfl
        have e4 := V.at (zdq hd 4 rfl) rfl
        rw [if_pos (by simp [Region.wanted, yielded, e4])]
        go_wp2_with fail
        exact hK _ (.bool false) _ (by simp only [Act.put, pA, pB, pC, e6, e9, e4]) ⟨hB, hz, s0, s1, V.step 10 rfl⟩
      · intro L v W2 hd hn ⟨hB, hz, s0, s1, V⟩ K hK
        have e4 := V.at (zdq hd 4 rfl) rfl
        have e10 := V.at (zdq hd 10 rfl) rfl
        rw [if_pos (by simp [Region.wanted])]
        go_wp2_with fail
        exact hK _ (.bool false) _ (by simp only [Act.put, pA, pB, pC, e4, e10]) ⟨hB, hz, s0, s1, V.step 11 rfl⟩
      · intro L v W2 hd hn ⟨hB, hz, s0, s1, V⟩ K hK
        have e11 := V.at (zdq hd 11 rfl) rfl
        rw [if_pos (by simp [Region.wanted])]
        go_wp2_with fail
        exact hK _ (.bool false) _ (by simp only [Act.put, pA, pB, pC, e11]) ⟨hB, hz, s0, s1, V.step 12 rfl⟩
    · intro L v W2 hL ⟨hB, hz, s0, s1, V⟩
      have e0 := V.at (hL 0 (by decide)) rfl
      have e1 := V.at (hL 1 (by decide)) rfl
      have e2 := V.at (hL 2 (by decide)) rfl
      have e3 := V.at (hL 3 (by decide)) rfl
      have e4 := V.at (hL 4 (by decide)) rfl
      have e5 := V.at (hL 5 (by decide)) rfl
      have e6 := V.at (hL 6 (by decide)) rfl
      have e7 := V.at (hL 7 (by decide)) rfl
      have e8 := V.at (hL 8 (by decide)) rfl
      have e9 := V.at (hL 9 (by decide)) rfl
      have e10 := V.at (hL 10 (by decide)) rfl
      have e11 := V.at (hL 11 (by decide)) rfl
      have e12 := V.at (hL 12 (by decide)) rfl
      clear hL V
      simp only [Exit.then, e0, e1, e2, e3, e4, e5, e6, e7, e8, e9, e10, e11, e12]
      clear e0 e1 e2 e3 e4 e5 e6 e7 e8 e9 e10 e11 e12
      replace B0 := s0
      clear s0
      replace B1 := s1
      clear s1
      replace hb := hB
      clear hB
      clear hbase hz lt_B0 lt_B1
      go_wp2_with fail
      go_ret
      exact ⟨by rw [HV.out]; rfl, hb⟩
set_option maxRecDepth 100000 in
set_option maxHeartbeats 1600000 in
theorem l03Is_any (p : Int) (m : Nat → Nat) (F : Nat → Nat → Nat) (hm : byte m) (hF : ∀ i, byte (F i)) (w : World) :
 Calls Try.prog 119 #[.int .i64 p, .agg (zb 64 m), .agg (zb 512 (fl 64 F))] w fun e w' => e = .returned (.bool (skB p m F)) ∧ Below w.heap.size w w' := by
 have HR := Lib.hid (fun i W => l03Residue_any p m (F i) hm (hF i) W)
 have HY := Lib.hid (fun h => skB_yes (p := p) (m := m) (F := F) h)
 have HN := Lib.hid (fun i (hi : i < 8) h => skB_no (p := p) (m := m) (F := F) hi h)
 go_enter Try.func119, Try.ntmps119
 go_upto_region 1 with (fail)
 obtain ⟨W1, hwo⟩ : ∃ v : World, v = ((w.alloc (.cells (zb 64 (m)) 28)).alloc (.cells (zb 512 (fl 64 F)) 46)) := ⟨_, rfl⟩
 have B0 : Blk W1 (w.heap.size) 64 28 (m) := by subst hwo; have := ((Blk.new w 64 28 (m)).alloc (.cells (zb 512 (fl 64 F)) 46)); simpa using this
 have B1 : Blk W1 (w.heap.size + 1) 512 46 (fl 64 F) := by subst hwo; have := (Blk.new (w.alloc (.cells (zb 64 (m)) 28)) 512 46 (fl 64 F)); simpa using this
 have hb : Below w.heap.size w W1 := by subst hwo; exact (((Below.refl _ _).alloc (Nat.le_refl _) _).alloc (by simp) _)
 rw [← hwo]
 clear hwo
 go_wp2_with fail
 go_loopw [7] (fun c wr => ∃ j : Nat, c = .int .i64 (j : Int) ∧ j ≤ 8 ∧ Hid (∀ i, i < j → rsB p m (F i) = true) ∧ Below w.heap.size w wr ∧ Blk wr (w.heap.size) 64 28 m ∧ Blk wr (w.heap.size + 1) 512 46 (fl 64 F)) (fun c _ => 8 - (intOf c).toNat)
 case atStart => exact ⟨0, rfl, by omega, Lib.hid (fun i hi => absurd hi (Nat.not_lt_zero i)), hb, B0, B1⟩
 case round =>
  clear hb B0 B1
  obtain ⟨j, rfl, hj8, hall, hb, B0, B1⟩ := hrel
  by_cases hj : j < 8
  · have hjI : (j : Int) < 8 := by omega
    have HRJ := Lib.hid (HR.out j)
    cases hr : rsB p m (F j) with
    | false =>
     rw [hr] at HRJ
     have HV := Lib.hid (HN.out j hj hr)
     clear hr
     go_upto_region 4 with (fail)
     refine zq Try.mixed (by kernel_rfl) (by kernel_rfl) (fun v => by (simp only [frL, Act.put, pA, pB, pC, Nat.reduceAdd, Nat.zero_add]; exact rfl))
      (fun L v W2 => Below wr.heap.size wr W2 ∧ VF L v [some (.int .i64 p), some (.agg (zb 64 (m))), some (.int .i64 (j : Int)), some (.pointer (some ⟨w.heap.size + 1, j * 64, none⟩)), some (.agg (zb 64 (F j))), some (.bool false), some (.bool true)]) ?_ ?_ ?_
     · intro v hv0
       exact ⟨(Below.refl _ wr).drew, VF.start⟩
     · refine (.cons rfl ?_ (.cons rfl ?_ (.cons rfl ?_ (.cons rfl ?_ (.cons rfl ?_ (.cons rfl ?_ (.cons rfl ?_ (.nil _))))))))
       all_goals intro L v W2 hd hn ⟨hY, V⟩ K hK
       · go_wp2_with fail
         exact hK _ (.int .i64 p) _ (by simp only [Act.put, pA, pB, pC ]) ⟨hY, V.step 0 rfl⟩
       · refine zlc (B0.zw hY) Try.underlying28 Try.size28 ?_
         exact hK _ _ _ rfl ⟨hY, V.step 1 rfl⟩
       · go_wp2_with fail
         exact hK _ (.int .i64 (j : Int)) _ (by simp only [Act.put, pA, pB, pC ]) ⟨hY, V.step 2 rfl⟩
       · have e2 := V.at (zdq hd 2 rfl) rfl
         go_wp2_with fail
         exact hK _ (.pointer (some ⟨w.heap.size + 1, j * 64, none⟩)) _ (by simp only [Act.put, pA, pB, pC, e2]) ⟨hY, V.step 3 rfl⟩
       · have e3 := V.at (zdq hd 3 rfl) rfl
         refine wp_load_mid 28 _ rfl _ (j * 64) e3 _ _ (((B1.zw hY)).sk (by omega)) Try.underlying28 rfl (by rw [zl]; exact Try.size28) ?_
         exact hK _ _ _ rfl ⟨hY, V.step 4 rfl⟩
       · have e0 := V.at (zdq hd 0 rfl) rfl
         have e1 := V.at (zdq hd 1 rfl) rfl
         have e4 := V.at (zdq hd 4 rfl) rfl
         go_wp2_with (go_at_call 95; refine (HRJ.out _).mono ?_; rintro e wy ⟨rfl, hy⟩)
         exact hK _ (.bool false) _ (by simp only [Act.put, pA, pB, pC, e0, e1, e4]) ⟨hY.trans (hy.mono hY.size), V.step 5 rfl⟩
       · have e5 := V.at (zdq hd 5 rfl) rfl
         go_wp2_with fail
         exact hK _ (.bool true) _ (by simp only [Act.put, pA, pB, pC, e5]) ⟨hY, V.step 6 rfl⟩
     · intro L v W2 hL ⟨hY, V⟩
       have e0 := V.at (hL 0 (by decide)) rfl
       have e1 := V.at (hL 1 (by decide)) rfl
       have e2 := V.at (hL 2 (by decide)) rfl
       have e3 := V.at (hL 3 (by decide)) rfl
       have e4 := V.at (hL 4 (by decide)) rfl
       have e5 := V.at (hL 5 (by decide)) rfl
       have e6 := V.at (hL 6 (by decide)) rfl
       clear hL V
       replace B0 := B0.zw hY
       replace B1 := B1.zw hY
       replace hb := hb.trans (hY.mono hb.size)
       clear hY
       simp only [Exit.then, e0, e1, e2, e3, e4, e5, e6]
       clear e0 e1 e2 e3 e4 e5 e6
       go_wp2_with fail
       go_ret
       exact ⟨by rw [HV.out]; rfl, hb⟩
    | true =>
     rw [hr] at HRJ
     have HA := Lib.hid (show ∀ i, i < j + 1 → rsB p m (F i) = true from fun i hi => by
      by_cases e : i = j
      · subst e; exact hr
      · exact hall.out i (by omega))
     clear hr
     go_upto_region 4 with (fail)
     refine zq Try.mixed (by kernel_rfl) (by kernel_rfl) (fun v => by (simp only [frL, Act.put, pA, pB, pC, Nat.reduceAdd, Nat.zero_add]; exact rfl))
      (fun L v W2 => Below wr.heap.size wr W2 ∧ VF L v [some (.int .i64 p), some (.agg (zb 64 (m))), some (.int .i64 (j : Int)), some (.pointer (some ⟨w.heap.size + 1, j * 64, none⟩)), some (.agg (zb 64 (F j))), some (.bool true), some (.bool false)]) ?_ ?_ ?_
     · intro v hv0
       exact ⟨(Below.refl _ wr).drew, VF.start⟩
     · refine (.cons rfl ?_ (.cons rfl ?_ (.cons rfl ?_ (.cons rfl ?_ (.cons rfl ?_ (.cons rfl ?_ (.cons rfl ?_ (.nil _))))))))
       all_goals intro L v W2 hd hn ⟨hY, V⟩ K hK
       · go_wp2_with fail
         exact hK _ (.int .i64 p) _ (by simp only [Act.put, pA, pB, pC ]) ⟨hY, V.step 0 rfl⟩
       · refine zlc (B0.zw hY) Try.underlying28 Try.size28 ?_
         exact hK _ _ _ rfl ⟨hY, V.step 1 rfl⟩
       · go_wp2_with fail
         exact hK _ (.int .i64 (j : Int)) _ (by simp only [Act.put, pA, pB, pC ]) ⟨hY, V.step 2 rfl⟩
       · have e2 := V.at (zdq hd 2 rfl) rfl
         go_wp2_with fail
         exact hK _ (.pointer (some ⟨w.heap.size + 1, j * 64, none⟩)) _ (by simp only [Act.put, pA, pB, pC, e2]) ⟨hY, V.step 3 rfl⟩
       · have e3 := V.at (zdq hd 3 rfl) rfl
         refine wp_load_mid 28 _ rfl _ (j * 64) e3 _ _ (((B1.zw hY)).sk (by omega)) Try.underlying28 rfl (by rw [zl]; exact Try.size28) ?_
         exact hK _ _ _ rfl ⟨hY, V.step 4 rfl⟩
       · have e0 := V.at (zdq hd 0 rfl) rfl
         have e1 := V.at (zdq hd 1 rfl) rfl
         have e4 := V.at (zdq hd 4 rfl) rfl
         go_wp2_with (go_at_call 95; refine (HRJ.out _).mono ?_; rintro e wy ⟨rfl, hy⟩)
         exact hK _ (.bool true) _ (by simp only [Act.put, pA, pB, pC, e0, e1, e4]) ⟨hY.trans (hy.mono hY.size), V.step 5 rfl⟩
       · have e5 := V.at (zdq hd 5 rfl) rfl
         go_wp2_with fail
         exact hK _ (.bool false) _ (by simp only [Act.put, pA, pB, pC, e5]) ⟨hY, V.step 6 rfl⟩
     · intro L v W2 hL ⟨hY, V⟩
       have e0 := V.at (hL 0 (by decide)) rfl
       have e1 := V.at (hL 1 (by decide)) rfl
       have e2 := V.at (hL 2 (by decide)) rfl
       have e3 := V.at (hL 3 (by decide)) rfl
       have e4 := V.at (hL 4 (by decide)) rfl
       have e5 := V.at (hL 5 (by decide)) rfl
       have e6 := V.at (hL 6 (by decide)) rfl
       clear hL V
       replace B0 := B0.zw hY
       replace B1 := B1.zw hY
       replace hb := hb.trans (hY.mono hb.size)
       clear hY
       simp only [Exit.then, e0, e1, e2, e3, e4, e5, e6]
       clear e0 e1 e2 e3 e4 e5 e6
       go_wp2_with fail
       go_roundw
       case rel => exact ⟨j + 1, by go_num, by omega, HA, hb, B0, B1⟩
       case measure => simp [intOf] <;> omega
  · have hjI : ¬ (j : Int) < 8 := by omega
    obtain rfl : j = 8 := by omega
    have HV := Lib.hid (HY.out hall.out)
    go_wp2_with fail
    go_ret
    exact ⟨by rw [HV.out]; rfl, hb⟩
set_option maxRecDepth 100000 in
set_option maxHeartbeats 1600000 in
theorem isSkew_any (p : Int) (m : Nat → Nat) (F : Nat → Nat → Nat) (hm : byte m) (hF : ∀ i, byte (F i)) (w : World) :
 Calls Try.prog 129 #[.agg (fdC p m).toArray, .agg (zb 512 (fl 64 F))] w fun e w' => e = .returned (.bool (skB p m F)) ∧ Below w.heap.size w w' := by
 have HR := Lib.hid (fun i W => isResidue_any p m (F i) hm (hF i) W)
 have HY := Lib.hid (fun h => skB_yes (p := p) (m := m) (F := F) h)
 have HN := Lib.hid (fun i (hi : i < 8) h => skB_no (p := p) (m := m) (F := F) hi h)
 go_enter Try.func129, Try.ntmps129
 go_upto_region 1 with (fail)
 obtain ⟨W1, hwo⟩ : ∃ v : World, v = ((w.alloc (.cells (fdC p m).toArray 70)).alloc (.cells (zb 512 (fl 64 F)) 46)) := ⟨_, rfl⟩
 have B0 : Row W1 (w.heap.size) 70 (fdC p m).toArray := by subst hwo; have := ((Row.new w 70 (fdC p m).toArray).alloc (.cells (zb 512 (fl 64 F)) 46)); simpa using this
 have B1 : Blk W1 (w.heap.size + 1) 512 46 (fl 64 F) := by subst hwo; have := (Blk.new (w.alloc (.cells (fdC p m).toArray 70)) 512 46 (fl 64 F)); simpa using this
 have hb : Below w.heap.size w W1 := by subst hwo; exact (((Below.refl _ _).alloc (Nat.le_refl _) _).alloc (by simp) _)
 rw [← hwo]
 clear hwo
 go_upto_region 2 with (first | (refine zla (.tmp 3) B1 Try.underlying46 Try.size46 ?_))
 go_loopw [8] (fun c wr => ∃ j : Nat, c = .int .i64 (j : Int) ∧ j ≤ 8 ∧ Hid (∀ i, i < j → rsB p m (F i) = true) ∧ Below w.heap.size w wr ∧ Row wr (w.heap.size) 70 (fdC p m).toArray ∧ Blk wr (w.heap.size + 1) 512 46 (fl 64 F)) (fun c _ => 8 - (intOf c).toNat)
 case atStart => exact ⟨0, rfl, by omega, Lib.hid (fun i hi => absurd hi (Nat.not_lt_zero i)), hb, B0, B1⟩
 case round =>
  clear hb B0 B1
  obtain ⟨j, rfl, hj8, hall, hb, B0, B1⟩ := hrel
  by_cases hj : j < 8
  · have hjI : (j : Int) < 8 := by omega
    have HRJ := Lib.hid (HR.out j)
    cases hr : rsB p m (F j) with
    | false =>
     rw [hr] at HRJ
     have HV := Lib.hid (HN.out j hj hr)
     clear hr
     have hix := run_index_sk (P := Try.prog) 46 28 F .i64 j _ Try.underlying46 Try.underlying28 rfl Try.size28 hj
     go_upto_region 3 with (fail)
     have lt_B0 := B0.lt
     have lt_B1 := B1.lt
     go_upto_region 4 with (first | rw [← z64] | (refine wpList_store_blk rfl 28 (.tmp 6) (.tmp 10) rfl _ 64 (F j) rfl rfl 28 _ ((Blk.new wr 64 28 (fun _ => 0))) Try.size28 ?_; try simp only [Act.put]))
     have lt_B0 := B0.lt
     have lt_B1 := B1.lt
     have lhb := hb.size
     obtain ⟨W2, hwo, hzQ⟩ : ∃ v : World, v = ((wr.alloc (.cells (zb 64 (fun _ => 0)) 28)).setRow (wr.heap.size) (zb 64 (F j))) ∧ Row v (w.heap.size) 70 (fdC p m).toArray ∧ Blk v (w.heap.size + 1) 512 46 (fl 64 F) ∧ Blk v (wr.heap.size) 64 28 (F j) ∧ Below w.heap.size w v := ⟨_, rfl, ((B0.alloc (.cells (zb 64 (fun _ => 0)) 28)).rowOther (by omega)), ((B1.alloc (.cells (zb 64 (fun _ => 0)) 28)).rowOther (by omega)), ((Blk.new wr 64 28 (fun _ => 0)).row (F j)), (zr (hb.alloc (by have := hb.size; simp; omega) (.cells (zb 64 (fun _ => 0)) 28)) (by omega) _)⟩
     rw [← hwo]
     clear hwo B0 B1 hb
     obtain ⟨B0, B1, B2, hb⟩ := hzQ
     obtain ⟨N1, hNN⟩ : ∃ n : Nat, n = wr.heap.size := ⟨_, rfl⟩
     rw [← hNN] at lt_B0 lt_B1 lhb B2 ⊢
     clear hNN
     have zN1_0 := lt_B0
     have zN1_1 := lt_B1
     have zN1 := lhb
     clear lt_B0 lt_B1 lhb
     try simp only [Act.put, pA, pB, pC]
     clear hix
     go_upto_region 5 with (first | (refine zlr rfl 70 (.tmp 2) rfl _ rfl 70 (fdC p m).toArray (B0) _ Try.underlying70 rfl 65 Try.size70 (by simp [fdC_len]) ?_) | (refine zla (.tmp 6) B2 Try.underlying28 Try.size28 ?_) | (go_at_call 99; refine (HRJ.out _).mono ?_; rintro e W3 ⟨rfl, hW3⟩; replace B0 := B0.zw hW3; replace B1 := B1.zw hW3; replace B2 := B2.zw hW3; replace hb := (hb).trans (hW3.mono (hb).size)))
     go_wp2_with fail
     go_ret
     exact ⟨by rw [HV.out]; rfl, hb⟩
    | true =>
     rw [hr] at HRJ
     have HA := Lib.hid (show ∀ i, i < j + 1 → rsB p m (F i) = true from fun i hi => by
      by_cases e : i = j
      · subst e; exact hr
      · exact hall.out i (by omega))
     clear hr
     have hix := run_index_sk (P := Try.prog) 46 28 F .i64 j _ Try.underlying46 Try.underlying28 rfl Try.size28 hj
     go_upto_region 3 with (fail)
     have lt_B0 := B0.lt
     have lt_B1 := B1.lt
     go_upto_region 4 with (first | rw [← z64] | (refine wpList_store_blk rfl 28 (.tmp 6) (.tmp 10) rfl _ 64 (F j) rfl rfl 28 _ ((Blk.new wr 64 28 (fun _ => 0))) Try.size28 ?_; try simp only [Act.put]))
     have lt_B0 := B0.lt
     have lt_B1 := B1.lt
     have lhb := hb.size
     obtain ⟨W2, hwo, hzQ⟩ : ∃ v : World, v = ((wr.alloc (.cells (zb 64 (fun _ => 0)) 28)).setRow (wr.heap.size) (zb 64 (F j))) ∧ Row v (w.heap.size) 70 (fdC p m).toArray ∧ Blk v (w.heap.size + 1) 512 46 (fl 64 F) ∧ Blk v (wr.heap.size) 64 28 (F j) ∧ Below w.heap.size w v := ⟨_, rfl, ((B0.alloc (.cells (zb 64 (fun _ => 0)) 28)).rowOther (by omega)), ((B1.alloc (.cells (zb 64 (fun _ => 0)) 28)).rowOther (by omega)), ((Blk.new wr 64 28 (fun _ => 0)).row (F j)), (zr (hb.alloc (by have := hb.size; simp; omega) (.cells (zb 64 (fun _ => 0)) 28)) (by omega) _)⟩
     rw [← hwo]
     clear hwo B0 B1 hb
     obtain ⟨B0, B1, B2, hb⟩ := hzQ
     obtain ⟨N1, hNN⟩ : ∃ n : Nat, n = wr.heap.size := ⟨_, rfl⟩
     rw [← hNN] at lt_B0 lt_B1 lhb B2 ⊢
     clear hNN
     have zN1_0 := lt_B0
     have zN1_1 := lt_B1
     have zN1 := lhb
     clear lt_B0 lt_B1 lhb
     try simp only [Act.put, pA, pB, pC]
     clear hix
     go_upto_region 6 with (first | (refine zlr rfl 70 (.tmp 2) rfl _ rfl 70 (fdC p m).toArray (B0) _ Try.underlying70 rfl 65 Try.size70 (by simp [fdC_len]) ?_) | (refine zla (.tmp 6) B2 Try.underlying28 Try.size28 ?_) | (go_at_call 99; refine (HRJ.out _).mono ?_; rintro e W3 ⟨rfl, hW3⟩; replace B0 := B0.zw hW3; replace B1 := B1.zw hW3; replace B2 := B2.zw hW3; replace hb := (hb).trans (hW3.mono (hb).size)))
     go_wp2_with fail
     go_roundw
     case rel => exact ⟨j + 1, by go_num, by omega, HA, hb, B0, B1⟩
     case measure => simp [intOf] <;> omega
  · have hjI : ¬ (j : Int) < 8 := by omega
    obtain rfl : j = 8 := by omega
    have HV := Lib.hid (HY.out hall.out)
    go_wp2_with fail
    go_ret
    exact ⟨by rw [HV.out]; rfl, hb⟩
set_option maxRecDepth 100000 in
set_option maxHeartbeats 1600000 in
theorem l03Code_any (p : Int) (m : Nat → Nat) (hm : byte m) (Fs : List (Nat → Nat → Nat)) (hF : ∀ F, F ∈ Fs → ∀ i, byte (F i)) (hlen : Fs.length ≤ 8) (bS : Nat) (w : World) (B0 : Row w bS 46 (skL Fs).toArray) :
 Calls Try.prog 68 #[.int .i64 p, .agg (zb 64 m), .slice (some ⟨bS, 0, none⟩) Fs.length Fs.length] w fun e w' => e = .returned (.int .i64 (ckS p m Fs)) ∧ Below w.heap.size w w' := by
 have HFL := Lib.hid (fun W => l03Field_any p m hm W)
 have HSK := Lib.hid (fun F (h : F ∈ Fs) W => l03Is_any p m F hm (hF F h) W)
 have HNO := Lib.hid (fun (j : Nat) F (hj : Fs[j]? = some F) h => ckS_no (p := p) (m := m) hj h)
 obtain ⟨NL, hNL⟩ : ∃ NL, NL = Fs.length := ⟨_, rfl⟩
 have HNL := Lib.hid hNL
 rw [← hNL] at hlen ⊢
 clear hF hNL
 have zx_0 := B0.lt
 go_enter Try.func68, Try.ntmps68
 go_upto_region 1 with (fail)
 obtain ⟨W1, hwo⟩ : ∃ v : World, v = (w.alloc (.cells (zb 64 (m)) 28)) := ⟨_, rfl⟩
 have B1 : Blk W1 (w.heap.size) 64 28 (m) := by subst hwo; have := (Blk.new w 64 28 (m)); simpa using this
 replace B0 : Row W1 (bS) 46 (skL Fs).toArray := by subst hwo; exact (B0.alloc (.cells (zb 64 (m)) 28))
 have hb : Below w.heap.size w W1 := by subst hwo; exact ((Below.refl _ _).alloc (Nat.le_refl _) _)
 rw [← hwo]
 clear hwo
 cases hf : flV p m with
 | false =>
  have HV := Lib.hid (ckS_f (p := p) (m := m) (Fs := Fs) hf)
  go_upto_region 2 with (first | (refine zla (.tmp 4) B1 Try.underlying28 Try.size28 ?_) | (go_at_call 94; refine (HFL.out _).mono ?_; rintro e W2 ⟨rfl, hW2⟩; replace B0 := B0.zw hW2; replace B1 := B1.zw hW2; replace hb := (hb).trans (hW2.mono (hb).size); rw [hf]))
  go_wp2_with fail
  go_ret
  exact ⟨by rw [HV.out]; rfl, hb⟩
 | true =>
  have HYES := Lib.hid (fun h => ckS_yes (p := p) (m := m) (Fs := Fs) hf h)
  go_upto_region 3 with (first | (refine zla (.tmp 4) B1 Try.underlying28 Try.size28 ?_) | (go_at_call 94; refine (HFL.out _).mono ?_; rintro e W2 ⟨rfl, hW2⟩; replace B0 := B0.zw hW2; replace B1 := B1.zw hW2; replace hb := (hb).trans (hW2.mono (hb).size); rw [hf]))
  clear hf HFL
  go_wp2_with fail
  go_loopw [7] (fun c wr => ∃ j : Nat, c = .int .i64 (j : Int) ∧ j ≤ NL ∧ Hid (∀ (i : Nat) (F : Nat → Nat → Nat), i < j → Fs[i]? = some F → skB p m F = true) ∧ Below w.heap.size w wr ∧ Row wr (bS) 46 (skL Fs).toArray ∧ Blk wr (w.heap.size) 64 28 m) (fun c _ => NL - (intOf c).toNat)
  case atStart => exact ⟨0, rfl, Nat.zero_le _, Lib.hid (fun i F hi => absurd hi (Nat.not_lt_zero i)), hb, B0, B1⟩
  case round =>
   clear hb B0 B1
   obtain ⟨j, rfl, hjn, hall, hb, B0, B1⟩ := hrel
   by_cases hj : j < NL
   · have hjI : (j : Int) < (NL : Int) := by omega
     have hj' : j < Fs.length := by rw [← HNL.out]; exact hj
     obtain ⟨F, hF⟩ : ∃ F, Fs[j]? = some F := ⟨_, List.getElem?_eq_getElem hj'⟩
     have HFJ := Lib.hid hF
     have HSF := Lib.hid (HSK.out F (List.mem_of_getElem? hF))
     clear hF hj'
     cases hr : skB p m F with
     | false =>
      rw [hr] at HSF
      have HV := Lib.hid (HNO.out j F HFJ.out hr)
      clear hr
      go_upto_region 6 with (fail)
      refine zq Try.mixed (by kernel_rfl) (by kernel_rfl) (fun v => by (simp only [frL, Act.put, pA, pB, pC, Nat.reduceAdd, Nat.zero_add]; exact rfl))
       (fun L v W3 => Below wr.heap.size wr W3 ∧ VF L v [some (.int .i64 p), some (.agg (zb 64 (m))), some (.slice (some ⟨bS, 0, none⟩) NL NL), some (.int .i64 (j : Int)), some (.pointer (some ⟨bS, j * 512, none⟩)), some (.agg (zb 512 (fl 64 F))), some (.bool false), some (.bool true)]) ?_ ?_ ?_
      · intro v hv0
        exact ⟨(Below.refl _ wr).drew, VF.start⟩
      · refine (.cons rfl ?_ (.cons rfl ?_ (.cons rfl ?_ (.cons rfl ?_ (.cons rfl ?_ (.cons rfl ?_ (.cons rfl ?_ (.cons rfl ?_ (.nil _)))))))))
        all_goals intro L v W3 hd hn ⟨hY, V⟩ K hK
        · go_wp2_with fail
          exact hK _ (.int .i64 p) _ (by simp only [Act.put, pA, pB, pC ]) ⟨hY, V.step 0 rfl⟩
        · refine zlc (B1.zw hY) Try.underlying28 Try.size28 ?_
          exact hK _ _ _ rfl ⟨hY, V.step 1 rfl⟩
        · go_wp2_with fail
          exact hK _ (.slice (some ⟨bS, 0, none⟩) NL NL) _ (by simp only [Act.put, pA, pB, pC ]) ⟨hY, V.step 2 rfl⟩
        · go_wp2_with fail
          exact hK _ (.int .i64 (j : Int)) _ (by simp only [Act.put, pA, pB, pC ]) ⟨hY, V.step 3 rfl⟩
        · have e2 := V.at (zdq hd 2 rfl) rfl
          have e3 := V.at (zdq hd 3 rfl) rfl
          go_wp2_with fail
          exact hK _ (.pointer (some ⟨bS, j * 512, none⟩)) _ (by simp only [Act.put, pA, pB, pC, e2, e3]) ⟨hY, V.step 4 rfl⟩
        · have e4 := V.at (zdq hd 4 rfl) rfl
          refine wp_load_mid 46 _ rfl _ (j * 512) e4 _ _ ((B0.zw hY).skAt HFJ.out) Try.underlying46 rfl (by rw [zl]; exact Try.size46) ?_
          exact hK _ _ _ rfl ⟨hY, V.step 5 rfl⟩
        · have e0 := V.at (zdq hd 0 rfl) rfl
          have e1 := V.at (zdq hd 1 rfl) rfl
          have e5 := V.at (zdq hd 5 rfl) rfl
          go_wp2_with (go_at_call 119; refine (HSF.out _).mono ?_; rintro e wy ⟨rfl, hy⟩)
          exact hK _ (.bool false) _ (by simp only [Act.put, pA, pB, pC, e0, e1, e5]) ⟨hY.trans (hy.mono hY.size), V.step 6 rfl⟩
        · have e6 := V.at (zdq hd 6 rfl) rfl
          go_wp2_with fail
          exact hK _ (.bool true) _ (by simp only [Act.put, pA, pB, pC, e6]) ⟨hY, V.step 7 rfl⟩
      · intro L v W3 hL ⟨hY, V⟩
        have e0 := V.at (hL 0 (by decide)) rfl
        have e1 := V.at (hL 1 (by decide)) rfl
        have e2 := V.at (hL 2 (by decide)) rfl
        have e3 := V.at (hL 3 (by decide)) rfl
        have e4 := V.at (hL 4 (by decide)) rfl
        have e5 := V.at (hL 5 (by decide)) rfl
        have e6 := V.at (hL 6 (by decide)) rfl
        have e7 := V.at (hL 7 (by decide)) rfl
        clear hL V
        replace B0 := B0.zw hY
        replace B1 := B1.zw hY
        replace hb := hb.trans (hY.mono hb.size)
        clear hY
        simp only [Exit.then, e0, e1, e2, e3, e4, e5, e6, e7]
        clear e0 e1 e2 e3 e4 e5 e6 e7
        go_wp2_with fail
        go_ret
        exact ⟨by rw [HV.out]; rfl, hb⟩
     | true =>
      rw [hr] at HSF
      have HA := Lib.hid (show ∀ (i : Nat) (G : Nat → Nat → Nat), i < j + 1 → Fs[i]? = some G → skB p m G = true from fun i G hi hG => by
       by_cases e : i = j
       · subst e; rw [HFJ.out] at hG; injection hG with hG; subst hG; exact hr
       · exact hall.out i G (by omega) hG)
      clear hr
      go_upto_region 6 with (fail)
      refine zq Try.mixed (by kernel_rfl) (by kernel_rfl) (fun v => by (simp only [frL, Act.put, pA, pB, pC, Nat.reduceAdd, Nat.zero_add]; exact rfl))
       (fun L v W3 => Below wr.heap.size wr W3 ∧ VF L v [some (.int .i64 p), some (.agg (zb 64 (m))), some (.slice (some ⟨bS, 0, none⟩) NL NL), some (.int .i64 (j : Int)), some (.pointer (some ⟨bS, j * 512, none⟩)), some (.agg (zb 512 (fl 64 F))), some (.bool true), some (.bool false)]) ?_ ?_ ?_
      · intro v hv0
        exact ⟨(Below.refl _ wr).drew, VF.start⟩
      · refine (.cons rfl ?_ (.cons rfl ?_ (.cons rfl ?_ (.cons rfl ?_ (.cons rfl ?_ (.cons rfl ?_ (.cons rfl ?_ (.cons rfl ?_ (.nil _)))))))))
        all_goals intro L v W3 hd hn ⟨hY, V⟩ K hK
        · go_wp2_with fail
          exact hK _ (.int .i64 p) _ (by simp only [Act.put, pA, pB, pC ]) ⟨hY, V.step 0 rfl⟩
        · refine zlc (B1.zw hY) Try.underlying28 Try.size28 ?_
          exact hK _ _ _ rfl ⟨hY, V.step 1 rfl⟩
        · go_wp2_with fail
          exact hK _ (.slice (some ⟨bS, 0, none⟩) NL NL) _ (by simp only [Act.put, pA, pB, pC ]) ⟨hY, V.step 2 rfl⟩
        · go_wp2_with fail
          exact hK _ (.int .i64 (j : Int)) _ (by simp only [Act.put, pA, pB, pC ]) ⟨hY, V.step 3 rfl⟩
        · have e2 := V.at (zdq hd 2 rfl) rfl
          have e3 := V.at (zdq hd 3 rfl) rfl
          go_wp2_with fail
          exact hK _ (.pointer (some ⟨bS, j * 512, none⟩)) _ (by simp only [Act.put, pA, pB, pC, e2, e3]) ⟨hY, V.step 4 rfl⟩
        · have e4 := V.at (zdq hd 4 rfl) rfl
          refine wp_load_mid 46 _ rfl _ (j * 512) e4 _ _ ((B0.zw hY).skAt HFJ.out) Try.underlying46 rfl (by rw [zl]; exact Try.size46) ?_
          exact hK _ _ _ rfl ⟨hY, V.step 5 rfl⟩
        · have e0 := V.at (zdq hd 0 rfl) rfl
          have e1 := V.at (zdq hd 1 rfl) rfl
          have e5 := V.at (zdq hd 5 rfl) rfl
          go_wp2_with (go_at_call 119; refine (HSF.out _).mono ?_; rintro e wy ⟨rfl, hy⟩)
          exact hK _ (.bool true) _ (by simp only [Act.put, pA, pB, pC, e0, e1, e5]) ⟨hY.trans (hy.mono hY.size), V.step 6 rfl⟩
        · have e6 := V.at (zdq hd 6 rfl) rfl
          go_wp2_with fail
          exact hK _ (.bool false) _ (by simp only [Act.put, pA, pB, pC, e6]) ⟨hY, V.step 7 rfl⟩
      · intro L v W3 hL ⟨hY, V⟩
        have e0 := V.at (hL 0 (by decide)) rfl
        have e1 := V.at (hL 1 (by decide)) rfl
        have e2 := V.at (hL 2 (by decide)) rfl
        have e3 := V.at (hL 3 (by decide)) rfl
        have e4 := V.at (hL 4 (by decide)) rfl
        have e5 := V.at (hL 5 (by decide)) rfl
        have e6 := V.at (hL 6 (by decide)) rfl
        have e7 := V.at (hL 7 (by decide)) rfl
        clear hL V
        replace B0 := B0.zw hY
        replace B1 := B1.zw hY
        replace hb := hb.trans (hY.mono hb.size)
        clear hY
        simp only [Exit.then, e0, e1, e2, e3, e4, e5, e6, e7]
        clear e0 e1 e2 e3 e4 e5 e6 e7
        go_wp2_with fail
        go_roundw
        case rel => exact ⟨j + 1, by go_num, by omega, HA, hb, B0, B1⟩
        case measure => simp [intOf] <;> omega
   · have hjI : ¬ (j : Int) < (NL : Int) := by omega
     have HV := Lib.hid (HYES.out (fun i F hF => hall.out i F (by have := (List.getElem?_eq_some_iff.1 hF).1; have := HNL.out; omega) hF))
     go_wp2_with fail
     go_ret
     exact ⟨by rw [HV.out]; rfl, hb⟩
set_option maxRecDepth 100000 in
set_option maxHeartbeats 1600000 in
theorem checkSkews_any (p : Int) (m : Nat → Nat) (hm : byte m) (Fs : List (Nat → Nat → Nat)) (hF : ∀ F, F ∈ Fs → ∀ i, byte (F i)) (hlen : Fs.length ≤ 8) (bS : Nat) (w : World) (B0 : Row w bS 46 (skL Fs).toArray) :
 Calls Try.prog 90 #[.int .i64 p, .agg (zb 64 m), .slice (some ⟨bS, 0, none⟩) Fs.length Fs.length] w fun e w' => e = .returned (.int .i64 (ckS p m Fs)) ∧ Below w.heap.size w w' := by
 have HFL := Lib.hid (fun W => impl_IsField_any p m hm W)
 have HSK := Lib.hid (fun F (h : F ∈ Fs) W => isSkew_any p m F hm (hF F h) W)
 have HNO := Lib.hid (fun (j : Nat) F (hj : Fs[j]? = some F) h => ckS_no (p := p) (m := m) hj h)
 obtain ⟨NL, hNL⟩ : ∃ NL, NL = Fs.length := ⟨_, rfl⟩
 have HNL := Lib.hid hNL
 rw [← hNL] at hlen ⊢
 clear hF hNL
 have zx_0 := B0.lt
 go_enter Try.func90, Try.ntmps90
 go_upto_region 1 with (fail)
 obtain ⟨W1, hwo⟩ : ∃ v : World, v = (w.alloc (.cells (zb 64 (m)) 28)) := ⟨_, rfl⟩
 have B1 : Blk W1 (w.heap.size) 64 28 (m) := by subst hwo; have := (Blk.new w 64 28 (m)); simpa using this
 replace B0 : Row W1 (bS) 46 (skL Fs).toArray := by subst hwo; exact (B0.alloc (.cells (zb 64 (m)) 28))
 have hb : Below w.heap.size w W1 := by subst hwo; exact ((Below.refl _ _).alloc (Nat.le_refl _) _)
 rw [← hwo]
 clear hwo
 cases hf : flV p m with
 | false =>
  have HV := Lib.hid (ckS_f (p := p) (m := m) (Fs := Fs) hf)
  have lt_B0 := B0.lt
  have lt_B1 := B1.lt
  go_upto_region 2 with (first | rw [← z64] | rw [← fdC_zero] | (refine zla (.tmp 4) B1 Try.underlying28 Try.size28 ?_) | (refine zbo rfl 70 _ rfl (fdC p m).toArray (by rw [Array.toList_map]; exact built_fd p m) ?_) | (refine wpList_store_rowv rfl 70 (.tmp 7) (.tmp 12) rfl _ rfl (fdC p m).toArray rfl 70 _ ((Row.new W1 70 (fdC 0 (fun _ => 0)).toArray)) 65 Try.size70 (by simp [fdC_len]) (by simp [fdC_len]) (fdC_all _ _) ?_; try simp only [Act.put]))
  have lt_B0 := B0.lt
  have lt_B1 := B1.lt
  have lhb := hb.size
  obtain ⟨W2, hwo, hzQ⟩ : ∃ v : World, v = ((W1.alloc (.cells (fdC 0 (fun _ => 0)).toArray 70)).setRow (W1.heap.size) (fdC p m).toArray) ∧ Row v (bS) 46 (skL Fs).toArray ∧ Blk v (w.heap.size) 64 28 (m) ∧ Row v (W1.heap.size) 70 (fdC p m).toArray ∧ Below w.heap.size w v := ⟨_, rfl, ((B0.alloc (.cells (fdC 0 (fun _ => 0)).toArray 70)).rowOther (by omega)), ((B1.alloc (.cells (fdC 0 (fun _ => 0)).toArray 70)).rowOther (by omega)), ((Row.new W1 70 (fdC 0 (fun _ => 0)).toArray).row (fdC p m).toArray), (zr (hb.alloc (by have := hb.size; simp; omega) (.cells (fdC 0 (fun _ => 0)).toArray 70)) (by omega) _)⟩
  rw [← hwo]
  clear hwo B0 B1 hb
  obtain ⟨B0, B1, B2, hb⟩ := hzQ
  obtain ⟨N1, hNN⟩ : ∃ n : Nat, n = W1.heap.size := ⟨_, rfl⟩
  rw [← hNN] at lt_B0 lt_B1 lhb B2 ⊢
  clear hNN
  have zN1_0 := lt_B0
  have zN1_1 := lt_B1
  have zN1 := lhb
  clear lt_B0 lt_B1 lhb
  try simp only [Act.put, pA, pB, pC]
  go_upto_region 3 with (first | (refine zla (.tmp 4) B1 Try.underlying28 Try.size28 ?_) | (go_at_call 97; refine (HFL.out _).mono ?_; rintro e W3 ⟨rfl, hW3⟩; replace B0 := B0.zw hW3; replace B1 := B1.zw hW3; replace B2 := B2.zw hW3; replace hb := (hb).trans (hW3.mono (hb).size); rw [hf]))
  go_wp2_with fail
  go_ret
  exact ⟨by rw [HV.out]; rfl, hb⟩
 | true =>
  have HYES := Lib.hid (fun h => ckS_yes (p := p) (m := m) (Fs := Fs) hf h)
  have lt_B0 := B0.lt
  have lt_B1 := B1.lt
  go_upto_region 2 with (first | rw [← z64] | rw [← fdC_zero] | (refine zla (.tmp 4) B1 Try.underlying28 Try.size28 ?_) | (refine zbo rfl 70 _ rfl (fdC p m).toArray (by rw [Array.toList_map]; exact built_fd p m) ?_) | (refine wpList_store_rowv rfl 70 (.tmp 7) (.tmp 12) rfl _ rfl (fdC p m).toArray rfl 70 _ ((Row.new W1 70 (fdC 0 (fun _ => 0)).toArray)) 65 Try.size70 (by simp [fdC_len]) (by simp [fdC_len]) (fdC_all _ _) ?_; try simp only [Act.put]))
  have lt_B0 := B0.lt
  have lt_B1 := B1.lt
  have lhb := hb.size
  obtain ⟨W2, hwo, hzQ⟩ : ∃ v : World, v = ((W1.alloc (.cells (fdC 0 (fun _ => 0)).toArray 70)).setRow (W1.heap.size) (fdC p m).toArray) ∧ Row v (bS) 46 (skL Fs).toArray ∧ Blk v (w.heap.size) 64 28 (m) ∧ Row v (W1.heap.size) 70 (fdC p m).toArray ∧ Below w.heap.size w v := ⟨_, rfl, ((B0.alloc (.cells (fdC 0 (fun _ => 0)).toArray 70)).rowOther (by omega)), ((B1.alloc (.cells (fdC 0 (fun _ => 0)).toArray 70)).rowOther (by omega)), ((Row.new W1 70 (fdC 0 (fun _ => 0)).toArray).row (fdC p m).toArray), (zr (hb.alloc (by have := hb.size; simp; omega) (.cells (fdC 0 (fun _ => 0)).toArray 70)) (by omega) _)⟩
  rw [← hwo]
  clear hwo B0 B1 hb
  obtain ⟨B0, B1, B2, hb⟩ := hzQ
  obtain ⟨N1, hNN⟩ : ∃ n : Nat, n = W1.heap.size := ⟨_, rfl⟩
  rw [← hNN] at lt_B0 lt_B1 lhb B2 ⊢
  clear hNN
  have zN1_0 := lt_B0
  have zN1_1 := lt_B1
  have zN1 := lhb
  clear lt_B0 lt_B1 lhb
  try simp only [Act.put, pA, pB, pC]
  go_upto_region 4 with (first | (refine zla (.tmp 4) B1 Try.underlying28 Try.size28 ?_) | (go_at_call 97; refine (HFL.out _).mono ?_; rintro e W3 ⟨rfl, hW3⟩; replace B0 := B0.zw hW3; replace B1 := B1.zw hW3; replace B2 := B2.zw hW3; replace hb := (hb).trans (hW3.mono (hb).size); rw [hf]))
  clear hf HFL
  go_wp2_with fail
  go_loopw [19] (fun c wr => ∃ j : Nat, c = .int .i64 (j : Int) ∧ j ≤ NL ∧ Hid (∀ (i : Nat) (F : Nat → Nat → Nat), i < j → Fs[i]? = some F → skB p m F = true) ∧ Below w.heap.size w wr ∧ Row wr (bS) 46 (skL Fs).toArray ∧ Blk wr (w.heap.size) 64 28 m ∧ Row wr (N1) 70 (fdC p m).toArray) (fun c _ => NL - (intOf c).toNat)
  case atStart => exact ⟨0, rfl, Nat.zero_le _, Lib.hid (fun i F hi => absurd hi (Nat.not_lt_zero i)), hb, B0, B1, B2⟩
  case round =>
   clear hb B0 B1 B2
   obtain ⟨j, rfl, hjn, hall, hb, B0, B1, B2⟩ := hrel
   by_cases hj : j < NL
   · have hjI : (j : Int) < (NL : Int) := by omega
     have hj' : j < Fs.length := by rw [← HNL.out]; exact hj
     obtain ⟨F, hF⟩ : ∃ F, Fs[j]? = some F := ⟨_, List.getElem?_eq_getElem hj'⟩
     have HFJ := Lib.hid hF
     have HSF := Lib.hid (HSK.out F (List.mem_of_getElem? hF))
     clear hF hj'
     cases hr : skB p m F with
     | false =>
      rw [hr] at HSF
      have HV := Lib.hid (HNO.out j F HFJ.out hr)
      clear hr
      go_upto_region 6 with (fail)
      have lt_B0 := B0.lt
      have lt_B1 := B1.lt
      have lt_B2 := B2.lt
      go_upto_region 7 with (first | rw [← z64] | rw [← zero512] | (refine wpList_load_mid rfl 46 (.tmp 21) rfl _ (j * 512) rfl (bl 512 (fl 64 F)) _ (B0.skAt HFJ.out) Try.underlying46 rfl (by rw [zl]; exact Try.size46) ?_) | (refine wpList_store_blk rfl 46 (.tmp 9) (.tmp 22) rfl _ 512 (fl 64 F) rfl rfl 46 _ ((Blk.new wr 512 46 (fl 64 (fun _ _ => 0)))) Try.size46 ?_; try simp only [Act.put]))
      have lt_B0 := B0.lt
      have lt_B1 := B1.lt
      have lt_B2 := B2.lt
      have lhb := hb.size
      obtain ⟨W4, hwo, hzQ⟩ : ∃ v : World, v = ((wr.alloc (.cells (zb 512 (fl 64 (fun _ _ => 0))) 46)).setRow (wr.heap.size) (zb 512 (fl 64 F))) ∧ Row v (bS) 46 (skL Fs).toArray ∧ Blk v (w.heap.size) 64 28 (m) ∧ Row v (N1) 70 (fdC p m).toArray ∧ Blk v (wr.heap.size) 512 46 (fl 64 F) ∧ Below w.heap.size w v := ⟨_, rfl, ((B0.alloc (.cells (zb 512 (fl 64 (fun _ _ => 0))) 46)).rowOther (by omega)), ((B1.alloc (.cells (zb 512 (fl 64 (fun _ _ => 0))) 46)).rowOther (by omega)), ((B2.alloc (.cells (zb 512 (fl 64 (fun _ _ => 0))) 46)).rowOther (by omega)), ((Blk.new wr 512 46 (fl 64 (fun _ _ => 0))).row (fl 64 F)), (zr (hb.alloc (by have := hb.size; simp; omega) (.cells (zb 512 (fl 64 (fun _ _ => 0))) 46)) (by omega) _)⟩
      rw [← hwo]
      clear hwo B0 B1 B2 hb
      obtain ⟨B0, B1, B2, B3, hb⟩ := hzQ
      obtain ⟨N2, hNN⟩ : ∃ n : Nat, n = wr.heap.size := ⟨_, rfl⟩
      rw [← hNN] at lt_B0 lt_B1 lt_B2 lhb B3 ⊢
      clear hNN
      have zN2_0 := lt_B0
      have zN2_1 := lt_B1
      have zN2_2 := lt_B2
      have zN2 := lhb
      clear lt_B0 lt_B1 lt_B2 lhb
      try simp only [Act.put, pA, pB, pC]
      go_upto_region 8 with (first | (refine zlr rfl 70 (.tmp 7) rfl _ rfl 70 (fdC p m).toArray (B2) _ Try.underlying70 rfl 65 Try.size70 (by simp [fdC_len]) ?_) | (refine zla (.tmp 9) B3 Try.underlying46 Try.size46 ?_) | (go_at_call 129; refine (HSF.out _).mono ?_; rintro e W5 ⟨rfl, hW5⟩; replace B0 := B0.zw hW5; replace B1 := B1.zw hW5; replace B2 := B2.zw hW5; replace B3 := B3.zw hW5; replace hb := (hb).trans (hW5.mono (hb).size)))
      go_wp2_with fail
      go_ret
      exact ⟨by rw [HV.out]; rfl, hb⟩
     | true =>
      rw [hr] at HSF
      have HA := Lib.hid (show ∀ (i : Nat) (G : Nat → Nat → Nat), i < j + 1 → Fs[i]? = some G → skB p m G = true from fun i G hi hG => by
       by_cases e : i = j
       · subst e; rw [HFJ.out] at hG; injection hG with hG; subst hG; exact hr
       · exact hall.out i G (by omega) hG)
      clear hr
      go_upto_region 6 with (fail)
      have lt_B0 := B0.lt
      have lt_B1 := B1.lt
      have lt_B2 := B2.lt
      go_upto_region 7 with (first | rw [← z64] | rw [← zero512] | (refine wpList_load_mid rfl 46 (.tmp 21) rfl _ (j * 512) rfl (bl 512 (fl 64 F)) _ (B0.skAt HFJ.out) Try.underlying46 rfl (by rw [zl]; exact Try.size46) ?_) | (refine wpList_store_blk rfl 46 (.tmp 9) (.tmp 22) rfl _ 512 (fl 64 F) rfl rfl 46 _ ((Blk.new wr 512 46 (fl 64 (fun _ _ => 0)))) Try.size46 ?_; try simp only [Act.put]))
      have lt_B0 := B0.lt
      have lt_B1 := B1.lt
      have lt_B2 := B2.lt
      have lhb := hb.size
      obtain ⟨W4, hwo, hzQ⟩ : ∃ v : World, v = ((wr.alloc (.cells (zb 512 (fl 64 (fun _ _ => 0))) 46)).setRow (wr.heap.size) (zb 512 (fl 64 F))) ∧ Row v (bS) 46 (skL Fs).toArray ∧ Blk v (w.heap.size) 64 28 (m) ∧ Row v (N1) 70 (fdC p m).toArray ∧ Blk v (wr.heap.size) 512 46 (fl 64 F) ∧ Below w.heap.size w v := ⟨_, rfl, ((B0.alloc (.cells (zb 512 (fl 64 (fun _ _ => 0))) 46)).rowOther (by omega)), ((B1.alloc (.cells (zb 512 (fl 64 (fun _ _ => 0))) 46)).rowOther (by omega)), ((B2.alloc (.cells (zb 512 (fl 64 (fun _ _ => 0))) 46)).rowOther (by omega)), ((Blk.new wr 512 46 (fl 64 (fun _ _ => 0))).row (fl 64 F)), (zr (hb.alloc (by have := hb.size; simp; omega) (.cells (zb 512 (fl 64 (fun _ _ => 0))) 46)) (by omega) _)⟩
      rw [← hwo]
      clear hwo B0 B1 B2 hb
      obtain ⟨B0, B1, B2, B3, hb⟩ := hzQ
      obtain ⟨N2, hNN⟩ : ∃ n : Nat, n = wr.heap.size := ⟨_, rfl⟩
      rw [← hNN] at lt_B0 lt_B1 lt_B2 lhb B3 ⊢
      clear hNN
      have zN2_0 := lt_B0
      have zN2_1 := lt_B1
      have zN2_2 := lt_B2
      have zN2 := lhb
      clear lt_B0 lt_B1 lt_B2 lhb
      try simp only [Act.put, pA, pB, pC]
      go_upto_region 9 with (first | (refine zlr rfl 70 (.tmp 7) rfl _ rfl 70 (fdC p m).toArray (B2) _ Try.underlying70 rfl 65 Try.size70 (by simp [fdC_len]) ?_) | (refine zla (.tmp 9) B3 Try.underlying46 Try.size46 ?_) | (go_at_call 129; refine (HSF.out _).mono ?_; rintro e W5 ⟨rfl, hW5⟩; replace B0 := B0.zw hW5; replace B1 := B1.zw hW5; replace B2 := B2.zw hW5; replace B3 := B3.zw hW5; replace hb := (hb).trans (hW5.mono (hb).size)))
      go_wp2_with fail
      go_roundw
      case rel => exact ⟨j + 1, by go_num, by omega, HA, hb, B0, B1, B2⟩
      case measure => simp [intOf] <;> omega
   · have hjI : ¬ (j : Int) < (NL : Int) := by omega
     have HV := Lib.hid (HYES.out (fun i F hF => hall.out i F (by have := (List.getElem?_eq_some_iff.1 hF).1; have := HNL.out; omega) hF))
     go_wp2_with fail
     go_ret
     exact ⟨by rw [HV.out]; rfl, hb⟩
end Go.Proofs.Ytelgefgphhebnaa
end
section
namespace Go.Proofs.Ytelgefgphhebnaa
open Go Go.RowKit
set_option linter.unusedVariables false
set_option linter.unusedSimpArgs false
attribute [local irreducible] deg addK okA flV skA
theorem ckS_fld {p : Int} {m : Nat → Nat} {Fs : List (Nat → Nat → Nat)} (h : ckS p m Fs = 0) : ∃ n : Nat, p = (n : Int) ∧ (n = 2 ∨ n = 3 ∨ n = 5 ∨ n = 7) ∧ (∀ k, k < 64 → m k < n) ∧ (∃ d, mon m d ∧ 1 ≤ d ∧ d ≤ 4) ∧ ∀ F, F ∈ Fs → ∀ i, i < 8 → (∀ j, j < 64 → F i j < n) ∧ deg (F i) < deg m := by
 obtain ⟨h1, h2⟩ := ckS_zero h
 have ho : okA p m = true := by
  cases ho : okA p m with
  | true => rfl
  | false => rw [flV_1 ho] at h1; cases h1
 have hm : monUp 4 m = true := by
  cases hm : monUp 4 m with
  | true => rfl
  | false => rw [flV_2 hm] at h1; cases h1
 obtain ⟨n, hn, hpr, hl⟩ := okA_nat ho
 obtain ⟨d, a1, a2, a3⟩ := mon_up hm
 refine ⟨n, hn, hpr, hl, ⟨d, a1, a2, by omega⟩, fun F hF i hi => ?_⟩
 have h3 := skB_at (h2 F hF) hi
 by_cases ho2 : okA p (F i) = true
 · refine ⟨fun j hj => ?_, ?_⟩
   · have := okA_lt ho2 hj; omega
   · by_cases hd : deg (F i) < deg m
     · exact hd
     · rw [rsB_3 ho2 hd] at h3; cases h3
 · rw [rsB_1 (by simpa using ho2)] at h3; cases h3
noncomputable def isV (p : Int) (m : Nat → Nat) (F : Nat → Nat → Nat) : Bool := decide (ckS p m [F] = 0)
theorem isV_0 {p : Int} {m : Nat → Nat} {F : Nat → Nat → Nat} (h : ckS p m [F] = 0) : isV p m F = true := by unfold isV; simp [h]
theorem isV_1 {p : Int} {m : Nat → Nat} {F : Nat → Nat → Nat} (h : ckS p m [F] = 1) : isV p m F = false := by unfold isV; simp [h]
attribute [irreducible] isV
set_option maxRecDepth 100000 in
set_option maxHeartbeats 1600000 in
theorem impl_IsSkew_any (p : Int) (m : Nat → Nat) (F : Nat → Nat → Nat) (hm : byte m) (hF : ∀ i, byte (F i)) (w : World) :
 Calls Try.prog 73 #[.int .i64 p, .agg (zb 64 m), .agg (zb 512 (fl 64 F))] w fun e w' => e = .returned (.bool (isV p m F)) ∧ Below w.heap.size w w' := by
 go_enter Try.func73, Try.ntmps73
 go_upto_region 1 with (fail)
 obtain ⟨W1, hwo⟩ : ∃ v : World, v = ((w.alloc (.cells (zb 64 (m)) 28)).alloc (.cells (zb 512 (fl 64 F)) 46)) := ⟨_, rfl⟩
 have B0 : Blk W1 (w.heap.size) 64 28 (m) := by subst hwo; have := ((Blk.new w 64 28 (m)).alloc (.cells (zb 512 (fl 64 F)) 46)); simpa using this
 have B1 : Blk W1 (w.heap.size + 1) 512 46 (fl 64 F) := by subst hwo; have := (Blk.new (w.alloc (.cells (zb 64 (m)) 28)) 512 46 (fl 64 F)); simpa using this
 have hb : Below w.heap.size w W1 := by subst hwo; exact (((Below.refl _ _).alloc (Nat.le_refl _) _).alloc (by simp) _)
 rw [← hwo]
 clear hwo
 rcases ckS_two p m [F] with hc | hc
 · have HV := Lib.hid (isV_0 hc)
   go_wp2_with (first | (refine zla (.tmp 4) B0 Try.underlying28 Try.size28 ?_) | (refine zla (.tmp 5) B1 Try.underlying46 Try.size46 ?_) | (refine zbk rfl 129 _ [F] rfl 46 Try.underlying129 Try.elem46 (by simp) (by simp) rfl ?_; intro wa hps hba) | (go_at_call 90; refine (checkSkews_any p m hm [F] (by simp [hF]) (by simp) _ _ hps).mono ?_; rintro e W2 ⟨rfl, hbb⟩; rw [hc]))
   go_ret
   exact ⟨by rw [HV.out]; rfl, hb.trans ((hba.trans (hbb.mono hba.size)).mono hb.size)⟩
 · have HV := Lib.hid (isV_1 hc)
   go_wp2_with (first | (refine zla (.tmp 4) B0 Try.underlying28 Try.size28 ?_) | (refine zla (.tmp 5) B1 Try.underlying46 Try.size46 ?_) | (refine zbk rfl 129 _ [F] rfl 46 Try.underlying129 Try.elem46 (by simp) (by simp) rfl ?_; intro wa hps hba) | (go_at_call 90; refine (checkSkews_any p m hm [F] (by simp [hF]) (by simp) _ _ hps).mono ?_; rintro e W2 ⟨rfl, hbb⟩; rw [hc]))
   go_ret
   exact ⟨by rw [HV.out]; rfl, hb.trans ((hba.trans (hbb.mono hba.size)).mono hb.size)⟩
end Go.Proofs.Ytelgefgphhebnaa
end
section
namespace Go.Proofs.Ytelgefgphhebnaa
open Go Go.RowKit
set_option linter.unusedVariables false
set_option linter.unusedSimpArgs false
attribute [local irreducible] deg addK strP frI frN mmP pmP resP
set_option maxRecDepth 100000 in
set_option maxHeartbeats 1600000 in
theorem kproduct_any (p : Nat) (m f g : Nat → Nat) (w : World) (hpr : p = 2 ∨ p = 3 ∨ p = 5 ∨ p = 7) (lm : ∀ k, k < 64 → m k < p) (h0 : 0 ≤ deg m) (lf : ∀ k, k < 64 → f k < p) (lg : ∀ k, k < 64 → g k < p) :
 Calls Try.prog 122 #[.agg (fdC (p : Int) m).toArray, .agg (zb 64 f), .agg (zb 64 g)] w fun e w' => e = .returned (.agg (zb 64 (mmP p f g m))) ∧ Below w.heap.size w w' := by
 have HRP := Lib.hid (fun W => restOfProduct_any p f g m W hpr lf lg lm h0)
 go_enter Try.func122, Try.ntmps122
 go_upto_region 1 with (fail)
 rw [← z64]
 obtain ⟨W1, hwo⟩ : ∃ v : World, v = ((((w.alloc (.cells (fdC (p : Int) m).toArray 70)).alloc (.cells (zb 64 (f)) 28)).alloc (.cells (zb 64 (g)) 28)).alloc (.cells (zb 64 (fun _ => 0)) 28)) := ⟨_, rfl⟩
 have B0 : Row W1 (w.heap.size) 70 (fdC (p : Int) m).toArray := by subst hwo; have := ((((Row.new w 70 (fdC (p : Int) m).toArray).alloc (.cells (zb 64 (f)) 28)).alloc (.cells (zb 64 (g)) 28)).alloc (.cells (zb 64 (fun _ => 0)) 28)); simpa using this
 have B1 : Blk W1 (w.heap.size + 1) 64 28 (f) := by subst hwo; have := (((Blk.new (w.alloc (.cells (fdC (p : Int) m).toArray 70)) 64 28 (f)).alloc (.cells (zb 64 (g)) 28)).alloc (.cells (zb 64 (fun _ => 0)) 28)); simpa using this
 have B2 : Blk W1 (w.heap.size + 1 + 1) 64 28 (g) := by subst hwo; have := ((Blk.new ((w.alloc (.cells (fdC (p : Int) m).toArray 70)).alloc (.cells (zb 64 (f)) 28)) 64 28 (g)).alloc (.cells (zb 64 (fun _ => 0)) 28)); simpa using this
 have B3 : Blk W1 (w.heap.size + 1 + 1 + 1) 64 28 (fun _ => 0) := by subst hwo; have := (Blk.new (((w.alloc (.cells (fdC (p : Int) m).toArray 70)).alloc (.cells (zb 64 (f)) 28)).alloc (.cells (zb 64 (g)) 28)) 64 28 (fun _ => 0)); simpa using this
 have hb : Below w.heap.size w W1 := by subst hwo; exact (((((Below.refl _ _).alloc (Nat.le_refl _) _).alloc (by simp) _).alloc (by simp; omega) _).alloc (by simp; omega) _)
 rw [← hwo]
 clear hwo
 have cc := B0.cell (i := 0) (v := .int .i64 (p : Int)) (fdC_at (p : Int) m)
 have lt_B0 := B0.lt
 have lt_B1 := B1.lt
 have lt_B2 := B2.lt
 have lt_B3 := B3.lt
 go_wp2_with (first | rw [← z64] | (refine zla (.tmp 4) B1 Try.underlying28 Try.size28 ?_) | (refine zla (.tmp 5) B2 Try.underlying28 Try.size28 ?_) | (refine wpList_load_mid rfl 28 (.tmp 11) rfl _ 1 rfl (bl 64 m) _ (B0.fd) Try.underlying28 rfl (by rw [zl]; exact Try.size28) ?_) | (go_at_call 150; refine (HRP.out _).mono ?_; rintro e W2 ⟨rfl, hW2⟩; replace B0 := B0.zw hW2; replace B1 := B1.zw hW2; replace B2 := B2.zw hW2; replace B3 := B3.zw hW2; replace hb := (hb).trans (hW2.mono (hb).size)) | (refine zsr (.tmp 6) (.tmp 13) (mmP p f g m) B3 Try.size28 ?_; try simp only [Act.put]))
 obtain ⟨W3, hwo, hzQ⟩ : ∃ v : World, v = (W2.setRow (w.heap.size + 1 + 1 + 1) (zb 64 (mmP p f g m))) ∧ Row v (w.heap.size) 70 (fdC (p : Int) m).toArray ∧ Blk v (w.heap.size + 1) 64 28 (f) ∧ Blk v (w.heap.size + 1 + 1) 64 28 (g) ∧ Blk v (w.heap.size + 1 + 1 + 1) 64 28 (mmP p f g m) ∧ Below w.heap.size w v := ⟨_, rfl, (B0.rowOther (by omega)), (B1.rowOther (by omega)), (B2.rowOther (by omega)), (B3.row (mmP p f g m)), (zr hb (by omega) _)⟩
 rw [← hwo]
 clear hwo B0 B1 B2 B3 hb
 obtain ⟨B0, B1, B2, B3, hb⟩ := hzQ
 try simp only [Act.put, pA, pB, pC]
 refine bodyPost_ret (zrb rfl _ _ _ 64 28 5 _ rfl B3 Try.underlying28 Try.size28) rfl ⟨rfl, hb⟩
set_option maxRecDepth 100000 in
set_option maxHeartbeats 1600000 in
theorem kfrob_any (p : Nat) (m x : Nat → Nat) (n : Nat) (w : World) (hpr : p = 2 ∨ p = 3 ∨ p = 5 ∨ p = 7) (lm : ∀ k, k < 64 → m k < p) (d : Nat) (hd : deg m = (d : Int)) (hd1 : 1 ≤ d) (hd9 : d ≤ 9) (hn : n ≤ 1000) (hx : rsd p m x) :
 Calls Try.prog 93 #[.agg (fdC (p : Int) m).toArray, .agg (zb 64 x), .int .i64 (n : Int)] w fun e w' => e = .returned (.agg (zb 64 (frN p m x (n % d)))) ∧ Below w.heap.size w w' := by
 have p0 : 0 < p := by omega
 have h0 : 0 ≤ deg m := by omega
 have h9 : deg m ≤ 9 := by omega
 obtain ⟨M, hM⟩ : ∃ M, M = n % d := ⟨_, rfl⟩
 have hMd : M < d := by rw [hM]; exact Nat.mod_lt _ (by omega)
 have tq1 : (n : Int).tmod (d : Int) = (M : Int) := by rw [Int.tmod_eq_emod_of_nonneg (by omega), hM]; rfl
 have tq2 : ((M : Int) + (d : Int)).tmod (d : Int) = (M : Int) := by
  rw [Int.tmod_eq_emod_of_nonneg (by omega), Int.add_emod_right]
  exact Int.emod_eq_of_lt (by omega) (by omega)
 have HM := Lib.hid hM
 rw [← hM]
 clear hM
 have HD := Lib.hid hd
 have hdz : ¬ (d : Int) = 0 := by omega
 have HZ := Lib.hid (frN_z p m x)
 have HS := Lib.hid (frN_s p m x)
 have HR := Lib.hid (fun j => (frN_ok hpr lm h0 h9 hx j).1)
 have HST := Lib.hid (fun (y : Nat → Nat) (hy : rsd p m y) W => stretched_any p y W (by omega) (by omega) (fun k hk => by have := hy.1 k hk; omega) (by have := hy.2; rcases hpr with rfl | rfl | rfl | rfl <;> omega))
 have HRO := Lib.hid (show ∀ y, rsd p m y → ∀ W, Calls Try.prog 66 #[.int .i64 (p : Int), .agg (zb 64 (strP p y)), .agg (zb 64 m)] W fun e w' => e = .returned (.agg (zb 64 (frI p m y))) ∧ Below W.heap.size W w' from fun y hy W => by
  have h := restOf_any p (strP p y) m W hpr (strP_lt p0 (by omega) hy.1) lm h0
  unfold frI; exact h)
 have HDG := Lib.hid (fun W => degree_any m W)
 rw [hd] at HDG
 clear hd h0 h9 hx
 go_enter Try.func93, Try.ntmps93
 go_upto_region 1 with (fail)
 rw [← z64]
 obtain ⟨W1, hwo⟩ : ∃ v : World, v = (((w.alloc (.cells (fdC (p : Int) m).toArray 70)).alloc (.cells (zb 64 (x)) 28)).alloc (.cells (zb 64 (fun _ => 0)) 28)) := ⟨_, rfl⟩
 have B0 : Row W1 (w.heap.size) 70 (fdC (p : Int) m).toArray := by subst hwo; have := (((Row.new w 70 (fdC (p : Int) m).toArray).alloc (.cells (zb 64 (x)) 28)).alloc (.cells (zb 64 (fun _ => 0)) 28)); simpa using this
 have B1 : Blk W1 (w.heap.size + 1) 64 28 (x) := by subst hwo; have := ((Blk.new (w.alloc (.cells (fdC (p : Int) m).toArray 70)) 64 28 (x)).alloc (.cells (zb 64 (fun _ => 0)) 28)); simpa using this
 have B2 : Blk W1 (w.heap.size + 1 + 1) 64 28 (fun _ => 0) := by subst hwo; have := (Blk.new ((w.alloc (.cells (fdC (p : Int) m).toArray 70)).alloc (.cells (zb 64 (x)) 28)) 64 28 (fun _ => 0)); simpa using this
 have hb : Below w.heap.size w W1 := by subst hwo; exact ((((Below.refl _ _).alloc (Nat.le_refl _) _).alloc (by simp) _).alloc (by simp; omega) _)
 rw [← hwo]
 clear hwo
 go_upto_region 2 with (first | (refine wpList_load_mid rfl 28 (.tmp 8) rfl _ 1 rfl (bl 64 m) _ (B0.fd) Try.underlying28 rfl (by rw [zl]; exact Try.size28) ?_) | (go_at_call 77; refine (HDG.out _).mono ?_; rintro e W2 ⟨rfl, hW2⟩; replace B0 := B0.zw hW2; replace B1 := B1.zw hW2; replace B2 := B2.zw hW2; replace hb := (hb).trans (hW2.mono (hb).size)))
 go_wp2_with fail
 go_loopw [18] (fun c wr => ∃ j : Nat, c = .int .i64 (j : Int) ∧ j ≤ M ∧ Below w.heap.size w wr ∧ Row wr (w.heap.size) 70 (fdC (p : Int) m).toArray ∧ Blk wr (w.heap.size + 1) 64 28 (frN p m x j) ∧ Blk wr (w.heap.size + 1 + 1) 64 28 (fun _ => 0)) (fun c _ => M - (intOf c).toNat)
 case atStart => exact ⟨0, rfl, Nat.zero_le _, hb, B0, by rw [HZ.out]; exact B1, B2⟩
 case round =>
  clear hb B0 B1 B2
  obtain ⟨j, rfl, hjM, hb, B0, B1, B2⟩ := hrel
  by_cases hj : j < M
  · have hjI : (j : Int) < (M : Int) := by omega
    have HR1 := Lib.hid (HR.out j)
    have HS1 := Lib.hid (HST.out _ HR1.out)
    have HS2 := Lib.hid (HRO.out _ HR1.out)
    go_upto_region 4 with (fail)
    have lt_B0 : (w.heap.size) < wr.heap.size := B0.lt
    have lt_B1 : (w.heap.size + 1) < wr.heap.size := B1.lt
    have lt_B2 : (w.heap.size + 1 + 1) < wr.heap.size := B2.lt
    have hbase : w.heap.size ≤ wr.heap.size := hb.size
    refine zq Try.mixed (by kernel_rfl) (by kernel_rfl) (fun v => by (simp only [frL, Act.put, pA, pB, pC, Nat.reduceAdd, Nat.zero_add]; exact rfl))
     (fun L v W3 => Below w.heap.size w W3 ∧ Kx [w.heap.size + 1] wr W3 ∧ (∃ g, Blk W3 (w.heap.size + 1) 64 28 (g)) ∧ (L 9 = false → Blk W3 (w.heap.size + 1) 64 28 (frN p m x j)) ∧ (L 9 = true → Blk W3 (w.heap.size + 1) 64 28 (frI p m (frN p m x j))) ∧ VF L v [some (.pointer (some ⟨w.heap.size, 0, none⟩)), some (.int .i64 (p : Int)), some (.agg (zb 64 (frN p m x j))), some (.pointer (some ⟨w.heap.size, 0, none⟩)), some (.int .i64 (p : Int)), some (.agg (zb 64 (strP p (frN p m x j)))), some (.pointer (some ⟨w.heap.size, 1, none⟩)), some (.agg (zb 64 (m))), some (.agg (zb 64 (frI p m (frN p m x j)))), none]) ?_ ?_ ?_
    · intro v hv0
      exact ⟨hb.drew, Kx.start _ _, ⟨_, B1.drew⟩, (fun _ => B1.drew), (fun h => by cases h), VF.start⟩
    · refine (.cons rfl ?_ (.cons rfl ?_ (.cons rfl ?_ (.cons rfl ?_ (.cons rfl ?_ (.cons rfl ?_ (.cons rfl ?_ (.cons rfl ?_ (.cons rfl ?_ (.cons rfl ?_ (.nil _)))))))))))
      all_goals intro L v W3 hd hn ⟨hB, hX, x1, q1, n1, V⟩ K hK
      · go_wp2_with fail
        exact hK _ (.pointer (some ⟨w.heap.size, 0, none⟩)) _ (by simp only [Act.put, pA, pB, pC ]) ⟨hB, hX, x1, q1, n1, V.step 0 rfl⟩
      · have e0 := V.at (zdq hd 0 rfl) rfl
        have cc := (B0.kx hX (by simp <;> omega)).cell (i := 0) (v := .int .i64 (p : Int)) (fdC_at (p : Int) m)
        go_wp2_with fail
        exact hK _ (.int .i64 (p : Int)) _ (by simp only [Act.put, pA, pB, pC, e0]) ⟨hB, hX, x1, q1, n1, V.step 1 rfl⟩
      · have s1 := q1 (by
         cases hL : L 9 with
         | false => rfl
         | true => exact absurd rfl (hn 9 _ rfl hL ⟨2, .phase⟩ (by simp) rfl))
        refine zlc s1 Try.underlying28 Try.size28 ?_
        exact hK _ _ _ rfl ⟨hB, hX, x1, q1, n1, V.step 2 rfl⟩
      · go_wp2_with fail
        exact hK _ (.pointer (some ⟨w.heap.size, 0, none⟩)) _ (by simp only [Act.put, pA, pB, pC ]) ⟨hB, hX, x1, q1, n1, V.step 3 rfl⟩
      · have e3 := V.at (zdq hd 3 rfl) rfl
        have cc := (B0.kx hX (by simp <;> omega)).cell (i := 0) (v := .int .i64 (p : Int)) (fdC_at (p : Int) m)
        go_wp2_with fail
        exact hK _ (.int .i64 (p : Int)) _ (by simp only [Act.put, pA, pB, pC, e3]) ⟨hB, hX, x1, q1, n1, V.step 4 rfl⟩
      · have e2 := V.at (zdq hd 2 rfl) rfl
        have e4 := V.at (zdq hd 4 rfl) rfl
        go_wp2_with (go_at_call 132; refine (HS1.out _).mono ?_; rintro e wy ⟨rfl, hy⟩)
        exact hK _ (.agg (zb 64 (strP p (frN p m x j)))) _ (by simp only [Act.put, pA, pB, pC, e2, e4]) ⟨hB.trans (hy.mono hB.size), hX.below hy, (let ⟨g, h⟩ := x1; ⟨g, h.zw hy⟩), (fun h => (q1 h).below hy (q1 h).lt), (fun h => (n1 h).below hy (n1 h).lt), V.step 5 rfl⟩
      · go_wp2_with fail
        exact hK _ (.pointer (some ⟨w.heap.size, 1, none⟩)) _ (by simp only [Act.put, pA, pB, pC ]) ⟨hB, hX, x1, q1, n1, V.step 6 rfl⟩
      · have e6 := V.at (zdq hd 6 rfl) rfl
        refine wp_load_mid 28 _ rfl _ 1 e6 _ _ ((B0.kx hX (by simp <;> omega)).fd) Try.underlying28 rfl (by rw [zl]; exact Try.size28) ?_
        exact hK _ _ _ rfl ⟨hB, hX, x1, q1, n1, V.step 7 rfl⟩
      · have e1 := V.at (zdq hd 1 rfl) rfl
        have e5 := V.at (zdq hd 5 rfl) rfl
        have e7 := V.at (zdq hd 7 rfl) rfl
        go_wp2_with (go_at_call 66; refine (HS2.out _).mono ?_; rintro e wy ⟨rfl, hy⟩)
        exact hK _ (.agg (zb 64 (frI p m (frN p m x j)))) _ (by simp only [Act.put, pA, pB, pC, e1, e5, e7]) ⟨hB.trans (hy.mono hB.size), hX.below hy, (let ⟨g, h⟩ := x1; ⟨g, h.zw hy⟩), (fun h => (q1 h).below hy (q1 h).lt), (fun h => (n1 h).below hy (n1 h).lt), V.step 8 rfl⟩
      · have e8 := V.at (zdq hd 8 rfl) rfl
        obtain ⟨gz, hk⟩ := x1
        refine zsb 28 _ _ rfl _ 64 (frI p m (frN p m x j)) rfl e8 28 gz hk Try.size28 ?_
        exact hK _ undef _ rfl ⟨zr hB (by omega) _, hX.row (by simp) _, ⟨_, hk.row _⟩, (fun h => absurd h (by simp [setL])), (fun _ => hk.row _), V.skip 9 rfl⟩
    · intro L v W3 hL ⟨hB, hX, x1, q1, n1, V⟩
      have r1 := n1 (hL 9 (by decide))
      have e0 := V.at (hL 0 (by decide)) rfl
      have e1 := V.at (hL 1 (by decide)) rfl
      have e2 := V.at (hL 2 (by decide)) rfl
      have e3 := V.at (hL 3 (by decide)) rfl
      have e4 := V.at (hL 4 (by decide)) rfl
      have e5 := V.at (hL 5 (by decide)) rfl
      have e6 := V.at (hL 6 (by decide)) rfl
      have e7 := V.at (hL 7 (by decide)) rfl
      have e8 := V.at (hL 8 (by decide)) rfl
      clear hL x1 q1 n1 V
      replace B0 := B0.kx hX (by simp <;> omega)
      replace B2 := B2.kx hX (by simp <;> omega)
      clear hX
      simp only [Exit.then, e0, e1, e2, e3, e4, e5, e6, e7, e8]
      clear e0 e1 e2 e3 e4 e5 e6 e7 e8
      replace B1 := r1
      clear r1
      replace hb := hB
      clear hB
      clear hbase lt_B0 lt_B1 lt_B2
      go_wp2_with fail
      go_roundw
      case rel => exact ⟨j + 1, by go_num, by omega, hb, B0, by rw [HS.out]; exact B1, B2⟩
      case measure => simp [intOf] <;> omega
  · have hjI : ¬ (j : Int) < (M : Int) := by omega
    obtain rfl : j = M := by omega
    go_upto_region 6 with (fail)
    have lt_B0 := B0.lt
    have lt_B1 := B1.lt
    have lt_B2 := B2.lt
    go_wp2_with (first | rw [← z64] | (refine zla (.tmp 4) B1 Try.underlying28 Try.size28 ?_) | (refine zsr (.tmp 6) (.tmp 30) (frN p m x j) B2 Try.size28 ?_; try simp only [Act.put]))
    obtain ⟨W3, hwo, hzQ⟩ : ∃ v : World, v = (wr.setRow (w.heap.size + 1 + 1) (zb 64 (frN p m x j))) ∧ Row v (w.heap.size) 70 (fdC (p : Int) m).toArray ∧ Blk v (w.heap.size + 1) 64 28 (frN p m x j) ∧ Blk v (w.heap.size + 1 + 1) 64 28 (frN p m x j) ∧ Below w.heap.size w v := ⟨_, rfl, (B0.rowOther (by omega)), (B1.rowOther (by omega)), (B2.row (frN p m x j)), (zr hb (by omega) _)⟩
    rw [← hwo]
    clear hwo B0 B1 B2 hb
    obtain ⟨B0, B1, B2, hb⟩ := hzQ
    try simp only [Act.put, pA, pB, pC]
    refine bodyPost_ret (zrb rfl _ _ _ 64 28 5 _ rfl B2 Try.underlying28 Try.size28) rfl ⟨rfl, hb⟩
set_option maxRecDepth 100000 in
set_option maxHeartbeats 1600000 in
theorem l03Frobenius_any (p : Nat) (m x : Nat → Nat) (n : Nat) (w : World) (hpr : p = 2 ∨ p = 3 ∨ p = 5 ∨ p = 7) (lm : ∀ k, k < 64 → m k < p) (d : Nat) (hd : deg m = (d : Int)) (hd1 : 1 ≤ d) (hd9 : d ≤ 9) (hn : n ≤ 1000) (hx : rsd p m x) :
 Calls Try.prog 92 #[.int .i64 (p : Int), .agg (zb 64 x), .int .i64 (n : Int), .agg (zb 64 m)] w fun e w' => e = .returned (.agg (zb 64 (frN p m x (n % d)))) ∧ Below w.heap.size w w' := by
 have p0 : 0 < p := by omega
 have h0 : 0 ≤ deg m := by omega
 have h9 : deg m ≤ 9 := by omega
 obtain ⟨M, hM⟩ : ∃ M, M = n % d := ⟨_, rfl⟩
 have hMd : M < d := by rw [hM]; exact Nat.mod_lt _ (by omega)
 have tq1 : (n : Int).tmod (d : Int) = (M : Int) := by rw [Int.tmod_eq_emod_of_nonneg (by omega), hM]; rfl
 rw [← hM]
 clear hM
 have hdz : ¬ (d : Int) = 0 := by omega
 have HZ := Lib.hid (frN_z p m x)
 have HS := Lib.hid (frN_s p m x)
 have HR := Lib.hid (fun j => (frN_ok hpr lm h0 h9 hx j).1)
 have HPM := Lib.hid (show ∀ y, rsd p m y → ∀ W, Calls Try.prog 107 #[.int .i64 (p : Int), .agg (zb 64 y), .int .i64 (p : Int), .agg (zb 64 m)] W fun e w' => e = .returned (.agg (zb 64 (frI p m y))) ∧ Below W.heap.size W w' from fun y hy W => by
  have h := l01PowMod_any p y p m W hpr hy.1 lm h0 (by omega)
  rw [zbc (frI_pm hpr lm h0 h9 hy)] at h; exact h)
 have HDG := Lib.hid (fun W => l01Deg_any m W)
 rw [hd] at HDG
 clear hd h0 h9 hx
 go_enter Try.func92, Try.ntmps92
 go_upto_region 1 with (fail)
 rw [← z64]
 obtain ⟨W1, hwo⟩ : ∃ v : World, v = (((w.alloc (.cells (zb 64 (x)) 28)).alloc (.cells (zb 64 (m)) 28)).alloc (.cells (zb 64 (fun _ => 0)) 28)) := ⟨_, rfl⟩
 have B0 : Blk W1 (w.heap.size) 64 28 (x) := by subst hwo; have := (((Blk.new w 64 28 (x)).alloc (.cells (zb 64 (m)) 28)).alloc (.cells (zb 64 (fun _ => 0)) 28)); simpa using this
 have B1 : Blk W1 (w.heap.size + 1) 64 28 (m) := by subst hwo; have := ((Blk.new (w.alloc (.cells (zb 64 (x)) 28)) 64 28 (m)).alloc (.cells (zb 64 (fun _ => 0)) 28)); simpa using this
 have B2 : Blk W1 (w.heap.size + 1 + 1) 64 28 (fun _ => 0) := by subst hwo; have := (Blk.new ((w.alloc (.cells (zb 64 (x)) 28)).alloc (.cells (zb 64 (m)) 28)) 64 28 (fun _ => 0)); simpa using this
 have hb : Below w.heap.size w W1 := by subst hwo; exact ((((Below.refl _ _).alloc (Nat.le_refl _) _).alloc (by simp) _).alloc (by simp; omega) _)
 rw [← hwo]
 clear hwo
 go_wp2_with (first | (refine zla (.tmp 7) B1 Try.underlying28 Try.size28 ?_) | (go_at_call 106; refine (HDG.out _).mono ?_; rintro e W9 ⟨rfl, hW9⟩; replace B0 := B0.zw hW9; replace B1 := B1.zw hW9; replace B2 := B2.zw hW9; replace hb := hb.trans (hW9.mono hb.size)))
 go_loopw [9] (fun c wr => ∃ i j : Nat, c = .int .i64 (i : Int) ∧ i + j = M ∧ Below w.heap.size w wr ∧ Blk wr (w.heap.size) 64 28 (frN p m x j) ∧ Blk wr (w.heap.size + 1) 64 28 m ∧ Blk wr (w.heap.size + 1 + 1) 64 28 (fun _ => 0)) (fun c _ => (intOf c).toNat)
 case atStart => exact ⟨M, 0, rfl, rfl, hb, by rw [HZ.out]; exact B0, B1, B2⟩
 case round =>
  clear hb B1 B0 B2
  obtain ⟨i, j, rfl, hij, hb, B0, B1, B2⟩ := hrel
  by_cases hj : 0 < i
  · have hjI : (i : Int) > 0 := by omega
    have hjI2 : (0 : Int) < (i : Int) := by omega
    have HR1 := Lib.hid (HR.out j)
    have HS1 := Lib.hid (HPM.out _ HR1.out)
    go_upto_region 4 with (fail)
    have lt_B0 := B0.lt
    have lt_B1 := B1.lt
    have lt_B2 := B2.lt
    go_upto_region 3 with (first | rw [← z64] | (refine zla (.tmp 5) B0 Try.underlying28 Try.size28 ?_) | (refine zla (.tmp 7) B1 Try.underlying28 Try.size28 ?_) | (go_at_call 107; refine (HS1.out _).mono ?_; rintro e W2 ⟨rfl, hW2⟩; replace B0 := B0.zw hW2; replace B1 := B1.zw hW2; replace B2 := B2.zw hW2; replace hb := (hb).trans (hW2.mono (hb).size)) | (refine zsr (.tmp 5) (.tmp 22) (frI p m (frN p m x j)) B0 Try.size28 ?_; try simp only [Act.put]))
    obtain ⟨W3, hwo, hzQ⟩ : ∃ v : World, v = (W2.setRow (w.heap.size) (zb 64 (frI p m (frN p m x j)))) ∧ Blk v (w.heap.size) 64 28 (frI p m (frN p m x j)) ∧ Blk v (w.heap.size + 1) 64 28 (m) ∧ Blk v (w.heap.size + 1 + 1) 64 28 (fun _ => 0) ∧ Below w.heap.size w v := ⟨_, rfl, (B0.row (frI p m (frN p m x j))), (B1.rowOther (by omega)), (B2.rowOther (by omega)), (zr hb (by omega) _)⟩
    rw [← hwo]
    clear hwo B0 B1 B2 hb
    obtain ⟨B0, B1, B2, hb⟩ := hzQ
    try simp only [Act.put, pA, pB, pC]
    obtain ⟨i, rfl⟩ : ∃ q, i = q + 1 := ⟨i - 1, by omega⟩
    go_wp2_with fail
    go_roundw
    case rel => exact ⟨i, j + 1, by go_num, by omega, hb, by rw [HS.out]; exact B0, B1, B2⟩
    case measure => simp [intOf] <;> omega
  · obtain rfl : i = 0 := by omega
    have hjI : ¬ (((0 : Nat) : Int) > 0) := by omega
    obtain rfl : j = M := by omega
    go_upto_region 5 with (fail)
    have lt_B0 := B0.lt
    have lt_B1 := B1.lt
    have lt_B2 := B2.lt
    go_wp2_with (first | rw [← z64] | (refine zla (.tmp 5) B0 Try.underlying28 Try.size28 ?_) | (refine zsr (.tmp 8) (.tmp 23) (frN p m x j) B2 Try.size28 ?_; try simp only [Act.put]))
    obtain ⟨W2, hwo, hzQ⟩ : ∃ v : World, v = (wr.setRow (w.heap.size + 1 + 1) (zb 64 (frN p m x j))) ∧ Blk v (w.heap.size) 64 28 (frN p m x j) ∧ Blk v (w.heap.size + 1) 64 28 (m) ∧ Blk v (w.heap.size + 1 + 1) 64 28 (frN p m x j) ∧ Below w.heap.size w v := ⟨_, rfl, (B0.rowOther (by omega)), (B1.rowOther (by omega)), (B2.row (frN p m x j)), (zr hb (by omega) _)⟩
    rw [← hwo]
    clear hwo B0 B1 B2 hb
    obtain ⟨B0, B1, B2, hb⟩ := hzQ
    try simp only [Act.put, pA, pB, pC]
    refine bodyPost_ret (zrb rfl _ _ _ 64 28 5 _ rfl B2 Try.underlying28 Try.size28) rfl ⟨rfl, hb⟩
end Go.Proofs.Ytelgefgphhebnaa
end
section
namespace Go.Proofs.Ytelgefgphhebnaa
open Go Go.RowKit
set_option linter.unusedVariables false
set_option linter.unusedSimpArgs false
attribute [local irreducible] deg addK strP frI frN mmP pmP resP
set_option maxRecDepth 100000 in
set_option maxHeartbeats 1600000 in
theorem skValue_any (p : Nat) (m : Nat → Nat) (F : Nat → Nat → Nat) (x : Nat → Nat) (w : World) (hpr : p = 2 ∨ p = 3 ∨ p = 5 ∨ p = 7) (lm : ∀ k, k < 64 → m k < p) (d : Nat) (hd : deg m = (d : Int)) (hd1 : 1 ≤ d) (hd9 : d ≤ 9) (lF : ∀ i, i < 8 → ∀ k, k < 64 → F i k < p) (hx : rsd p m x) (hi : irr p (cut m) d) :
 Calls Try.prog 75 #[.agg (zb 512 (fl 64 F)), .agg (fdC (p : Int) m).toArray, .agg (zb 64 x)] w fun e w' => e = .returned (.agg (zb 64 (vlR p m d F x 8))) ∧ Below w.heap.size w w' := by
 have p0 : 0 < p := by omega
 have h0 : 0 ≤ deg m := by omega
 have h9 : deg m ≤ 9 := by omega
 have p2 : 2 ≤ p := by omega
 have p7 : p ≤ 7 := by omega
 obtain ⟨fb1, fb2⟩ := zsd F
 obtain ⟨N, hN⟩ : ∃ N : Nat, skD F = (N : Int) - 1 := ⟨(skD F + 1).toNat, by omega⟩
 have HD := Lib.hid hN
 have hN8 : N ≤ 8 := by omega
 have HX := Lib.hid (fun j => (frN_ok hpr lm h0 h9 hx j).1)
 have HKP := Lib.hid (fun j (hj : j < 8) W => kproduct_any p m (F j) (frN p m x (j % d)) W hpr lm h0 (lF j hj) (HX.out (j % d)).1)
 have HKF := Lib.hid (show ∀ j W, Calls Try.prog 93 #[.agg (fdC (p : Int) m).toArray, .agg (zb 64 (frN p m x (j % d))), .int .i64 1] W fun e w' => e = .returned (.agg (zb 64 (frN p m x ((j + 1) % d)))) ∧ Below W.heap.size W w' from fun j W => by
  have h := kfrob_any p m (frN p m x (j % d)) 1 W hpr lm d hd hd1 hd9 (by omega) (HX.out (j % d))
  rw [zbc (frN_next hpr lm h0 h9 hi hd1 hx j)] at h
  exact h)
 have HSU := Lib.hid (show ∀ j W, Calls Try.prog 117 #[.int .i64 (p : Int), .agg (zb 64 (vlR p m d F x j)), .agg (zb 64 (mmP p (F j) (frN p m x (j % d)) m))] W fun e w' => e = .returned (.agg (zb 64 (vlR p m d F x (j + 1)))) ∧ Below W.heap.size W w' from fun j W => by
  rw [vlR_s, addK_one]; exact sum_any p _ _ W p2 p7 (fun k _ => vlR_lt p0 j k) (fun k hk => mmP_lt p0 k (by omega)))
 have HZ := Lib.hid (vlR_z p m d F x)
 have HZ2 := Lib.hid (show frN p m x (0 % d) = x by rw [Nat.zero_mod, frN_z])
 have HV := Lib.hid (show zb 64 (vlR p m d F x N) = zb 64 (vlR p m d F x 8) from zbc (by
  have h := vlR_tail (d := d) (x := x) hpr lm h0 hN (8 - N) (by omega)
  rwa [show N + (8 - N) = 8 by omega] at h))
 clear hN fb1 fb2 hx hi
 go_enter Try.func75, Try.ntmps75
 go_upto_region 1 with (fail)
 rw [← z64]
 obtain ⟨W1, hwo⟩ : ∃ v : World, v = ((((w.alloc (.cells (zb 512 (fl 64 F)) 46)).alloc (.cells (fdC (p : Int) m).toArray 70)).alloc (.cells (zb 64 (x)) 28)).alloc (.cells (zb 64 (fun _ => 0)) 28)) := ⟨_, rfl⟩
 have B0 : Blk W1 (w.heap.size) 512 46 (fl 64 F) := by subst hwo; have := ((((Blk.new w 512 46 (fl 64 F)).alloc (.cells (fdC (p : Int) m).toArray 70)).alloc (.cells (zb 64 (x)) 28)).alloc (.cells (zb 64 (fun _ => 0)) 28)); simpa using this
 have B1 : Row W1 (w.heap.size + 1) 70 (fdC (p : Int) m).toArray := by subst hwo; have := (((Row.new (w.alloc (.cells (zb 512 (fl 64 F)) 46)) 70 (fdC (p : Int) m).toArray).alloc (.cells (zb 64 (x)) 28)).alloc (.cells (zb 64 (fun _ => 0)) 28)); simpa using this
 have B2 : Blk W1 (w.heap.size + 1 + 1) 64 28 (x) := by subst hwo; have := ((Blk.new ((w.alloc (.cells (zb 512 (fl 64 F)) 46)).alloc (.cells (fdC (p : Int) m).toArray 70)) 64 28 (x)).alloc (.cells (zb 64 (fun _ => 0)) 28)); simpa using this
 have B3 : Blk W1 (w.heap.size + 1 + 1 + 1) 64 28 (fun _ => 0) := by subst hwo; have := (Blk.new (((w.alloc (.cells (zb 512 (fl 64 F)) 46)).alloc (.cells (fdC (p : Int) m).toArray 70)).alloc (.cells (zb 64 (x)) 28)) 64 28 (fun _ => 0)); simpa using this
 have hb : Below w.heap.size w W1 := by subst hwo; exact (((((Below.refl _ _).alloc (Nat.le_refl _) _).alloc (by simp) _).alloc (by simp; omega) _).alloc (by simp; omega) _)
 rw [← hwo]
 clear hwo
 go_upto_region 2 with (first | rw [← z64])
 have lt_B0 := B0.lt
 have lt_B1 := B1.lt
 have lt_B2 := B2.lt
 have lt_B3 := B3.lt
 have lhb := hb.size
 obtain ⟨W2, hwo, hzQ⟩ : ∃ v : World, v = (W1.alloc (.cells (zb 64 (fun _ => 0)) 28)) ∧ Blk v (w.heap.size) 512 46 (fl 64 F) ∧ Row v (w.heap.size + 1) 70 (fdC (p : Int) m).toArray ∧ Blk v (w.heap.size + 1 + 1) 64 28 (x) ∧ Blk v (w.heap.size + 1 + 1 + 1) 64 28 (fun _ => 0) ∧ Blk v (W1.heap.size) 64 28 (fun _ => 0) ∧ Below w.heap.size w v := ⟨_, rfl, (B0.alloc (.cells (zb 64 (fun _ => 0)) 28)), (B1.alloc (.cells (zb 64 (fun _ => 0)) 28)), (B2.alloc (.cells (zb 64 (fun _ => 0)) 28)), (B3.alloc (.cells (zb 64 (fun _ => 0)) 28)), (Blk.new W1 64 28 (fun _ => 0)), (hb.alloc (by have := hb.size; simp; omega) (.cells (zb 64 (fun _ => 0)) 28))⟩
 rw [← hwo]
 clear hwo B0 B1 B2 B3 hb
 obtain ⟨B0, B1, B2, B3, B4, hb⟩ := hzQ
 obtain ⟨N1, hNN⟩ : ∃ n : Nat, n = W1.heap.size := ⟨_, rfl⟩
 rw [← hNN] at lt_B0 lt_B1 lt_B2 lt_B3 lhb B4 ⊢
 clear hNN
 have zN1_0 := lt_B0
 have zN1_1 := lt_B1
 have zN1_2 := lt_B2
 have zN1_3 := lt_B3
 have zN1 := lhb
 clear lt_B0 lt_B1 lt_B2 lt_B3 lhb
 try simp only [Act.put, pA, pB, pC]
 go_upto_region 99 with (first | (refine zla (.tmp 3) B0 Try.underlying46 Try.size46 ?_) | (go_at_call 121; refine (skDegree_any F _).mono ?_; rintro e W3 ⟨rfl, hW3⟩; replace B0 := B0.zw hW3; replace B1 := B1.zw hW3; replace B2 := B2.zw hW3; replace B3 := B3.zw hW3; replace B4 := B4.zw hW3; replace hb := (hb).trans (hW3.mono (hb).size); rw [HD.out]))
 have hcnt : ((N : Int) - 1 + 1) = (N : Int) := by omega
 go_loopw [12] (fun c wr => ∃ j : Nat, c = .int .i64 (j : Int) ∧ j ≤ N ∧ Below w.heap.size w wr ∧ Blk wr (w.heap.size) 512 46 (fl 64 F) ∧ Row wr (w.heap.size + 1) 70 (fdC (p : Int) m).toArray ∧ Blk wr (w.heap.size + 1 + 1) 64 28 (frN p m x (j % d)) ∧ Blk wr (w.heap.size + 1 + 1 + 1) 64 28 (fun _ => 0) ∧ Blk wr (N1) 64 28 (vlR p m d F x j)) (fun c _ => N - (intOf c).toNat)
 case atStart => exact ⟨0, rfl, Nat.zero_le _, hb, B0, B1, by rw [HZ2.out]; exact B2, B3, by rw [HZ.out]; exact B4⟩
 case round =>
  clear hb B0 B1 B2 B3 B4
  obtain ⟨j, rfl, hjN, hb, B0, B1, B2, B3, B4⟩ := hrel
  by_cases hj : j < N
  · have hjI : (j : Int) < (N : Int) - 1 + 1 := by omega
    have hj8 : j < 8 := by omega
    have HK1 := Lib.hid (HKP.out j hj8)
    have HK2 := Lib.hid (HSU.out j)
    have HK3 := Lib.hid (HKF.out j)
    go_upto_region 5 with (fail)
    have lt_B0 : (w.heap.size) < wr.heap.size := B0.lt
    have lt_B1 : (w.heap.size + 1) < wr.heap.size := B1.lt
    have lt_B2 : (w.heap.size + 1 + 1) < wr.heap.size := B2.lt
    have lt_B3 : (w.heap.size + 1 + 1 + 1) < wr.heap.size := B3.lt
    have lt_B4 : (N1) < wr.heap.size := B4.lt
    have hbase : w.heap.size ≤ wr.heap.size := hb.size
    refine zq Try.mixed (by kernel_rfl) (by kernel_rfl) (fun v => by (simp only [frL, Act.put, pA, pB, pC, Nat.reduceAdd, Nat.zero_add]; exact rfl))
     (fun L v W4 => Below w.heap.size w W4 ∧ Kx [N1] wr W4 ∧ (∃ g, Blk W4 (N1) 64 28 (g)) ∧ (L 10 = false → Blk W4 (N1) 64 28 (vlR p m d F x j)) ∧ (L 10 = true → Blk W4 (N1) 64 28 (vlR p m d F x (j + 1))) ∧ VF L v [some (.pointer (some ⟨w.heap.size + 1, 0, none⟩)), some (.int .i64 (p : Int)), some (.agg (zb 64 (vlR p m d F x j))), some (.agg (fdC (p : Int) m).toArray), some (.int .i64 (j : Int)), some (.pointer (some ⟨w.heap.size, j * 64, none⟩)), some (.agg (zb 64 (F j))), some (.agg (zb 64 (frN p m x (j % d)))), some (.agg (zb 64 (mmP p (F j) (frN p m x (j % d)) m))), some (.agg (zb 64 (vlR p m d F x (j + 1)))), none]) ?_ ?_ ?_
    · intro v hv0
      exact ⟨hb.drew, Kx.start _ _, ⟨_, B4.drew⟩, (fun _ => B4.drew), (fun h => by cases h), VF.start⟩
    · refine (.cons rfl ?_ (.cons rfl ?_ (.cons rfl ?_ (.cons rfl ?_ (.cons rfl ?_ (.cons rfl ?_ (.cons rfl ?_ (.cons rfl ?_ (.cons rfl ?_ (.cons rfl ?_ (.cons rfl ?_ (.nil _))))))))))))
      all_goals intro L v W4 hd hn ⟨hB, hX, x4, q4, n4, V⟩ K hK
      · go_wp2_with fail
        exact hK _ (.pointer (some ⟨w.heap.size + 1, 0, none⟩)) _ (by simp only [Act.put, pA, pB, pC ]) ⟨hB, hX, x4, q4, n4, V.step 0 rfl⟩
      · have e0 := V.at (zdq hd 0 rfl) rfl
        have cc := (B1.kx hX (by simp <;> omega)).cell (i := 0) (v := .int .i64 (p : Int)) (fdC_at (p : Int) m)
        go_wp2_with fail
        exact hK _ (.int .i64 (p : Int)) _ (by simp only [Act.put, pA, pB, pC, e0]) ⟨hB, hX, x4, q4, n4, V.step 1 rfl⟩
      · have s4 := q4 (by
         cases hL : L 10 with
         | false => rfl
         | true => exact absurd rfl (hn 10 _ rfl hL ⟨2, .phase⟩ (by simp) rfl))
        refine zlc s4 Try.underlying28 Try.size28 ?_
        exact hK _ _ _ rfl ⟨hB, hX, x4, q4, n4, V.step 2 rfl⟩
      · refine wp_load_rowv 70 _ rfl _ rfl 70 _ (B1.kx hX (by simp <;> omega)) _ Try.underlying70 rfl 65 Try.size70 (by simp [fdC_len]) ?_
        exact hK _ _ _ rfl ⟨hB, hX, x4, q4, n4, V.step 3 rfl⟩
      · go_wp2_with fail
        exact hK _ (.int .i64 (j : Int)) _ (by simp only [Act.put, pA, pB, pC ]) ⟨hB, hX, x4, q4, n4, V.step 4 rfl⟩
      · have e4 := V.at (zdq hd 4 rfl) rfl
        go_wp2_with fail
        exact hK _ (.pointer (some ⟨w.heap.size, j * 64, none⟩)) _ (by simp only [Act.put, pA, pB, pC, e4]) ⟨hB, hX, x4, q4, n4, V.step 5 rfl⟩
      · have e5 := V.at (zdq hd 5 rfl) rfl
        refine wp_load_mid 28 _ rfl _ (j * 64) e5 _ _ (((B0.kx hX (by simp <;> omega))).sk (by omega)) Try.underlying28 rfl (by rw [zl]; exact Try.size28) ?_
        exact hK _ _ _ rfl ⟨hB, hX, x4, q4, n4, V.step 6 rfl⟩
      · refine wp_load_any 28 _ rfl _ rfl 64 28 _ (B2.kx hX (by simp <;> omega)) _ Try.underlying28 rfl Try.size28 ?_
        exact hK _ _ _ rfl ⟨hB, hX, x4, q4, n4, V.step 7 rfl⟩
      · have e3 := V.at (zdq hd 3 rfl) rfl
        have e6 := V.at (zdq hd 6 rfl) rfl
        have e7 := V.at (zdq hd 7 rfl) rfl
        go_wp2_with (go_at_call 122; refine (HK1.out _).mono ?_; rintro e wy ⟨rfl, hy⟩)
        exact hK _ (.agg (zb 64 (mmP p (F j) (frN p m x (j % d)) m))) _ (by simp only [Act.put, pA, pB, pC, e3, e6, e7]) ⟨hB.trans (hy.mono hB.size), hX.below hy, (let ⟨g, h⟩ := x4; ⟨g, h.zw hy⟩), (fun h => (q4 h).below hy (q4 h).lt), (fun h => (n4 h).below hy (n4 h).lt), V.step 8 rfl⟩
      · have e1 := V.at (zdq hd 1 rfl) rfl
        have e2 := V.at (zdq hd 2 rfl) rfl
        have e8 := V.at (zdq hd 8 rfl) rfl
        go_wp2_with (go_at_call 117; refine (HK2.out _).mono ?_; rintro e wy ⟨rfl, hy⟩)
        exact hK _ (.agg (zb 64 (vlR p m d F x (j + 1)))) _ (by simp only [Act.put, pA, pB, pC, e1, e2, e8]) ⟨hB.trans (hy.mono hB.size), hX.below hy, (let ⟨g, h⟩ := x4; ⟨g, h.zw hy⟩), (fun h => (q4 h).below hy (q4 h).lt), (fun h => (n4 h).below hy (n4 h).lt), V.step 9 rfl⟩
      · have e9 := V.at (zdq hd 9 rfl) rfl
        obtain ⟨gz, hk⟩ := x4
        refine zsb 28 _ _ rfl _ 64 (vlR p m d F x (j + 1)) rfl e9 28 gz hk Try.size28 ?_
        exact hK _ undef _ rfl ⟨zr hB (by omega) _, hX.row (by simp) _, ⟨_, hk.row _⟩, (fun h => absurd h (by simp [setL])), (fun _ => hk.row _), V.skip 10 rfl⟩
    · intro L v W4 hL ⟨hB, hX, x4, q4, n4, V⟩
      have r4 := n4 (hL 10 (by decide))
      have e0 := V.at (hL 0 (by decide)) rfl
      have e1 := V.at (hL 1 (by decide)) rfl
      have e2 := V.at (hL 2 (by decide)) rfl
      have e3 := V.at (hL 3 (by decide)) rfl
      have e4 := V.at (hL 4 (by decide)) rfl
      have e5 := V.at (hL 5 (by decide)) rfl
      have e6 := V.at (hL 6 (by decide)) rfl
      have e7 := V.at (hL 7 (by decide)) rfl
      have e8 := V.at (hL 8 (by decide)) rfl
      have e9 := V.at (hL 9 (by decide)) rfl
      clear hL x4 q4 n4 V
      replace B0 := B0.kx hX (by simp <;> omega)
      replace B1 := B1.kx hX (by simp <;> omega)
      replace B2 := B2.kx hX (by simp <;> omega)
      replace B3 := B3.kx hX (by simp <;> omega)
      clear hX
      simp only [Exit.then, e0, e1, e2, e3, e4, e5, e6, e7, e8, e9]
      clear e0 e1 e2 e3 e4 e5 e6 e7 e8 e9
      replace B4 := r4
      clear r4
      replace hb := hB
      clear hB
      clear hbase lt_B0 lt_B1 lt_B2 lt_B3 lt_B4
      go_upto_region 6 with (fail)
      have lt_B0 := B0.lt
      have lt_B1 := B1.lt
      have lt_B2 := B2.lt
      have lt_B3 := B3.lt
      have lt_B4 := B4.lt
      go_upto_region 7 with (first | rw [← z64] | (refine zlr rfl 70 (.tmp 4) rfl _ rfl 70 (fdC (p : Int) m).toArray (B1) _ Try.underlying70 rfl 65 Try.size70 (by simp [fdC_len]) ?_) | (refine zla (.tmp 5) B2 Try.underlying28 Try.size28 ?_) | (go_at_call 93; refine (HK3.out _).mono ?_; rintro e W5 ⟨rfl, hW5⟩; replace B0 := B0.zw hW5; replace B1 := B1.zw hW5; replace B2 := B2.zw hW5; replace B3 := B3.zw hW5; replace B4 := B4.zw hW5; replace hb := (hb).trans (hW5.mono (hb).size)) | (refine zsr (.tmp 5) (.tmp 27) (frN p m x ((j + 1) % d)) B2 Try.size28 ?_; try simp only [Act.put]))
      obtain ⟨W6, hwo, hzQ⟩ : ∃ v : World, v = (W5.setRow (w.heap.size + 1 + 1) (zb 64 (frN p m x ((j + 1) % d)))) ∧ Blk v (w.heap.size) 512 46 (fl 64 F) ∧ Row v (w.heap.size + 1) 70 (fdC (p : Int) m).toArray ∧ Blk v (w.heap.size + 1 + 1) 64 28 (frN p m x ((j + 1) % d)) ∧ Blk v (w.heap.size + 1 + 1 + 1) 64 28 (fun _ => 0) ∧ Blk v (N1) 64 28 (vlR p m d F x (j + 1)) ∧ Below w.heap.size w v := ⟨_, rfl, (B0.rowOther (by omega)), (B1.rowOther (by omega)), (B2.row (frN p m x ((j + 1) % d))), (B3.rowOther (by omega)), (B4.rowOther (by omega)), (zr hb (by omega) _)⟩
      rw [← hwo]
      clear hwo B0 B1 B2 B3 B4 hb
      obtain ⟨B0, B1, B2, B3, B4, hb⟩ := hzQ
      try simp only [Act.put, pA, pB, pC]
      go_wp2_with fail
      go_roundw
      case rel => exact ⟨j + 1, by go_num, by omega, hb, B0, B1, B2, B3, B4⟩
      case measure => simp [intOf] <;> omega
  · have hjI : ¬ (j : Int) < (N : Int) - 1 + 1 := by omega
    obtain rfl : j = N := by omega
    go_upto_region 8 with (fail)
    have lt_B0 := B0.lt
    have lt_B1 := B1.lt
    have lt_B2 := B2.lt
    have lt_B3 := B3.lt
    have lt_B4 := B4.lt
    go_wp2_with (first | rw [← z64] | (refine zla (.tmp 7) B4 Try.underlying28 Try.size28 ?_) | (refine zsr (.tmp 6) (.tmp 29) (vlR p m d F x j) B3 Try.size28 ?_; try simp only [Act.put]))
    obtain ⟨W4, hwo, hzQ⟩ : ∃ v : World, v = (wr.setRow (w.heap.size + 1 + 1 + 1) (zb 64 (vlR p m d F x j))) ∧ Blk v (w.heap.size) 512 46 (fl 64 F) ∧ Row v (w.heap.size + 1) 70 (fdC (p : Int) m).toArray ∧ Blk v (w.heap.size + 1 + 1) 64 28 (frN p m x (j % d)) ∧ Blk v (w.heap.size + 1 + 1 + 1) 64 28 (vlR p m d F x j) ∧ Blk v (N1) 64 28 (vlR p m d F x j) ∧ Below w.heap.size w v := ⟨_, rfl, (B0.rowOther (by omega)), (B1.rowOther (by omega)), (B2.rowOther (by omega)), (B3.row (vlR p m d F x j)), (B4.rowOther (by omega)), (zr hb (by omega) _)⟩
    rw [← hwo]
    clear hwo B0 B1 B2 B3 B4 hb
    obtain ⟨B0, B1, B2, B3, B4, hb⟩ := hzQ
    try simp only [Act.put, pA, pB, pC]
    refine bodyPost_ret (zrb rfl _ _ _ 64 28 5 _ rfl B3 Try.underlying28 Try.size28) rfl ⟨by rw [HV.out], hb⟩
set_option maxRecDepth 100000 in
set_option maxHeartbeats 1600000 in
theorem l03Value_any (p : Nat) (m : Nat → Nat) (F : Nat → Nat → Nat) (x : Nat → Nat) (w : World) (hpr : p = 2 ∨ p = 3 ∨ p = 5 ∨ p = 7) (lm : ∀ k, k < 64 → m k < p) (d : Nat) (hd : deg m = (d : Int)) (hd1 : 1 ≤ d) (hd9 : d ≤ 9) (lF : ∀ i, i < 8 → ∀ k, k < 64 → F i k < p) (hx : rsd p m x) :
 Calls Try.prog 105 #[.int .i64 (p : Int), .agg (zb 64 m), .agg (zb 512 (fl 64 F)), .agg (zb 64 x)] w fun e w' => e = .returned (.agg (zb 64 (vlR p m d F x 8))) ∧ Below w.heap.size w w' := by
 have p0 : 0 < p := by omega
 have h0 : 0 ≤ deg m := by omega
 have h9 : deg m ≤ 9 := by omega
 have p2 : 2 ≤ p := by omega
 have p7 : p ≤ 7 := by omega
 have HX := Lib.hid (fun j => (frN_ok hpr lm h0 h9 hx j).1)
 have HFR := Lib.hid (fun j (hj : j < 8) W => l03Frobenius_any p m x j W hpr lm d hd hd1 hd9 (by omega) hx)
 have HMM := Lib.hid (fun j (hj : j < 8) W => l01MulMod_any p (F j) (frN p m x (j % d)) m W hpr (lF j hj) (HX.out (j % d)).1 lm h0)
 have HAD := Lib.hid (show ∀ j W, Calls Try.prog 80 #[.int .i64 (p : Int), .agg (zb 64 (vlR p m d F x j)), .agg (zb 64 (mmP p (F j) (frN p m x (j % d)) m)), .int .i64 1] W fun e w' => e = .returned (.agg (zb 64 (vlR p m d F x (j + 1)))) ∧ Below W.heap.size W w' from fun j W => by
  rw [vlR_s]; exact l01Add_any p _ _ 1 W p2 p7 (by omega) (by omega) (fun k _ => vlR_lt p0 j k) (fun k hk => mmP_lt p0 k (by omega)))
 have HZ := Lib.hid (vlR_z p m d F x)
 have HSK := Lib.hid (fun j (h : eqN 64 (F j) (fun _ => 0) = true) => vlR_skip (d := d) (x := x) hpr lm h0 h)
 clear hx
 go_enter Try.func105, Try.ntmps105
 go_upto_region 1 with (fail)
 rw [← z64]
 obtain ⟨W1, hwo⟩ : ∃ v : World, v = ((((w.alloc (.cells (zb 64 (m)) 28)).alloc (.cells (zb 512 (fl 64 F)) 46)).alloc (.cells (zb 64 (x)) 28)).alloc (.cells (zb 64 (fun _ => 0)) 28)) := ⟨_, rfl⟩
 have B0 : Blk W1 (w.heap.size) 64 28 (m) := by subst hwo; have := ((((Blk.new w 64 28 (m)).alloc (.cells (zb 512 (fl 64 F)) 46)).alloc (.cells (zb 64 (x)) 28)).alloc (.cells (zb 64 (fun _ => 0)) 28)); simpa using this
 have B1 : Blk W1 (w.heap.size + 1) 512 46 (fl 64 F) := by subst hwo; have := (((Blk.new (w.alloc (.cells (zb 64 (m)) 28)) 512 46 (fl 64 F)).alloc (.cells (zb 64 (x)) 28)).alloc (.cells (zb 64 (fun _ => 0)) 28)); simpa using this
 have B2 : Blk W1 (w.heap.size + 1 + 1) 64 28 (x) := by subst hwo; have := ((Blk.new ((w.alloc (.cells (zb 64 (m)) 28)).alloc (.cells (zb 512 (fl 64 F)) 46)) 64 28 (x)).alloc (.cells (zb 64 (fun _ => 0)) 28)); simpa using this
 have B3 : Blk W1 (w.heap.size + 1 + 1 + 1) 64 28 (fun _ => 0) := by subst hwo; have := (Blk.new (((w.alloc (.cells (zb 64 (m)) 28)).alloc (.cells (zb 512 (fl 64 F)) 46)).alloc (.cells (zb 64 (x)) 28)) 64 28 (fun _ => 0)); simpa using this
 have hb : Below w.heap.size w W1 := by subst hwo; exact (((((Below.refl _ _).alloc (Nat.le_refl _) _).alloc (by simp) _).alloc (by simp; omega) _).alloc (by simp; omega) _)
 rw [← hwo]
 clear hwo
 have lt_B0 := B0.lt
 have lt_B1 := B1.lt
 have lt_B2 := B2.lt
 have lt_B3 := B3.lt
 go_upto_region 2 with (first | rw [← z64] | (refine wpList_store_blk rfl 28 (.tmp 9) (.tmp 11) rfl _ 64 (fun _ => 0) rfl rfl 28 _ ((Blk.new W1 64 28 (fun _ => 0))) Try.size28 ?_; try simp only [Act.put]))
 have lt_B0 := B0.lt
 have lt_B1 := B1.lt
 have lt_B2 := B2.lt
 have lt_B3 := B3.lt
 have lhb := hb.size
 obtain ⟨W2, hwo, hzQ⟩ : ∃ v : World, v = ((W1.alloc (.cells (zb 64 (fun _ => 0)) 28)).setRow (W1.heap.size) (zb 64 (fun _ => 0))) ∧ Blk v (w.heap.size) 64 28 (m) ∧ Blk v (w.heap.size + 1) 512 46 (fl 64 F) ∧ Blk v (w.heap.size + 1 + 1) 64 28 (x) ∧ Blk v (w.heap.size + 1 + 1 + 1) 64 28 (fun _ => 0) ∧ Blk v (W1.heap.size) 64 28 (fun _ => 0) ∧ Below w.heap.size w v := ⟨_, rfl, ((B0.alloc (.cells (zb 64 (fun _ => 0)) 28)).rowOther (by omega)), ((B1.alloc (.cells (zb 64 (fun _ => 0)) 28)).rowOther (by omega)), ((B2.alloc (.cells (zb 64 (fun _ => 0)) 28)).rowOther (by omega)), ((B3.alloc (.cells (zb 64 (fun _ => 0)) 28)).rowOther (by omega)), ((Blk.new W1 64 28 (fun _ => 0)).row (fun _ => 0)), (zr (hb.alloc (by have := hb.size; simp; omega) (.cells (zb 64 (fun _ => 0)) 28)) (by omega) _)⟩
 rw [← hwo]
 clear hwo B0 B1 B2 B3 hb
 obtain ⟨B0, B1, B2, B3, B4, hb⟩ := hzQ
 obtain ⟨N1, hNN⟩ : ∃ n : Nat, n = W1.heap.size := ⟨_, rfl⟩
 rw [← hNN] at lt_B0 lt_B1 lt_B2 lt_B3 lhb B4 ⊢
 clear hNN
 have zN1_0 := lt_B0
 have zN1_1 := lt_B1
 have zN1_2 := lt_B2
 have zN1_3 := lt_B3
 have zN1 := lhb
 clear lt_B0 lt_B1 lt_B2 lt_B3 lhb
 try simp only [Act.put, pA, pB, pC]
 go_wp2_with fail
 go_loopw [10] (fun c wr => ∃ j : Nat, c = .int .i64 (j : Int) ∧ j ≤ 8 ∧ Below w.heap.size w wr ∧ Blk wr (w.heap.size) 64 28 m ∧ Blk wr (w.heap.size + 1) 512 46 (fl 64 F) ∧ Blk wr (w.heap.size + 1 + 1) 64 28 x ∧ Blk wr (w.heap.size + 1 + 1 + 1) 64 28 (fun _ => 0) ∧ Blk wr (N1) 64 28 (vlR p m d F x j)) (fun c _ => 8 - (intOf c).toNat)
 case atStart => exact ⟨0, rfl, Nat.zero_le _, hb, B0, B1, B2, B3, by rw [HZ.out]; exact B4⟩
 case round =>
  clear hb B0 B1 B2 B3 B4
  obtain ⟨j, rfl, hj8, hb, B0, B1, B2, B3, B4⟩ := hrel
  by_cases hj : j < 8
  · have hjI : (j : Int) < 8 := by omega
    have hgd := Try.noGuard28
    have heq := fun W => zeb (P := Try.prog) W 9998 28 5 64 (F j) (fun _ => 0) Try.underlying28 Try.underlying5 Try.size5
    cases hz : eqN 64 (F j) (fun _ => 0) with
    | true =>
     rw [hz] at heq
     have HS := Lib.hid (HSK.out j hz)
     clear hz
     go_wp2_with (first | (refine wpList_load_mid rfl 28 (.tmp 17) rfl _ (j * 64) rfl (bl 64 (F j)) _ (B1.sk hj) Try.underlying28 rfl (by rw [zl]; exact Try.size28) ?_) | rw [← z64])
     go_roundw
     case rel => exact ⟨j + 1, by go_num, by omega, hb, B0, B1, B2, B3, B4.congr HS.out⟩
     case measure => simp [intOf] <;> omega
    | false =>
     rw [hz] at heq
     clear hz
     have HK1 := Lib.hid (HFR.out j hj)
     have HK2 := Lib.hid (HMM.out j hj)
     have HK3 := Lib.hid (HAD.out j)
     go_upto_region 6 with (first | (refine wpList_load_mid rfl 28 (.tmp 17) rfl _ (j * 64) rfl (bl 64 (F j)) _ (B1.sk hj) Try.underlying28 rfl (by rw [zl]; exact Try.size28) ?_) | rw [← z64])
     clear heq hgd
     have lt_B0 : (w.heap.size) < wr.heap.size := B0.lt
     have lt_B1 : (w.heap.size + 1) < wr.heap.size := B1.lt
     have lt_B2 : (w.heap.size + 1 + 1) < wr.heap.size := B2.lt
     have lt_B3 : (w.heap.size + 1 + 1 + 1) < wr.heap.size := B3.lt
     have lt_B4 : (N1) < wr.heap.size := B4.lt
     have hbase : w.heap.size ≤ wr.heap.size := hb.size
     refine zq Try.mixed (by kernel_rfl) (by kernel_rfl) (fun v => by (simp only [frL, Act.put, pA, pB, pC, Nat.reduceAdd, Nat.zero_add]; exact rfl))
      (fun L v W3 => Below w.heap.size w W3 ∧ Kx [N1] wr W3 ∧ (∃ g, Blk W3 (N1) 64 28 (g)) ∧ (L 14 = false → Blk W3 (N1) 64 28 (vlR p m d F x j)) ∧ (L 14 = true → Blk W3 (N1) 64 28 (vlR p m d F x (j + 1))) ∧ VF L v [some (.int .i64 (p : Int)), some (.agg (zb 64 (vlR p m d F x j))), some (.int .i64 (p : Int)), some (.int .i64 (j : Int)), some (.pointer (some ⟨w.heap.size + 1, j * 64, none⟩)), some (.agg (zb 64 (F j))), some (.int .i64 (p : Int)), some (.agg (zb 64 (x))), some (.int .i64 (j : Int)), some (.agg (zb 64 (m))), some (.agg (zb 64 (frN p m x (j % d)))), some (.agg (zb 64 (m))), some (.agg (zb 64 (mmP p (F j) (frN p m x (j % d)) m))), some (.agg (zb 64 (vlR p m d F x (j + 1)))), none]) ?_ ?_ ?_
     · intro v hv0
       exact ⟨hb.drew, Kx.start _ _, ⟨_, B4.drew⟩, (fun _ => B4.drew), (fun h => by cases h), VF.start⟩
     · refine (.cons rfl ?_ (.cons rfl ?_ (.cons rfl ?_ (.cons rfl ?_ (.cons rfl ?_ (.cons rfl ?_ (.cons rfl ?_ (.cons rfl ?_ (.cons rfl ?_ (.cons rfl ?_ (.cons rfl ?_ (.cons rfl ?_ (.cons rfl ?_ (.cons rfl ?_ (.cons rfl ?_ (.nil _))))))))))))))))
       all_goals intro L v W3 hd hn ⟨hB, hX, x4, q4, n4, V⟩ K hK
       · go_wp2_with fail
         exact hK _ (.int .i64 (p : Int)) _ (by simp only [Act.put, pA, pB, pC ]) ⟨hB, hX, x4, q4, n4, V.step 0 rfl⟩
       · have s4 := q4 (by
          cases hL : L 14 with
          | false => rfl
          | true => exact absurd rfl (hn 14 _ rfl hL ⟨1, .phase⟩ (by simp) rfl))
         refine zlc s4 Try.underlying28 Try.size28 ?_
         exact hK _ _ _ rfl ⟨hB, hX, x4, q4, n4, V.step 1 rfl⟩
       · go_wp2_with fail
         exact hK _ (.int .i64 (p : Int)) _ (by simp only [Act.put, pA, pB, pC ]) ⟨hB, hX, x4, q4, n4, V.step 2 rfl⟩
       · go_wp2_with fail
         exact hK _ (.int .i64 (j : Int)) _ (by simp only [Act.put, pA, pB, pC ]) ⟨hB, hX, x4, q4, n4, V.step 3 rfl⟩
       · have e3 := V.at (zdq hd 3 rfl) rfl
         go_wp2_with fail
         exact hK _ (.pointer (some ⟨w.heap.size + 1, j * 64, none⟩)) _ (by simp only [Act.put, pA, pB, pC, e3]) ⟨hB, hX, x4, q4, n4, V.step 4 rfl⟩
       · have e4 := V.at (zdq hd 4 rfl) rfl
         refine wp_load_mid 28 _ rfl _ (j * 64) e4 _ _ (((B1.kx hX (by simp <;> omega))).sk (by omega)) Try.underlying28 rfl (by rw [zl]; exact Try.size28) ?_
         exact hK _ _ _ rfl ⟨hB, hX, x4, q4, n4, V.step 5 rfl⟩
       · go_wp2_with fail
         exact hK _ (.int .i64 (p : Int)) _ (by simp only [Act.put, pA, pB, pC ]) ⟨hB, hX, x4, q4, n4, V.step 6 rfl⟩
       · refine wp_load_any 28 _ rfl _ rfl 64 28 _ (B2.kx hX (by simp <;> omega)) _ Try.underlying28 rfl Try.size28 ?_
         exact hK _ _ _ rfl ⟨hB, hX, x4, q4, n4, V.step 7 rfl⟩
       · go_wp2_with fail
         exact hK _ (.int .i64 (j : Int)) _ (by simp only [Act.put, pA, pB, pC ]) ⟨hB, hX, x4, q4, n4, V.step 8 rfl⟩
       · refine wp_load_any 28 _ rfl _ rfl 64 28 _ (B0.kx hX (by simp <;> omega)) _ Try.underlying28 rfl Try.size28 ?_
         exact hK _ _ _ rfl ⟨hB, hX, x4, q4, n4, V.step 9 rfl⟩
       · have e6 := V.at (zdq hd 6 rfl) rfl
         have e7 := V.at (zdq hd 7 rfl) rfl
         have e8 := V.at (zdq hd 8 rfl) rfl
         have e9 := V.at (zdq hd 9 rfl) rfl
         go_wp2_with (go_at_call 92; refine (HK1.out _).mono ?_; rintro e wy ⟨rfl, hy⟩)
         exact hK _ (.agg (zb 64 (frN p m x (j % d)))) _ (by simp only [Act.put, pA, pB, pC, e6, e7, e8, e9]) ⟨hB.trans (hy.mono hB.size), hX.below hy, (let ⟨g, h⟩ := x4; ⟨g, h.zw hy⟩), (fun h => (q4 h).below hy (q4 h).lt), (fun h => (n4 h).below hy (n4 h).lt), V.step 10 rfl⟩
       · refine wp_load_any 28 _ rfl _ rfl 64 28 _ (B0.kx hX (by simp <;> omega)) _ Try.underlying28 rfl Try.size28 ?_
         exact hK _ _ _ rfl ⟨hB, hX, x4, q4, n4, V.step 11 rfl⟩
       · have e2 := V.at (zdq hd 2 rfl) rfl
         have e5 := V.at (zdq hd 5 rfl) rfl
         have e10 := V.at (zdq hd 10 rfl) rfl
         have e11 := V.at (zdq hd 11 rfl) rfl
         go_wp2_with (go_at_call 113; refine (HK2.out _).mono ?_; rintro e wy ⟨rfl, hy⟩)
         exact hK _ (.agg (zb 64 (mmP p (F j) (frN p m x (j % d)) m))) _ (by simp only [Act.put, pA, pB, pC, e2, e5, e10, e11]) ⟨hB.trans (hy.mono hB.size), hX.below hy, (let ⟨g, h⟩ := x4; ⟨g, h.zw hy⟩), (fun h => (q4 h).below hy (q4 h).lt), (fun h => (n4 h).below hy (n4 h).lt), V.step 12 rfl⟩
       · have e0 := V.at (zdq hd 0 rfl) rfl
         have e1 := V.at (zdq hd 1 rfl) rfl
         have e12 := V.at (zdq hd 12 rfl) rfl
         go_wp2_with (go_at_call 80; refine (HK3.out _).mono ?_; rintro e wy ⟨rfl, hy⟩)
         exact hK _ (.agg (zb 64 (vlR p m d F x (j + 1)))) _ (by simp only [Act.put, pA, pB, pC, e0, e1, e12]) ⟨hB.trans (hy.mono hB.size), hX.below hy, (let ⟨g, h⟩ := x4; ⟨g, h.zw hy⟩), (fun h => (q4 h).below hy (q4 h).lt), (fun h => (n4 h).below hy (n4 h).lt), V.step 13 rfl⟩
       · have e13 := V.at (zdq hd 13 rfl) rfl
         obtain ⟨gz, hk⟩ := x4
         refine zsb 28 _ _ rfl _ 64 (vlR p m d F x (j + 1)) rfl e13 28 gz hk Try.size28 ?_
         exact hK _ undef _ rfl ⟨zr hB (by omega) _, hX.row (by simp) _, ⟨_, hk.row _⟩, (fun h => absurd h (by simp [setL])), (fun _ => hk.row _), V.skip 14 rfl⟩
     · intro L v W3 hL ⟨hB, hX, x4, q4, n4, V⟩
       have r4 := n4 (hL 14 (by decide))
       have e0 := V.at (hL 0 (by decide)) rfl
       have e1 := V.at (hL 1 (by decide)) rfl
       have e2 := V.at (hL 2 (by decide)) rfl
       have e3 := V.at (hL 3 (by decide)) rfl
       have e4 := V.at (hL 4 (by decide)) rfl
       have e5 := V.at (hL 5 (by decide)) rfl
       have e6 := V.at (hL 6 (by decide)) rfl
       have e7 := V.at (hL 7 (by decide)) rfl
       have e8 := V.at (hL 8 (by decide)) rfl
       have e9 := V.at (hL 9 (by decide)) rfl
       have e10 := V.at (hL 10 (by decide)) rfl
       have e11 := V.at (hL 11 (by decide)) rfl
       have e12 := V.at (hL 12 (by decide)) rfl
       have e13 := V.at (hL 13 (by decide)) rfl
       clear hL x4 q4 n4 V
       replace B0 := B0.kx hX (by simp <;> omega)
       replace B1 := B1.kx hX (by simp <;> omega)
       replace B2 := B2.kx hX (by simp <;> omega)
       replace B3 := B3.kx hX (by simp <;> omega)
       clear hX
       simp only [Exit.then, e0, e1, e2, e3, e4, e5, e6, e7, e8, e9, e10, e11, e12, e13]
       clear e0 e1 e2 e3 e4 e5 e6 e7 e8 e9 e10 e11 e12 e13
       replace B4 := r4
       clear r4
       replace hb := hB
       clear hB
       clear hbase lt_B0 lt_B1 lt_B2 lt_B3 lt_B4
       go_wp2_with fail
       go_roundw
       case rel => exact ⟨j + 1, by go_num, by omega, hb, B0, B1, B2, B3, B4⟩
       case measure => simp [intOf] <;> omega
  · have hjI : ¬ (j : Int) < 8 := by omega
    obtain rfl : j = 8 := by omega
    go_upto_region 7 with (fail)
    have lt_B0 := B0.lt
    have lt_B1 := B1.lt
    have lt_B2 := B2.lt
    have lt_B3 := B3.lt
    have lt_B4 := B4.lt
    go_wp2_with (first | rw [← z64] | (refine zla (.tmp 9) B4 Try.underlying28 Try.size28 ?_) | (refine zsr (.tmp 8) (.tmp 35) (vlR p m d F x 8) B3 Try.size28 ?_; try simp only [Act.put]))
    obtain ⟨W3, hwo, hzQ⟩ : ∃ v : World, v = (wr.setRow (w.heap.size + 1 + 1 + 1) (zb 64 (vlR p m d F x 8))) ∧ Blk v (w.heap.size) 64 28 (m) ∧ Blk v (w.heap.size + 1) 512 46 (fl 64 F) ∧ Blk v (w.heap.size + 1 + 1) 64 28 (x) ∧ Blk v (w.heap.size + 1 + 1 + 1) 64 28 (vlR p m d F x 8) ∧ Blk v (N1) 64 28 (vlR p m d F x 8) ∧ Below w.heap.size w v := ⟨_, rfl, (B0.rowOther (by omega)), (B1.rowOther (by omega)), (B2.rowOther (by omega)), (B3.row (vlR p m d F x 8)), (B4.rowOther (by omega)), (zr hb (by omega) _)⟩
    rw [← hwo]
    clear hwo B0 B1 B2 B3 B4 hb
    obtain ⟨B0, B1, B2, B3, B4, hb⟩ := hzQ
    try simp only [Act.put, pA, pB, pC]
    refine bodyPost_ret (zrb rfl _ _ _ 64 28 5 _ rfl B3 Try.underlying28 Try.size28) rfl ⟨rfl, hb⟩
end Go.Proofs.Ytelgefgphhebnaa
end
section
namespace Go.Proofs.Ytelgefgphhebnaa
open Go Go.RowKit
set_option linter.unusedVariables false
/-- the address of a slice whose first A rows are F -/
def SlR (w : World) (a : Option Addr) (A : Nat) (F : Nat → Nat → Nat) : Prop :=
 A = 0 ∨ ∃ b n t, a = some ⟨b, 0, none⟩ ∧ A ≤ n ∧ Blk w b (n * 64) t (fl 64 F)
theorem SlR.has {w : World} {a : Option Addr} {A : Nat} {F : Nat → Nat → Nat} (h : SlR w a A F) (hA : 0 < A) : ∃ b n t, a = some ⟨b, 0, none⟩ ∧ A ≤ n ∧ Blk w b (n * 64) t (fl 64 F) := by
 rcases h with h | h
 · omega
 · exact h
theorem SlR.of {w : World} {b n A : Nat} {t : TypeId} {F : Nat → Nat → Nat} (h : Blk w b (n * 64) t (fl 64 F)) (hA : A ≤ n) : SlR w (some ⟨b, 0, none⟩) A F := .inr ⟨b, n, t, rfl, hA, h⟩
theorem SlR.nil (w : World) (F : Nat → Nat → Nat) : SlR w none 0 F := .inl rfl
theorem SlR.below {w w' : World} {a : Option Addr} {A : Nat} {F : Nat → Nat → Nat} (h : SlR w a A F) (hb : Below w.heap.size w w') : SlR w' a A F := by
 rcases h with h | ⟨b, n, t, e, hA, h⟩
 · exact .inl h
 · exact .inr ⟨b, n, t, e, hA, h.zw hb⟩
attribute [irreducible] SlR
end Go.Proofs.Ytelgefgphhebnaa
end
section
namespace Go.Proofs.Ytelgefgphhebnaa
open Go Go.RowKit
set_option linter.unusedVariables false
set_option linter.unusedSimpArgs false
theorem ckS_irr {n d : Nat} {m : Nat → Nat} {Fs : List (Nat → Nat → Nat)} (h : ckS (n : Int) m Fs = 0) (hmon : mon m d) : irr n (cut m) d := by
 obtain ⟨h1, _⟩ := ckS_zero h
 have ho : okA (n : Int) m = true := by
  cases ho : okA (n : Int) m with
  | true => rfl
  | false => rw [flV_1 ho] at h1; cases h1
 have hm : monUp 4 m = true := by
  cases hm : monUp 4 m with
  | true => rfl
  | false => rw [flV_2 hm] at h1; cases h1
 rw [flV_3 ho hm] at h1
 obtain ⟨d2, hi⟩ := irB_iff.1 h1
 have e1 := hi.2.1.1
 have e2 := (mon_cut hmon).1
 have : d2 = d := by omega
 subst this; exact hi
attribute [local irreducible] deg addK okA flV skA
end Go.Proofs.Ytelgefgphhebnaa
end
section
namespace Go.Proofs.Ytelgefgphhebnaa
open Rg
set_option linter.unusedVariables false
/-- long division: T the next term, N what is left, g the degree of the divisor -/
def gdR (p : Nat) (T N : (Nat → Nat → Nat) → (Nat → Nat → Nat)) (g : Int) : Nat → (Nat → Nat → Nat) → (Nat → Nat → Nat) → (Nat → Nat → Nat) × (Nat → Nat → Nat)
 | 0, Q, F => (Q, F)
 | fu + 1, Q, F => if skD F < g then (Q, F) else gdR p T N g fu (skA p Q (T F) 1) (N F)
/-- quotient and rest from the right -/
def dq (p : Nat) (m : Nat → Nat) (d : Nat) (F G : Nat → Nat → Nat) : (Nat → Nat → Nat) × (Nat → Nat → Nat) := gdR p (fun F => dvT p m d F G) (fun F => dvF p m d F G) (skD G) 8 (fun _ _ => 0) F
def eD (p : Nat) (m : Nat → Nat) (d : Nat) : Nat → (Nat → Nat → Nat) → (Nat → Nat → Nat) → (Nat → Nat → Nat)
 | 0, A, B => A
 | n + 1, A, B => if skD B < 0 then A else eD p m d n B (dq p m d A B).2
attribute [irreducible] gdR dq eD
end Go.Proofs.Ytelgefgphhebnaa
end
section
namespace Go.Proofs.Ytelgefgphhebnaa
open Rg
set_option linter.unusedVariables false
section
variable {p : Nat} {m : Nat → Nat} {d : Nat} (hp : p = 2 ∨ p = 3 ∨ p = 5 ∨ p = 7) (lm : ∀ k, k < 64 → m k < p) (hmon : mon m d) (hi : irr p (cut m) d) (h9 : d ≤ 9)
include hp lm hmon hi h9
theorem vlR_rsd {F : Nat → Nat → Nat} {x : Nat → Nat} : ∀ n, rsd p m (vlR p m d F x n)
 | 0 => by have _u0 := hi; rw [vlR_z]; exact zero_rsd (by omega) (by rw [hmon.1]; omega)
 | n + 1 => by
  have h0 : 0 ≤ deg m := by rw [hmon.1]; omega
  rw [vlR_s]; exact addK_rsd (by omega) h0 (vlR_rsd n) (mm_rsd hp lm h0)
end
end Go.Proofs.Ytelgefgphhebnaa
end
section
namespace Go.Proofs.Ytelgefgphhebnaa
open Go Go.RowKit
set_option linter.unusedVariables false
set_option linter.unusedSimpArgs false
/-- the unit vector at i -/
def uv (i : Nat) : Nat → Nat := upd (fun _ => 0) i 1
theorem uv_rsd {p d : Nat} {m : Nat → Nat} (hp : 2 ≤ p) (hd : deg m = (d : Int)) {i : Nat} (hi : i < d) : rsd p m (uv i) := by
 refine ⟨fun k _ => by unfold uv upd; split <;> first | omega | (show 0 < p; omega), ?_⟩
 rcases deg_spec (uv i) with ⟨h, _⟩ | ⟨e, h1, h2, h3, _⟩
 · omega
 · have e1 : e = i := by
    by_cases he : e = i
    · exact he
    · exfalso; apply h3; unfold uv upd; rw [if_neg he]
   omega
/-- the matrix: its row i is what the skew polynomial makes of T^i -/
def smS (p : Nat) (m : Nat → Nat) (d : Nat) (F : Nat → Nat → Nat) (i j : Nat) : Nat := if i < d then vlR p m d F (uv i) 8 j else 0
/-- the same, as the rows before i and the entries before c of row i are set -/
def smT (p : Nat) (m : Nat → Nat) (d : Nat) (F : Nat → Nat → Nat) (i c r k : Nat) : Nat := if r < i ∨ (r = i ∧ k < c) then vlR p m d F (uv r) 8 k else 0
theorem smT_z (p : Nat) (m : Nat → Nat) (d : Nat) (F : Nat → Nat → Nat) (r k : Nat) : smT p m d F 0 0 r k = 0 := if_neg (by omega)
theorem smT_in {p d : Nat} {m : Nat → Nat} {F : Nat → Nat → Nat} {f : Nat → Nat} {i j : Nat} (hi : i < 6) (hj : j < 6) (h : ∀ k, k < 36 → f k = smT p m d F i j (k / 6) (k % 6)) :
 ∀ k, k < 36 → upd f (i * 6 + j) (vlR p m d F (uv i) 8 j) k = smT p m d F i (j + 1) (k / 6) (k % 6) := fun k hk => by
 unfold upd
 by_cases e : k = i * 6 + j
 · have e1 : k / 6 = i := by omega
   have e2 : k % 6 = j := by omega
   rw [if_pos e, e1, e2]
   exact (if_pos (Or.inr ⟨rfl, by omega⟩)).symm
 · rw [if_neg e, h k hk]
   unfold smT
   by_cases c : k / 6 < i ∨ (k / 6 = i ∧ k % 6 < j)
   · rw [if_pos c, if_pos (by omega)]
   · rw [if_neg c, if_neg (by omega)]
theorem smT_next {p d : Nat} {m : Nat → Nat} {F : Nat → Nat → Nat} {f : Nat → Nat} {i : Nat} (hz : ∀ c, d ≤ c → c < 64 → vlR p m d F (uv i) 8 c = 0) (h : ∀ k, k < 36 → f k = smT p m d F i d (k / 6) (k % 6)) :
 ∀ k, k < 36 → f k = smT p m d F (i + 1) 0 (k / 6) (k % 6) := fun k hk => by
 rw [h k hk]
 unfold smT
 by_cases c : k / 6 < i ∨ (k / 6 = i ∧ k % 6 < d)
 · rw [if_pos c, if_pos (by omega)]
 · rw [if_neg c]
   by_cases e : k / 6 = i
   · rw [if_pos (by omega), e]
     exact (hz _ (by omega) (by omega)).symm
   · rw [if_neg (by omega)]
theorem smT_end {p d : Nat} {m : Nat → Nat} {F : Nat → Nat → Nat} {f : Nat → Nat} (h : ∀ k, k < 36 → f k = smT p m d F d 0 (k / 6) (k % 6)) :
 zb 36 f = zb 36 (fl 6 (smS p m d F)) := zbc (n := 36) fun k hk => by
 rw [h k hk]
 unfold smT fl smS
 by_cases c : k / 6 < d
 · rw [if_pos (Or.inl c), if_pos c]
 · rw [if_neg (by omega), if_neg c]
/-- both answers: the matrix -/
noncomputable def sqV (p : Int) (m : Nat → Nat) (F : Nat → Nat → Nat) : (Nat → Nat → Nat) × Int := if ckS p m [F] = 0 then (smS p.toNat m (deg m).toNat F, 0) else (fun _ _ => 0, 1)
theorem sqV_0 {n d : Nat} {m : Nat → Nat} {F : Nat → Nat → Nat} (h : ckS (n : Int) m [F] = 0) (hd : deg m = (d : Int)) : sqV (n : Int) m F = (smS n m d F, 0) := by unfold sqV; rw [if_pos h, hd, Int.toNat_natCast, Int.toNat_natCast]
theorem sqV_1 {p : Int} {m : Nat → Nat} {F : Nat → Nat → Nat} (h : ckS p m [F] = 1) : sqV p m F = (fun _ _ => 0, 1) := if_neg (by omega)
attribute [irreducible] sqV
theorem uv_z {p d : Nat} {m : Nat → Nat} {F : Nat → Nat → Nat} (hp : p = 2 ∨ p = 3 ∨ p = 5 ∨ p = 7) (lm : ∀ k, k < 64 → m k < p) (hmon : mon m d) (hi : irr p (cut m) d) (h9 : d ≤ 9) (x : Nat → Nat) : ∀ c, d ≤ c → c < 64 → vlR p m d F x 8 c = 0 := fun c h1 h2 => by
 have h := (vlR_rsd hp lm hmon hi h9 (F := F) (x := x) 8).2
 rw [hmon.1] at h
 rcases deg_spec (vlR p m d F x 8) with ⟨_, hz⟩ | ⟨e, _, he, _, hz⟩
 · exact hz c h2
 · exact hz c (by omega) h2
attribute [local irreducible] deg resP prd okA smS smT
set_option maxRecDepth 100000 in
set_option maxHeartbeats 1600000 in
theorem skewMap_any (p d : Nat) (m : Nat → Nat) (F : Nat → Nat → Nat) (x : Nat → Nat) (b1 b2 b3 : Nat) (w : World) (hpr : p = 2 ∨ p = 3 ∨ p = 5 ∨ p = 7) (lm : ∀ k, k < 64 → m k < p) (hmon : mon m d) (hd1 : 1 ≤ d) (hd4 : d ≤ 4) (lF : ∀ i, i < 8 → ∀ k, k < 64 → F i k < p) (hirr : irr p (cut m) d) (hx : rsd p m x) (B0 : Blk w b1 512 46 (fl 64 F)) (B1 : One w b2 2 (.int .i64 (p : Int))) (B2 : Blk w b3 64 28 m) :
 Calls Try.prog 74 #[.agg (zb 64 x), .pointer (some ⟨b1, 0, none⟩), .pointer (some ⟨b2, 0, none⟩), .pointer (some ⟨b3, 0, none⟩)] w fun e w' => e = .returned (.agg (zb 64 (vlR p m d F x 8))) ∧ Below w.heap.size w w' := by
 have HVA := Lib.hid (fun W => skValue_any p m F x W hpr lm d hmon.1 hd1 (by omega) lF hx hirr)
 clear hpr lm hmon lF hirr hx
 have zx_0 := B0.lt
 have zx_1 := B1.lt
 have zx_2 := B2.lt
 go_enter Try.func74, Try.ntmps74
 go_upto_region 1 with (fail)
 rw [← z64]
 obtain ⟨W1, hwo⟩ : ∃ v : World, v = ((w.alloc (.cells (zb 64 (x)) 28)).alloc (.cells (zb 64 (fun _ => 0)) 28)) := ⟨_, rfl⟩
 have B3 : Blk W1 (w.heap.size) 64 28 (x) := by subst hwo; have := ((Blk.new w 64 28 (x)).alloc (.cells (zb 64 (fun _ => 0)) 28)); simpa using this
 have B4 : Blk W1 (w.heap.size + 1) 64 28 (fun _ => 0) := by subst hwo; have := (Blk.new (w.alloc (.cells (zb 64 (x)) 28)) 64 28 (fun _ => 0)); simpa using this
 replace B0 : Blk W1 (b1) 512 46 (fl 64 F) := by subst hwo; exact ((B0.alloc (.cells (zb 64 (x)) 28)).alloc (.cells (zb 64 (fun _ => 0)) 28))
 replace B1 : One W1 (b2) 2 (.int .i64 (p : Int)) := by subst hwo; exact ((B1.alloc (.cells (zb 64 (x)) 28)).alloc (.cells (zb 64 (fun _ => 0)) 28))
 replace B2 : Blk W1 (b3) 64 28 (m) := by subst hwo; exact ((B2.alloc (.cells (zb 64 (x)) 28)).alloc (.cells (zb 64 (fun _ => 0)) 28))
 have hb : Below w.heap.size w W1 := by subst hwo; exact (((Below.refl _ _).alloc (Nat.le_refl _) _).alloc (by simp) _)
 rw [← hwo]
 clear hwo
 have lt_B0 := B0.lt
 have lt_B1 := B1.lt
 have lt_B2 := B2.lt
 have lt_B3 := B3.lt
 have lt_B4 := B4.lt
 go_wp2_with (first | rw [← z64] | (refine zla (.tmp 1) B0 Try.underlying46 Try.size46 ?_) | (refine zlo rfl 2 (.tmp 2) rfl _ rfl 2 ((.int .i64 (p : Int))) (B1) _ Try.underlying2 rfl ?_) | (refine zla (.tmp 3) B2 Try.underlying28 Try.size28 ?_) | (refine zbo rfl 70 _ rfl (fdC (p : Int) m).toArray (by rw [Array.toList_map]; exact built_fd (p : Int) m) ?_) | (refine zla (.tmp 4) B3 Try.underlying28 Try.size28 ?_) | (go_at_call 75; refine (HVA.out _).mono ?_; rintro e W2 ⟨rfl, hW2⟩; replace B0 := B0.zw hW2; replace B1 := B1.zw hW2; replace B2 := B2.zw hW2; replace B3 := B3.zw hW2; replace B4 := B4.zw hW2; replace hb := (hb).trans (hW2.mono (hb).size)) | (refine zsr (.tmp 5) (.tmp 11) (vlR p m d F x 8) B4 Try.size28 ?_; try simp only [Act.put]))
 obtain ⟨W3, hwo, hzQ⟩ : ∃ v : World, v = (W2.setRow (w.heap.size + 1) (zb 64 (vlR p m d F x 8))) ∧ Blk v (b1) 512 46 (fl 64 F) ∧ One v (b2) 2 (.int .i64 (p : Int)) ∧ Blk v (b3) 64 28 (m) ∧ Blk v (w.heap.size) 64 28 (x) ∧ Blk v (w.heap.size + 1) 64 28 (vlR p m d F x 8) ∧ Below w.heap.size w v := ⟨_, rfl, (B0.rowOther (by omega)), (B1.rowOther (by omega)), (B2.rowOther (by omega)), (B3.rowOther (by omega)), (B4.row (vlR p m d F x 8)), (zr hb (by omega) _)⟩
 rw [← hwo]
 clear hwo B0 B1 B2 B3 B4 hb
 obtain ⟨B0, B1, B2, B3, B4, hb⟩ := hzQ
 try simp only [Act.put, pA, pB, pC]
 refine bodyPost_ret (results_any rfl _ _ _ 64 _ _ rfl B4 _ Try.underlying28 rfl Try.size28) rfl ⟨rfl, hb⟩
set_option maxRecDepth 100000 in
set_option maxHeartbeats 1600000 in
theorem squareOfSk_any (p d : Nat) (m : Nat → Nat) (F : Nat → Nat → Nat) (b1 b2 b3 : Nat) (w : World) (hpr : p = 2 ∨ p = 3 ∨ p = 5 ∨ p = 7) (lm : ∀ k, k < 64 → m k < p) (hmon : mon m d) (hd1 : 1 ≤ d) (hd4 : d ≤ 4) (lF : ∀ i, i < 8 → ∀ k, k < 64 → F i k < p) (hirr : irr p (cut m) d) (B0 : Blk w b1 512 46 (fl 64 F)) (B1 : One w b2 2 (.int .i64 (p : Int))) (B2 : Blk w b3 64 28 m) :
 Calls Try.prog 76 #[.int .i64 (d : Int), .func (.func 74) #[] #[.pointer (some ⟨b1, 0, none⟩), .pointer (some ⟨b2, 0, none⟩), .pointer (some ⟨b3, 0, none⟩)]] w fun e w' => e = .returned (.agg (zb 36 (fl 6 (smS p m d F)))) ∧ Below w.heap.size w w' := by
 have HSH := Lib.hid (fun j (hj : j < d) W (hW : Below w.heap.size w W) => skewMap_any p d m F (uv j) b1 b2 b3 W hpr lm hmon hd1 hd4 lF hirr (uv_rsd (by omega) hmon.1 hj) (B0.zw hW) (B1.zw hW) (B2.zw hW))
 have HU := Lib.hid (fun j (hj : j < d) (G : Nat → Nat → Nat) (hG : ∀ i, i < 6 → ∀ c, c < 6 → G i c = if i < j then smS p m d F i c else 0) => show ∀ i, i < 6 → ∀ c, c < 6 → updR G j (vlR p m d F (uv j) 8) i c = if i < j + 1 then smS p m d F i c else 0 from fun i hi c hc => by
  by_cases e : i = j
  · subst e
    rw [updR_same, if_pos (by omega)]
    unfold smS; rw [if_pos hj]
  · rw [updR_other e, hG i hi c hc]
    by_cases h : i < j
    · rw [if_pos h, if_pos (by omega)]
    · rw [if_neg h, if_neg (by omega)])
 have HV := Lib.hid (fun (G : Nat → Nat → Nat) (hG : ∀ i, i < 6 → ∀ c, c < 6 → G i c = if i < d then smS p m d F i c else 0) => zbc (n := 36) (fl_congr (n := 6) (c := 6) (F := G) (G := smS p m d F) (by decide) (fun i hi j hj => by
  rw [hG i hi j hj]
  by_cases h : i < d
  · rw [if_pos h]
  · rw [if_neg h]; unfold smS; rw [if_neg h])))
 clear hpr lm hmon lF hirr
 go_enter Try.func76, Try.ntmps76
 go_upto_region 1 with (fail)
 rw [← zero36]
 obtain ⟨W1, hwo⟩ : ∃ v : World, v = (w.alloc (.cells (zb 36 (fl 6 (fun _ _ => 0))) 57)) := ⟨_, rfl⟩
 have B0 : Blk W1 (w.heap.size) 36 57 (fl 6 (fun _ _ => 0)) := by subst hwo; have := (Blk.new w 36 57 (fl 6 (fun _ _ => 0))); simpa using this
 have hb : Below w.heap.size w W1 := by subst hwo; exact ((Below.refl _ _).alloc (Nat.le_refl _) _)
 rw [← hwo]
 clear hwo
 go_upto_region 2 with (first | rw [← z64] | rw [← zero36])
 have lt_B0 := B0.lt
 have lhb := hb.size
 obtain ⟨W2, hwo, hzQ⟩ : ∃ v : World, v = (W1.alloc (.cells (zb 36 (fl 6 (fun _ _ => 0))) 57)) ∧ Blk v (w.heap.size) 36 57 (fl 6 (fun _ _ => 0)) ∧ Blk v (W1.heap.size) 36 57 (fl 6 (fun _ _ => 0)) ∧ Below w.heap.size w v := ⟨_, rfl, (B0.alloc (.cells (zb 36 (fl 6 (fun _ _ => 0))) 57)), (Blk.new W1 36 57 (fl 6 (fun _ _ => 0))), (hb.alloc (by have := hb.size; simp; omega) (.cells (zb 36 (fl 6 (fun _ _ => 0))) 57))⟩
 rw [← hwo]
 clear hwo B0 hb
 obtain ⟨B0, B1, hb⟩ := hzQ
 obtain ⟨N1, hNN⟩ : ∃ n : Nat, n = W1.heap.size := ⟨_, rfl⟩
 rw [← hNN] at lt_B0 lhb B1 ⊢
 clear hNN
 have zN1_0 := lt_B0
 have zN1 := lhb
 clear lt_B0 lhb
 try simp only [Act.put, pA, pB, pC]
 go_upto_region 99 with (fail)
 go_loopw [9] (fun c wr => ∃ (j : Nat) (G : Nat → Nat → Nat), c = .int .i64 (j : Int) ∧ j ≤ d ∧ Hid (∀ i, i < 6 → ∀ c, c < 6 → G i c = if i < j then smS p m d F i c else 0) ∧ Below w.heap.size w wr ∧ Blk wr (w.heap.size) 36 57 (fl 6 (fun _ _ => 0)) ∧ Blk wr (N1) 36 57 (fl 6 G)) (fun c _ => d - (intOf c).toNat)
 case atStart => exact ⟨0, _, rfl, by omega, Lib.hid (fun i hi c hc => by rw [if_neg (Nat.not_lt_zero i)]), hb, B0, B1⟩
 case round =>
  clear hb B0 B1
  obtain ⟨j, G, rfl, hjn, hG, hb, B0, B1⟩ := hrel
  by_cases hj : j < d
  · have hjI : (j : Int) < (d : Int) := by omega
    have hj6 : (j : Int) < 64 := by omega
    have hj64 : j < 64 := by omega
    have hjr : (j : Int) < 6 := by omega
    have HG2 := Lib.hid (HU.out j hj G hG.out)
    have HS2 := Lib.hid (fun W hW => HSH.out j hj W hW)
    go_upto_region 5 with (fail)
    go_upto_region 6 with (first | rw [← z64])
    have lt_B0 := B0.lt
    have lt_B1 := B1.lt
    have lhb := hb.size
    obtain ⟨W3, hwo, hzQ⟩ : ∃ v : World, v = (wr.alloc (.cells (zb 64 (fun _ => 0)) 28)) ∧ Blk v (w.heap.size) 36 57 (fl 6 (fun _ _ => 0)) ∧ Blk v (N1) 36 57 (fl 6 G) ∧ Blk v (wr.heap.size) 64 28 (fun _ => 0) ∧ Below w.heap.size w v := ⟨_, rfl, (B0.alloc (.cells (zb 64 (fun _ => 0)) 28)), (B1.alloc (.cells (zb 64 (fun _ => 0)) 28)), (Blk.new wr 64 28 (fun _ => 0)), (hb.alloc (by have := hb.size; simp; omega) (.cells (zb 64 (fun _ => 0)) 28))⟩
    rw [← hwo]
    clear hwo B0 B1 hb
    obtain ⟨B0, B1, B2, hb⟩ := hzQ
    obtain ⟨N2, hNN⟩ : ∃ n : Nat, n = wr.heap.size := ⟨_, rfl⟩
    rw [← hNN] at lt_B0 lt_B1 lhb B2 ⊢
    clear hNN
    have zN2_0 := lt_B0
    have zN2_1 := lt_B1
    have zN2 := lhb
    clear lt_B0 lt_B1 lhb
    try simp only [Act.put, pA, pB, pC]
    have cc := B2.cell (i := j) hj64
    have zz := B2.frozen j
    go_upto_region 7 with (fail)
    clear cc zz
    have lt_B0 := B0.lt
    have lt_B1 := B1.lt
    have lt_B2 := B2.lt
    have qB0 : Blk (W3.setCell ⟨N2, j, none⟩ (.int .u8 (1))) (w.heap.size) 36 57 (fl 6 (fun _ _ => 0)) := (B0.setOther (by show (w.heap.size) ≠ (N2); omega))
    have qB1 : Blk (W3.setCell ⟨N2, j, none⟩ (.int .u8 (1))) (N1) 36 57 (fl 6 G) := (B1.setOther (by show (N1) ≠ (N2); omega))
    have qB2 : Blk (W3.setCell ⟨N2, j, none⟩ (.int .u8 (1))) (N2) 64 28 (uv j) := ((B2.set (v := 1) (rfl)).congr (fun k _ => rfl))
    have qhb : Below w.heap.size w (W3.setCell ⟨N2, j, none⟩ (.int .u8 (1))) := (hb.setCell (by show w.heap.size ≤ (N2); omega) _)
    obtain ⟨W4, hwo⟩ : ∃ v : World, v = (W3.setCell ⟨N2, j, none⟩ (.int .u8 (1))) := ⟨_, rfl⟩
    rw [← hwo] at qB0 qB1 qB2 qhb ⊢
    clear hwo
    clear B0 B1 B2 hb
    have B0 := qB0
    have B1 := qB1
    have B2 := qB2
    have hb := qhb
    clear qB0 qB1 qB2 qhb
    try simp only [Act.put, pA, pB, pC]
    have lt_B0 := B0.lt
    have lt_B1 := B1.lt
    have lt_B2 := B2.lt
    go_wp2_with (first | rw [← z64] | rw [← zero6] | (refine zla (.tmp 7) B2 Try.underlying28 Try.size28 ?_) | (go_at_call 74; refine (HS2.out _ hb).mono ?_; rintro e W5 ⟨rfl, hW5⟩; replace B0 := B0.zw hW5; replace B1 := B1.zw hW5; replace B2 := B2.zw hW5; replace hb := (hb).trans (hW5.mono (hb).size)) | (go_at_call 123; refine (rowOfPoly_any (vlR p m d F (uv j) 8) _).mono ?_; rintro e W6 ⟨rfl, hW6⟩; replace B0 := B0.zw hW6; replace B1 := B1.zw hW6; replace B2 := B2.zw hW6; replace hb := (hb).trans (hW6.mono (hb).size)) | (refine wpList_store_sq rfl 55 (.tmp 19) (.tmp 18) rfl _ (j) (vlR p m d F (uv j) 8) rfl rfl 57 _ (B1) (by omega) Try.size55 ?_; try simp only [Act.put]))
    obtain ⟨W7, hwo, hzQ⟩ : ∃ v : World, v = (W6.setRow (N1) (zb 36 (fl 6 (updR G j (vlR p m d F (uv j) 8))))) ∧ Blk v (w.heap.size) 36 57 (fl 6 (fun _ _ => 0)) ∧ Blk v (N1) 36 57 (fl 6 (updR G j (vlR p m d F (uv j) 8))) ∧ Blk v (N2) 64 28 (uv j) ∧ Below w.heap.size w v := ⟨_, rfl, (B0.rowOther (by omega)), (B1.row (fl 6 (updR G j (vlR p m d F (uv j) 8)))), (B2.rowOther (by omega)), (zr hb (by omega) _)⟩
    rw [← hwo]
    clear hwo B0 B1 B2 hb
    obtain ⟨B0, B1, B2, hb⟩ := hzQ
    try simp only [Act.put, pA, pB, pC]
    go_roundw
    case rel => exact ⟨j + 1, _, by go_num, by omega, HG2, hb, B0, B1⟩
    case measure => simp [intOf] <;> omega
  · have hjI : ¬ (j : Int) < (d : Int) := by omega
    obtain rfl : j = d := by omega
    have HE := Lib.hid (HV.out G hG.out)
    go_upto_region 9 with (fail)
    have lt_B0 := B0.lt
    have lt_B1 := B1.lt
    go_wp2_with (first | rw [← z64] | rw [← zero36] | (refine zla (.tmp 5) B1 Try.underlying57 Try.size57 ?_) | (refine zsr (.tmp 4) (.tmp 21) (fl 6 G) B0 Try.size57 ?_; try simp only [Act.put]))
    obtain ⟨W3, hwo, hzQ⟩ : ∃ v : World, v = (wr.setRow (w.heap.size) (zb 36 (fl 6 G))) ∧ Blk v (w.heap.size) 36 57 (fl 6 G) ∧ Blk v (N1) 36 57 (fl 6 G) ∧ Below w.heap.size w v := ⟨_, rfl, (B0.row (fl 6 G)), (B1.rowOther (by omega)), (zr hb (by omega) _)⟩
    rw [← hwo]
    clear hwo B0 B1 hb
    obtain ⟨B0, B1, hb⟩ := hzQ
    try simp only [Act.put, pA, pB, pC]
    refine bodyPost_ret (results_any rfl _ _ _ 36 _ _ rfl B0 _ Try.underlying57 rfl Try.size57) rfl ⟨by rw [HE.out], hb⟩
set_option maxRecDepth 100000 in
set_option maxHeartbeats 1600000 in
theorem SquareOfSkewC_ok (p d : Nat) (m : Nat → Nat) (F : Nat → Nat → Nat) (b1 b2 b3 : Nat) (w : World) (hm : byte m) (hF : ∀ i, byte (F i)) (hc : ckS (p : Int) m [F] = 0) (hpr : p = 2 ∨ p = 3 ∨ p = 5 ∨ p = 7) (lm : ∀ k, k < 64 → m k < p) (hmon : mon m d) (hd1 : 1 ≤ d) (hd4 : d ≤ 4) (lF : ∀ i, i < 8 → ∀ k, k < 64 → F i k < p) (hirr : irr p (cut m) d) (B2 : Blk w b3 512 46 (fl 64 F)) (B0 : One w b1 2 (.int .i64 (p : Int))) (B1 : Blk w b2 64 28 m) :
 Calls Try.prog 71 #[.pointer (some ⟨b1, 0, none⟩), .pointer (some ⟨b2, 0, none⟩), .pointer (some ⟨b3, 0, none⟩)] w fun e w' => e = .returned (.agg (zb 36 (fl 6 (smS p m d F)))) ∧ Below w.heap.size w w' := by
 have HIS := Lib.hid (fun W => impl_IsSkew_any (p : Int) m F hm hF W)
 rw [isV_0 hc] at HIS
 have hmf : ∀ (fn : Fn) (first cap : Array Value) (w : World), (Instr.makeFunc fn first cap).run Try.prog w = .ok (.func fn first cap) w := fun _ _ _ _ => rfl
 have hd := hmon.1
 have HSO := Lib.hid (fun b1 b2 b3 W h1 h2 h3 => squareOfSk_any p d m F b1 b2 b3 W hpr lm hmon hd1 hd4 lF hirr h1 h2 h3)
 clear hpr lm lF hirr hmon hc
 have zx_0 := B0.lt
 have zx_1 := B1.lt
 have zx_2 := B2.lt
 go_enter Try.func71, Try.ntmps71
 go_upto_region 1 with (fail)
 rw [← zero36]
 obtain ⟨W1, hwo⟩ : ∃ v : World, v = (w.alloc (.cells (zb 36 (fl 6 (fun _ _ => 0))) 57)) := ⟨_, rfl⟩
 have B3 : Blk W1 (w.heap.size) 36 57 (fl 6 (fun _ _ => 0)) := by subst hwo; have := (Blk.new w 36 57 (fl 6 (fun _ _ => 0))); simpa using this
 replace B0 : One W1 (b1) 2 (.int .i64 (p : Int)) := by subst hwo; exact (B0.alloc (.cells (zb 36 (fl 6 (fun _ _ => 0))) 57))
 replace B1 : Blk W1 (b2) 64 28 (m) := by subst hwo; exact (B1.alloc (.cells (zb 36 (fl 6 (fun _ _ => 0))) 57))
 replace B2 : Blk W1 (b3) 512 46 (fl 64 F) := by subst hwo; exact (B2.alloc (.cells (zb 36 (fl 6 (fun _ _ => 0))) 57))
 have hb : Below w.heap.size w W1 := by subst hwo; exact ((Below.refl _ _).alloc (Nat.le_refl _) _)
 rw [← hwo]
 clear hwo
 go_upto_region 2 with (first | (refine zlo rfl 2 (.tmp 0) rfl _ rfl 2 ((.int .i64 (p : Int))) (B0) _ Try.underlying2 rfl ?_) | (refine zla (.tmp 1) B1 Try.underlying28 Try.size28 ?_) | (refine zla (.tmp 2) B2 Try.underlying46 Try.size46 ?_) | (go_at_call 73; refine (HIS.out _).mono ?_; rintro e W2 ⟨rfl, hW2⟩; replace B0 := B0.zw hW2; replace B1 := B1.zw hW2; replace B2 := B2.zw hW2; replace B3 := B3.zw hW2; replace hb := (hb).trans (hW2.mono (hb).size)) | (go_at_call 72; refine (refuseUnless_ok _).mono ?_; rintro e wS ⟨rfl, rfl⟩))
 go_upto_region 3 with (fail)
 have lt_B0 := B0.lt
 have lt_B1 := B1.lt
 have lt_B2 := B2.lt
 have lt_B3 := B3.lt
 go_wp2_with (first | rw [← z64] | rw [← zero36] | (refine zla (.tmp 1) B1 Try.underlying28 Try.size28 ?_) | (go_at_call 77; refine (degree_any m _).mono ?_; rintro e W3 ⟨rfl, hW3⟩; replace B0 := B0.zw hW3; replace B1 := B1.zw hW3; replace B2 := B2.zw hW3; replace B3 := B3.zw hW3; replace hb := (hb).trans (hW3.mono (hb).size); rw [hd]) | (go_at_call 76; refine (HSO.out _ _ _ _ B2 B0 B1).mono ?_; rintro e W4 ⟨rfl, hW4⟩; replace B0 := B0.zw hW4; replace B1 := B1.zw hW4; replace B2 := B2.zw hW4; replace B3 := B3.zw hW4; replace hb := (hb).trans (hW4.mono (hb).size)) | (refine zsr (.tmp 3) (.tmp 14) (fl 6 (smS p m d F)) B3 Try.size57 ?_; try simp only [Act.put]))
 obtain ⟨W5, hwo, hzQ⟩ : ∃ v : World, v = (W4.setRow (w.heap.size) (zb 36 (fl 6 (smS p m d F)))) ∧ One v (b1) 2 (.int .i64 (p : Int)) ∧ Blk v (b2) 64 28 (m) ∧ Blk v (b3) 512 46 (fl 64 F) ∧ Blk v (w.heap.size) 36 57 (fl 6 (smS p m d F)) ∧ Below w.heap.size w v := ⟨_, rfl, (B0.rowOther (by omega)), (B1.rowOther (by omega)), (B2.rowOther (by omega)), (B3.row (fl 6 (smS p m d F))), (zr hb (by omega) _)⟩
 rw [← hwo]
 clear hwo B0 B1 B2 B3 hb
 obtain ⟨B0, B1, B2, B3, hb⟩ := hzQ
 try simp only [Act.put, pA, pB, pC]
 refine bodyPost_ret (results_any rfl _ _ _ 36 _ _ rfl B3 _ Try.underlying57 rfl Try.size57) rfl ⟨rfl, hb⟩
set_option maxRecDepth 100000 in
set_option maxHeartbeats 1600000 in
theorem SquareOfSkewC_no (p : Int) (m : Nat → Nat) (F : Nat → Nat → Nat) (b1 b2 b3 : Nat) (w : World) (hm : byte m) (hF : ∀ i, byte (F i)) (hc : ckS p m [F] = 1) (B2 : Blk w b3 512 46 (fl 64 F)) (B0 : One w b1 2 (.int .i64 p)) (B1 : Blk w b2 64 28 m) :
 Calls Try.prog 71 #[.pointer (some ⟨b1, 0, none⟩), .pointer (some ⟨b2, 0, none⟩), .pointer (some ⟨b3, 0, none⟩)] w fun e w' => e = .panicked [{ v := .iface 130 (.int .i64 1), recovered := false }] ∧ Below w.heap.size w w' := by
 have HIS := Lib.hid (fun W => impl_IsSkew_any p m F hm hF W)
 rw [isV_1 hc] at HIS
 have zx_0 := B0.lt
 have zx_1 := B1.lt
 have zx_2 := B2.lt
 go_enter Try.func71, Try.ntmps71
 go_upto_region 1 with (fail)
 rw [← zero36]
 obtain ⟨W1, hwo⟩ : ∃ v : World, v = (w.alloc (.cells (zb 36 (fl 6 (fun _ _ => 0))) 57)) := ⟨_, rfl⟩
 have B3 : Blk W1 (w.heap.size) 36 57 (fl 6 (fun _ _ => 0)) := by subst hwo; have := (Blk.new w 36 57 (fl 6 (fun _ _ => 0))); simpa using this
 replace B0 : One W1 (b1) 2 (.int .i64 p) := by subst hwo; exact (B0.alloc (.cells (zb 36 (fl 6 (fun _ _ => 0))) 57))
 replace B1 : Blk W1 (b2) 64 28 (m) := by subst hwo; exact (B1.alloc (.cells (zb 36 (fl 6 (fun _ _ => 0))) 57))
 replace B2 : Blk W1 (b3) 512 46 (fl 64 F) := by subst hwo; exact (B2.alloc (.cells (zb 36 (fl 6 (fun _ _ => 0))) 57))
 have hb : Below w.heap.size w W1 := by subst hwo; exact ((Below.refl _ _).alloc (Nat.le_refl _) _)
 rw [← hwo]
 clear hwo
 go_wp2_with (first | (refine zlo rfl 2 (.tmp 0) rfl _ rfl 2 ((.int .i64 p)) (B0) _ Try.underlying2 rfl ?_) | (refine zla (.tmp 1) B1 Try.underlying28 Try.size28 ?_) | (refine zla (.tmp 2) B2 Try.underlying46 Try.size46 ?_) | (go_at_call 73; refine (HIS.out _).mono ?_; rintro e W2 ⟨rfl, hW2⟩; replace B0 := B0.zw hW2; replace B1 := B1.zw hW2; replace B2 := B2.zw hW2; replace B3 := B3.zw hW2; replace hb := (hb).trans (hW2.mono (hb).size)) | (go_at_call 72; refine (refuseUnless_no _).mono ?_; rintro e wS ⟨rfl, rfl⟩))
 exact ⟨rfl, rfl, hb⟩
set_option maxRecDepth 100000 in
set_option maxHeartbeats 1600000 in
theorem door_SquareOfSkew (c1 c2 c3 : Value) (F : Nat → Nat → Nat) (w : World) (H : ∀ W, Below w.heap.size w W → Calls Try.prog 71 #[c1, c2, c3] W fun e w' => e = .returned (.agg (zb 36 (fl 6 F))) ∧ Below W.heap.size W w') :
 Calls Try.prog 70 #[.func (.func 71) #[] #[c1, c2, c3]] w fun e w' => e = .returned (.tuple #[.agg (zb 36 (fl 6 F)), .int .i64 0]) ∧ Below w.heap.size w w' := by
 have HH := Lib.hid H
 clear H
 have hmf : ∀ (fn : Fn) (first cap : Array Value) (w : World), (Instr.makeFunc fn first cap).run Try.prog w = .ok (.func fn first cap) w := fun _ _ _ _ => rfl
 go_enter_defers Try.func70, Try.ntmps70
 go_upto_region 1 with (fail)
 rw [← zero36]
 obtain ⟨W1, hwo⟩ : ∃ v : World, v = ((w.alloc (.cells (zb 36 (fl 6 fun _ _ => 0)) 57)).alloc (.cells #[.int .i64 0] 2)) := ⟨_, rfl⟩
 have B0 : Blk W1 (w.heap.size) 36 57 (fl 6 fun _ _ => 0) := by subst hwo; exact ((Blk.new w 36 57 (fl 6 fun _ _ => 0)).alloc _)
 have B1 : One W1 (w.heap.size + 1) 2 (.int .i64 0) := by subst hwo; have := One.new (w.alloc (.cells (zb 36 (fl 6 fun _ _ => 0)) 57)) 2 (.int .i64 0); simpa using this
 have hb : Below w.heap.size w W1 := by subst hwo; exact (((Below.refl _ _).alloc (Nat.le_refl _) _).alloc (by simp) _)
 rw [← hwo]
 clear hwo
 go_upto_region 2 with (fail)
 clear hmf
 have lt0 := B0.lt
 have lt1 := B1.lt
 go_wp2_with (first | (go_at_call 71; refine (HH.out _ hb).mono ?_; rintro e W2 ⟨rfl, hW2⟩; replace B0 := B0.zw hW2; replace B1 := B1.zw hW2; replace hb := hb.trans (hW2.mono hb.size)) | (refine zsr (.tmp 2) (.tmp 6) (fl 6 F) B0 Try.size57 ?_; have C0 := B0.row (fl 6 F); have C1 := B1.rowOther (cs := zb 36 (fl 6 F)) (show w.heap.size + 1 ≠ w.heap.size by omega); have cc1 := C1.cell; have z1 := C1.frozen 0; try simp only [Act.put]; go_wp2_with fail))
 have D0 : Blk ((W2.setRow w.heap.size (zb 36 (fl 6 F))).setCell ⟨w.heap.size + 1, 0, none⟩ (.int .i64 0)) (w.heap.size) 36 57 (fl 6 F) := C0.setOther (by dsimp only; omega)
 have D1 : One ((W2.setRow w.heap.size (zb 36 (fl 6 F))).setCell ⟨w.heap.size + 1, 0, none⟩ (.int .i64 0)) (w.heap.size + 1) 2 (.int .i64 0) := C1.setc
 have hb2 : Below w.heap.size w ((W2.setRow w.heap.size (zb 36 (fl 6 F))).setCell ⟨w.heap.size + 1, 0, none⟩ (.int .i64 0)) := (zr hb (by omega) _).setCell (by dsimp only; omega) _
 refine leaves_cons (f := 120) (args := #[.pointer (some ⟨w.heap.size + 1, 0, none⟩)]) (by simp) (by simp [go_sem]) ?_
 refine (door_idleS (w.heap.size + 1) _).mono ?_
 rintro e u' w'' ⟨rfl, rfl, rfl⟩
 exact ⟨_, results_anyc rfl _ _ _ 36 57 (fl 6 F) rfl D0 _ Try.underlying57 rfl Try.size57 _ 2 (.int .i64 0) rfl D1 .i64 Try.underlying2, rfl, hb2⟩
set_option maxRecDepth 100000 in
set_option maxHeartbeats 1600000 in
theorem door_SquareOfSkewN (c1 c2 c3 : Value) (F : Nat → Nat → Nat) (w : World) (H : ∀ W, Below w.heap.size w W → Calls Try.prog 71 #[c1, c2, c3] W fun e w' => e = .panicked [{ v := .iface 130 (.int .i64 1), recovered := false }] ∧ Below W.heap.size W w') :
 Calls Try.prog 70 #[.func (.func 71) #[] #[c1, c2, c3]] w fun e w' => e = .returned (.tuple #[.agg (zb 36 (fl 6 fun _ _ => 0)), .int .i64 1]) ∧ Below w.heap.size w w' := by
 have HH := Lib.hid H
 clear H
 have hmf : ∀ (fn : Fn) (first cap : Array Value) (w : World), (Instr.makeFunc fn first cap).run Try.prog w = .ok (.func fn first cap) w := fun _ _ _ _ => rfl
 go_enter_defers Try.func70, Try.ntmps70
 go_upto_region 1 with (fail)
 rw [← zero36]
 obtain ⟨W1, hwo⟩ : ∃ v : World, v = ((w.alloc (.cells (zb 36 (fl 6 fun _ _ => 0)) 57)).alloc (.cells #[.int .i64 0] 2)) := ⟨_, rfl⟩
 have B0 : Blk W1 (w.heap.size) 36 57 (fl 6 fun _ _ => 0) := by subst hwo; exact ((Blk.new w 36 57 (fl 6 fun _ _ => 0)).alloc _)
 have B1 : One W1 (w.heap.size + 1) 2 (.int .i64 0) := by subst hwo; have := One.new (w.alloc (.cells (zb 36 (fl 6 fun _ _ => 0)) 57)) 2 (.int .i64 0); simpa using this
 have hb : Below w.heap.size w W1 := by subst hwo; exact (((Below.refl _ _).alloc (Nat.le_refl _) _).alloc (by simp) _)
 rw [← hwo]
 clear hwo
 go_upto_region 2 with (fail)
 clear hmf
 have lt0 := B0.lt
 have lt1 := B1.lt
 go_wp2_with (first | (go_at_call 71; refine (HH.out _ hb).mono ?_; rintro e W2 ⟨rfl, hW2⟩; replace B0 := B0.zw hW2; replace B1 := B1.zw hW2; replace hb := hb.trans (hW2.mono hb.size)))
 have D0 : Blk (W2.setCell ⟨w.heap.size + 1, 0, none⟩ (.int .i64 1)) (w.heap.size) 36 57 (fl 6 fun _ _ => 0) := B0.setOther (by dsimp only; omega)
 have D1 : One (W2.setCell ⟨w.heap.size + 1, 0, none⟩ (.int .i64 1)) (w.heap.size + 1) 2 (.int .i64 1) := B1.setc
 have hb2 : Below w.heap.size w (W2.setCell ⟨w.heap.size + 1, 0, none⟩ (.int .i64 1)) := hb.setCell (by dsimp only; omega) _
 refine leaves_cons (f := 120) (args := #[.pointer (some ⟨w.heap.size + 1, 0, none⟩)]) (by simp) (by simp [go_sem]) ?_
 refine (door_caughtS (w.heap.size + 1) 0 _ B1).mono ?_
 rintro e u' w'' ⟨rfl, rfl, rfl⟩
 exact ⟨_, results_anyc rfl _ _ _ 36 57 (fl 6 fun _ _ => 0) rfl D0 _ Try.underlying57 rfl Try.size57 _ 2 (.int .i64 1) rfl D1 .i64 Try.underlying2, rfl, hb2⟩
set_option maxRecDepth 100000 in
set_option maxHeartbeats 1600000 in
theorem impl_SquareOfSkew_any (p : Int) (m : Nat → Nat) (F : Nat → Nat → Nat) (hm : byte m) (hF : ∀ i, byte (F i)) (w : World) :
 Calls Try.prog 41 #[.int .i64 p, .agg (zb 64 m), .agg (zb 512 (fl 64 F))] w fun e w' => e = .returned (.tuple #[.agg (zb 36 (fl 6 (sqV p m F).1)), .int .i64 (sqV p m F).2]) ∧ Below w.heap.size w w' := by
 go_enter Try.func41, Try.ntmps41
 go_upto_region 1 with (fail)
 rw [← zero36]
 obtain ⟨W1, hwo⟩ : ∃ v : World, v = ((((w.alloc (.cells #[(.int .i64 p)] 2)).alloc (.cells (zb 64 (m)) 28)).alloc (.cells (zb 512 (fl 64 F)) 46)).alloc (.cells (zb 36 (fl 6 (fun _ _ => 0))) 57)) := ⟨_, rfl⟩
 have B0 : One W1 (w.heap.size) 2 (.int .i64 p) := by subst hwo; have := ((((One.new w 2 (.int .i64 p)).alloc (.cells (zb 64 (m)) 28)).alloc (.cells (zb 512 (fl 64 F)) 46)).alloc (.cells (zb 36 (fl 6 (fun _ _ => 0))) 57)); simpa using this
 have B1 : Blk W1 (w.heap.size + 1) 64 28 (m) := by subst hwo; have := (((Blk.new (w.alloc (.cells #[(.int .i64 p)] 2)) 64 28 (m)).alloc (.cells (zb 512 (fl 64 F)) 46)).alloc (.cells (zb 36 (fl 6 (fun _ _ => 0))) 57)); simpa using this
 have B2 : Blk W1 (w.heap.size + 1 + 1) 512 46 (fl 64 F) := by subst hwo; have := ((Blk.new ((w.alloc (.cells #[(.int .i64 p)] 2)).alloc (.cells (zb 64 (m)) 28)) 512 46 (fl 64 F)).alloc (.cells (zb 36 (fl 6 (fun _ _ => 0))) 57)); simpa using this
 have B3 : Blk W1 (w.heap.size + 1 + 1 + 1) 36 57 (fl 6 (fun _ _ => 0)) := by subst hwo; have := (Blk.new (((w.alloc (.cells #[(.int .i64 p)] 2)).alloc (.cells (zb 64 (m)) 28)).alloc (.cells (zb 512 (fl 64 F)) 46)) 36 57 (fl 6 (fun _ _ => 0))); simpa using this
 have hb : Below w.heap.size w W1 := by subst hwo; exact (((((Below.refl _ _).alloc (Nat.le_refl _) _).alloc (by simp) _).alloc (by simp; omega) _).alloc (by simp; omega) _)
 rw [← hwo]
 clear hwo
 have hmf : ∀ (fn : Fn) (first cap : Array Value) (w : World), (Instr.makeFunc fn first cap).run Try.prog w = .ok (.func fn first cap) w := fun _ _ _ _ => rfl
 rcases ckS_two p m [F] with hc | hc
 · obtain ⟨n, rfl, hpr, lm, ⟨d, hmon, hd1, hd4⟩, hl⟩ := ckS_fld hc
   have hd := hmon.1
   have lF : ∀ i, i < 8 → ∀ j, j < 64 → F i j < n := fun i hi => (hl F (by simp) i hi).1
   have hirr := ckS_irr hc hmon
   have HV := Lib.hid (sqV_0 hc hd)
   have HDO := Lib.hid (fun (d1 d2 d3 : Nat) (W : World) (h1 : One W d1 2 (.int .i64 (n : Int))) (h2 : Blk W d2 64 28 m) (h3 : Blk W d3 512 46 (fl 64 F)) => door_SquareOfSkew (.pointer (some ⟨d1, 0, none⟩)) (.pointer (some ⟨d2, 0, none⟩)) (.pointer (some ⟨d3, 0, none⟩)) (smS n m d F) W (fun W' hW => SquareOfSkewC_ok n d m F d1 d2 d3 W' hm hF hc hpr lm hmon hd1 hd4 lF hirr (h3.zw hW) (h1.zw hW) (h2.zw hW)))
   clear hc hl hpr lm hmon lF hirr
   have lt_B0 := B0.lt
   have lt_B1 := B1.lt
   have lt_B2 := B2.lt
   have lt_B3 := B3.lt
   go_wp2_with (first | rw [← z64] | rw [← zero36] | (go_at_call 70; refine (HDO.out _ _ _ _ B0 B1 B2).mono ?_; rintro e W2 ⟨rfl, hW2⟩; replace B0 := B0.zw hW2; replace B1 := B1.zw hW2; replace B2 := B2.zw hW2; replace B3 := B3.zw hW2; replace hb := (hb).trans (hW2.mono (hb).size)) | (refine zsr (.tmp 6) (.tmp 10) (fl 6 (smS n m d F)) B3 Try.size57 ?_; try simp only [Act.put]; go_wp2_with fail))
   obtain ⟨W3, hwo, hzQ⟩ : ∃ v : World, v = (W2.setRow (w.heap.size + 1 + 1 + 1) (zb 36 (fl 6 (smS n m d F)))) ∧ One v (w.heap.size) 2 (.int .i64 (n : Int)) ∧ Blk v (w.heap.size + 1) 64 28 (m) ∧ Blk v (w.heap.size + 1 + 1) 512 46 (fl 64 F) ∧ Blk v (w.heap.size + 1 + 1 + 1) 36 57 (fl 6 (smS n m d F)) ∧ Below w.heap.size w v := ⟨_, rfl, (B0.rowOther (by omega)), (B1.rowOther (by omega)), (B2.rowOther (by omega)), (B3.row (fl 6 (smS n m d F))), (zr hb (by omega) _)⟩
   rw [← hwo]
   clear hwo B0 B1 B2 B3 hb
   obtain ⟨B0, B1, B2, B3, hb⟩ := hzQ
   try simp only [Act.put, pA, pB, pC]
   refine bodyPost_ret (zrt rfl _ _ _ 36 _ _ rfl B3 _ Try.underlying57 rfl Try.size57) rfl ⟨by first | (rw [HV.out]; rfl) | rw [HV.out], hb⟩
 · have HV := Lib.hid (sqV_1 hc)
   have HDO := Lib.hid (fun (d1 d2 d3 : Nat) (W : World) (h1 : One W d1 2 (.int .i64 p)) (h2 : Blk W d2 64 28 m) (h3 : Blk W d3 512 46 (fl 64 F)) => door_SquareOfSkewN (.pointer (some ⟨d1, 0, none⟩)) (.pointer (some ⟨d2, 0, none⟩)) (.pointer (some ⟨d3, 0, none⟩)) (fun _ _ => 0) W (fun W' hW => SquareOfSkewC_no p m F d1 d2 d3 W' hm hF hc (h3.zw hW) (h1.zw hW) (h2.zw hW)))
   clear hc
   have lt_B0 := B0.lt
   have lt_B1 := B1.lt
   have lt_B2 := B2.lt
   have lt_B3 := B3.lt
   go_wp2_with (first | rw [← z64] | rw [← zero36] | (go_at_call 70; refine (HDO.out _ _ _ _ B0 B1 B2).mono ?_; rintro e W2 ⟨rfl, hW2⟩; replace B0 := B0.zw hW2; replace B1 := B1.zw hW2; replace B2 := B2.zw hW2; replace B3 := B3.zw hW2; replace hb := (hb).trans (hW2.mono (hb).size)) | (refine zsr (.tmp 6) (.tmp 10) (fl 6 (fun _ _ => 0)) B3 Try.size57 ?_; try simp only [Act.put]; go_wp2_with fail))
   obtain ⟨W3, hwo, hzQ⟩ : ∃ v : World, v = (W2.setRow (w.heap.size + 1 + 1 + 1) (zb 36 (fl 6 (fun _ _ => 0)))) ∧ One v (w.heap.size) 2 (.int .i64 p) ∧ Blk v (w.heap.size + 1) 64 28 (m) ∧ Blk v (w.heap.size + 1 + 1) 512 46 (fl 64 F) ∧ Blk v (w.heap.size + 1 + 1 + 1) 36 57 (fl 6 (fun _ _ => 0)) ∧ Below w.heap.size w v := ⟨_, rfl, (B0.rowOther (by omega)), (B1.rowOther (by omega)), (B2.rowOther (by omega)), (B3.row (fl 6 (fun _ _ => 0))), (zr hb (by omega) _)⟩
   rw [← hwo]
   clear hwo B0 B1 B2 B3 hb
   obtain ⟨B0, B1, B2, B3, hb⟩ := hzQ
   try simp only [Act.put, pA, pB, pC]
   refine bodyPost_ret (zrt rfl _ _ _ 36 _ _ rfl B3 _ Try.underlying57 rfl Try.size57) rfl ⟨by first | (rw [HV.out]; rfl) | rw [HV.out], hb⟩
set_option maxRecDepth 100000 in
set_option maxHeartbeats 1600000 in
theorem l05OfSkew_any (p d : Nat) (m : Nat → Nat) (F : Nat → Nat → Nat) (w : World) (hpr : p = 2 ∨ p = 3 ∨ p = 5 ∨ p = 7) (lm : ∀ k, k < 64 → m k < p) (hmon : mon m d) (hd1 : 1 ≤ d) (hd4 : d ≤ 4) (lF : ∀ i, i < 8 → ∀ k, k < 64 → F i k < p) (hirr : irr p (cut m) d) :
 Calls Try.prog 69 #[.int .i64 (p : Int), .agg (zb 64 m), .agg (zb 512 (fl 64 F))] w fun e w' => e = .returned (.agg (zb 36 (fl 6 (smS p m d F)))) ∧ Below w.heap.size w w' := by
 have hd := hmon.1
 have HVA := Lib.hid (fun i (hi : i < d) W => l03Value_any p m F (uv i) W hpr lm d hd hd1 (by omega) lF (uv_rsd (by omega) hd hi))
 have HVZ := Lib.hid (fun i => uv_z (F := F) hpr lm hmon hirr (by omega) (uv i))
 have HVB := Lib.hid (fun i k (hk : k < 64) => (vlR_rsd hpr lm hmon hirr (by omega) (F := F) (x := uv i) 8).1 k hk)
 have HIN := Lib.hid (fun i j f h1 h2 h => smT_in (p := p) (m := m) (d := d) (F := F) (f := f) (i := i) (j := j) h1 h2 h)
 have HNX := Lib.hid (fun i f h => smT_next (p := p) (m := m) (d := d) (F := F) (f := f) (i := i) (HVZ.out i) h)
 have HEN := Lib.hid (fun f h => smT_end (p := p) (m := m) (d := d) (F := F) (f := f) h)
 have HD := Lib.hid hd
 clear hpr lm hmon lF hirr hd
 go_enter Try.func69, Try.ntmps69
 go_upto_region 1 with (fail)
 rw [← zero36]
 obtain ⟨W1, hwo⟩ : ∃ v : World, v = (((w.alloc (.cells (zb 64 (m)) 28)).alloc (.cells (zb 512 (fl 64 F)) 46)).alloc (.cells (zb 36 (fl 6 (fun _ _ => 0))) 57)) := ⟨_, rfl⟩
 have B0 : Blk W1 (w.heap.size) 64 28 (m) := by subst hwo; have := (((Blk.new w 64 28 (m)).alloc (.cells (zb 512 (fl 64 F)) 46)).alloc (.cells (zb 36 (fl 6 (fun _ _ => 0))) 57)); simpa using this
 have B1 : Blk W1 (w.heap.size + 1) 512 46 (fl 64 F) := by subst hwo; have := ((Blk.new (w.alloc (.cells (zb 64 (m)) 28)) 512 46 (fl 64 F)).alloc (.cells (zb 36 (fl 6 (fun _ _ => 0))) 57)); simpa using this
 have B2 : Blk W1 (w.heap.size + 1 + 1) 36 57 (fl 6 (fun _ _ => 0)) := by subst hwo; have := (Blk.new ((w.alloc (.cells (zb 64 (m)) 28)).alloc (.cells (zb 512 (fl 64 F)) 46)) 36 57 (fl 6 (fun _ _ => 0))); simpa using this
 have hb : Below w.heap.size w W1 := by subst hwo; exact ((((Below.refl _ _).alloc (Nat.le_refl _) _).alloc (by simp) _).alloc (by simp; omega) _)
 rw [← hwo]
 clear hwo
 have lt_B0 := B0.lt
 have lt_B1 := B1.lt
 have lt_B2 := B2.lt
 go_upto_region 2 with (first | rw [← z64] | rw [← zero36] | (refine wpList_store_blk rfl 57 (.tmp 7) (.tmp 12) rfl _ 36 (fl 6 (fun _ _ => 0)) rfl rfl 57 _ ((Blk.new W1 36 57 (fl 6 (fun _ _ => 0)))) Try.size57 ?_; try simp only [Act.put]))
 have lt_B0 := B0.lt
 have lt_B1 := B1.lt
 have lt_B2 := B2.lt
 have lhb := hb.size
 obtain ⟨W2, hwo, hzQ⟩ : ∃ v : World, v = ((W1.alloc (.cells (zb 36 (fl 6 (fun _ _ => 0))) 57)).setRow (W1.heap.size) (zb 36 (fl 6 (fun _ _ => 0)))) ∧ Blk v (w.heap.size) 64 28 (m) ∧ Blk v (w.heap.size + 1) 512 46 (fl 64 F) ∧ Blk v (w.heap.size + 1 + 1) 36 57 (fl 6 (fun _ _ => 0)) ∧ Blk v (W1.heap.size) 36 57 (fl 6 (fun _ _ => 0)) ∧ Below w.heap.size w v := ⟨_, rfl, ((B0.alloc (.cells (zb 36 (fl 6 (fun _ _ => 0))) 57)).rowOther (by omega)), ((B1.alloc (.cells (zb 36 (fl 6 (fun _ _ => 0))) 57)).rowOther (by omega)), ((B2.alloc (.cells (zb 36 (fl 6 (fun _ _ => 0))) 57)).rowOther (by omega)), ((Blk.new W1 36 57 (fl 6 (fun _ _ => 0))).row (fl 6 (fun _ _ => 0))), (zr (hb.alloc (by have := hb.size; simp; omega) (.cells (zb 36 (fl 6 (fun _ _ => 0))) 57)) (by omega) _)⟩
 rw [← hwo]
 clear hwo B0 B1 B2 hb
 obtain ⟨B0, B1, B2, B3, hb⟩ := hzQ
 obtain ⟨N1, hNN⟩ : ∃ n : Nat, n = W1.heap.size := ⟨_, rfl⟩
 rw [← hNN] at lt_B0 lt_B1 lt_B2 lhb B3 ⊢
 clear hNN
 have zN1_0 := lt_B0
 have zN1_1 := lt_B1
 have zN1_2 := lt_B2
 have zN1 := lhb
 clear lt_B0 lt_B1 lt_B2 lhb
 try simp only [Act.put, pA, pB, pC]
 go_wp2_with fail
 go_loopw [8] (fun c wr => ∃ (i : Nat) (f : Nat → Nat), c = .int .i64 (i : Int) ∧ i ≤ d ∧ Hid (∀ k, k < 36 → f k = smT p m d F i 0 (k / 6) (k % 6)) ∧ Below w.heap.size w wr ∧ Blk wr (w.heap.size) 64 28 m ∧ Blk wr (w.heap.size + 1) 512 46 (fl 64 F) ∧ Blk wr (w.heap.size + 1 + 1) 36 57 (fl 6 (fun _ _ => 0)) ∧ Blk wr (N1) 36 57 f) (fun c _ => d - (intOf c).toNat)
 case atStart => exact ⟨0, _, rfl, by omega, Lib.hid (fun k hk => by rw [smT_z]; unfold fl; rfl), hb, B0, B1, B2, B3⟩
 case round =>
  clear hb B0 B1 B2 B3
  obtain ⟨i, f, rfl, hin, hf, hb, B0, B1, B2, B3⟩ := hrel
  by_cases hi : i < d
  · have hiI : (i : Int) < (d : Int) := by omega
    have hi64 : (i : Int) < 64 := by omega
    have hi64n : i < 64 := by omega
    have HVI := Lib.hid (fun W => HVA.out i hi W)
    go_upto_region 5 with (first | (refine zla (.tmp 4) B0 Try.underlying28 Try.size28 ?_) | (go_at_call 106; refine (l01Deg_any m _).mono ?_; rintro e W3 ⟨rfl, hW3⟩; replace B0 := B0.zw hW3; replace B1 := B1.zw hW3; replace B2 := B2.zw hW3; replace B3 := B3.zw hW3; replace hb := (hb).trans (hW3.mono (hb).size); rw [HD.out]))
    have lt_B0 := B0.lt
    have lt_B1 := B1.lt
    have lt_B2 := B2.lt
    have lt_B3 := B3.lt
    go_upto_region 6 with (first | rw [← z64] | (refine wpList_store_blk rfl 28 (.tmp 9) (.tmp 19) rfl _ 64 (fun _ => 0) rfl rfl 28 _ ((Blk.new W3 64 28 (fun _ => 0))) Try.size28 ?_; try simp only [Act.put]))
    have lt_B0 := B0.lt
    have lt_B1 := B1.lt
    have lt_B2 := B2.lt
    have lt_B3 := B3.lt
    have lhb := hb.size
    obtain ⟨W4, hwo, hzQ⟩ : ∃ v : World, v = ((W3.alloc (.cells (zb 64 (fun _ => 0)) 28)).setRow (W3.heap.size) (zb 64 (fun _ => 0))) ∧ Blk v (w.heap.size) 64 28 (m) ∧ Blk v (w.heap.size + 1) 512 46 (fl 64 F) ∧ Blk v (w.heap.size + 1 + 1) 36 57 (fl 6 (fun _ _ => 0)) ∧ Blk v (N1) 36 57 (f) ∧ Blk v (W3.heap.size) 64 28 (fun _ => 0) ∧ Below w.heap.size w v := ⟨_, rfl, ((B0.alloc (.cells (zb 64 (fun _ => 0)) 28)).rowOther (by omega)), ((B1.alloc (.cells (zb 64 (fun _ => 0)) 28)).rowOther (by omega)), ((B2.alloc (.cells (zb 64 (fun _ => 0)) 28)).rowOther (by omega)), ((B3.alloc (.cells (zb 64 (fun _ => 0)) 28)).rowOther (by omega)), ((Blk.new W3 64 28 (fun _ => 0)).row (fun _ => 0)), (zr (hb.alloc (by have := hb.size; simp; omega) (.cells (zb 64 (fun _ => 0)) 28)) (by omega) _)⟩
    rw [← hwo]
    clear hwo B0 B1 B2 B3 hb
    obtain ⟨B0, B1, B2, B3, B4, hb⟩ := hzQ
    obtain ⟨N2, hNN⟩ : ∃ n : Nat, n = W3.heap.size := ⟨_, rfl⟩
    rw [← hNN] at lt_B0 lt_B1 lt_B2 lt_B3 lhb B4 ⊢
    clear hNN
    have zN2_0 := lt_B0
    have zN2_1 := lt_B1
    have zN2_2 := lt_B2
    have zN2_3 := lt_B3
    have zN2 := lhb
    clear lt_B0 lt_B1 lt_B2 lt_B3 lhb
    try simp only [Act.put, pA, pB, pC]
    have cc := B4.cell (i := i) hi64n
    have zz := B4.frozen i
    go_upto_region 7 with (fail)
    clear cc zz
    have lt_B0 := B0.lt
    have lt_B1 := B1.lt
    have lt_B2 := B2.lt
    have lt_B3 := B3.lt
    have lt_B4 := B4.lt
    have qB0 : Blk (W4.setCell ⟨N2, i, none⟩ (.int .u8 (1))) (w.heap.size) 64 28 (m) := (B0.setOther (by show (w.heap.size) ≠ (N2); omega))
    have qB1 : Blk (W4.setCell ⟨N2, i, none⟩ (.int .u8 (1))) (w.heap.size + 1) 512 46 (fl 64 F) := (B1.setOther (by show (w.heap.size + 1) ≠ (N2); omega))
    have qB2 : Blk (W4.setCell ⟨N2, i, none⟩ (.int .u8 (1))) (w.heap.size + 1 + 1) 36 57 (fl 6 (fun _ _ => 0)) := (B2.setOther (by show (w.heap.size + 1 + 1) ≠ (N2); omega))
    have qB3 : Blk (W4.setCell ⟨N2, i, none⟩ (.int .u8 (1))) (N1) 36 57 (f) := (B3.setOther (by show (N1) ≠ (N2); omega))
    have qB4 : Blk (W4.setCell ⟨N2, i, none⟩ (.int .u8 (1))) (N2) 64 28 (uv i) := ((B4.set (v := 1) (rfl)).congr (fun k _ => rfl))
    have qhb : Below w.heap.size w (W4.setCell ⟨N2, i, none⟩ (.int .u8 (1))) := (hb.setCell (by show w.heap.size ≤ (N2); omega) _)
    obtain ⟨W5, hwo⟩ : ∃ v : World, v = (W4.setCell ⟨N2, i, none⟩ (.int .u8 (1))) := ⟨_, rfl⟩
    rw [← hwo] at qB0 qB1 qB2 qB3 qB4 qhb ⊢
    clear hwo
    clear B0 B1 B2 B3 B4 hb
    have B0 := qB0
    have B1 := qB1
    have B2 := qB2
    have B3 := qB3
    have B4 := qB4
    have hb := qhb
    clear qB0 qB1 qB2 qB3 qB4 qhb
    try simp only [Act.put, pA, pB, pC]
    have lt_B0 := B0.lt
    have lt_B1 := B1.lt
    have lt_B2 := B2.lt
    have lt_B3 := B3.lt
    have lt_B4 := B4.lt
    go_upto_region 8 with (first | rw [← z64] | (refine zla (.tmp 4) B0 Try.underlying28 Try.size28 ?_) | (refine zla (.tmp 5) B1 Try.underlying46 Try.size46 ?_) | (refine zla (.tmp 9) B4 Try.underlying28 Try.size28 ?_) | (go_at_call 105; refine (HVI.out _).mono ?_; rintro e W6 ⟨rfl, hW6⟩; replace B0 := B0.zw hW6; replace B1 := B1.zw hW6; replace B2 := B2.zw hW6; replace B3 := B3.zw hW6; replace B4 := B4.zw hW6; replace hb := (hb).trans (hW6.mono (hb).size)) | (refine wpList_store_blk rfl 28 (.tmp 10) (.tmp 26) rfl _ 64 (vlR p m d F (uv i) 8) rfl rfl 28 _ ((Blk.new W6 64 28 (fun _ => 0))) Try.size28 ?_; try simp only [Act.put]))
    have lt_B0 := B0.lt
    have lt_B1 := B1.lt
    have lt_B2 := B2.lt
    have lt_B3 := B3.lt
    have lt_B4 := B4.lt
    have lhb := hb.size
    obtain ⟨W7, hwo, hzQ⟩ : ∃ v : World, v = ((W6.alloc (.cells (zb 64 (fun _ => 0)) 28)).setRow (W6.heap.size) (zb 64 (vlR p m d F (uv i) 8))) ∧ Blk v (w.heap.size) 64 28 (m) ∧ Blk v (w.heap.size + 1) 512 46 (fl 64 F) ∧ Blk v (w.heap.size + 1 + 1) 36 57 (fl 6 (fun _ _ => 0)) ∧ Blk v (N1) 36 57 (f) ∧ Blk v (N2) 64 28 (uv i) ∧ Blk v (W6.heap.size) 64 28 (vlR p m d F (uv i) 8) ∧ Below w.heap.size w v := ⟨_, rfl, ((B0.alloc (.cells (zb 64 (fun _ => 0)) 28)).rowOther (by omega)), ((B1.alloc (.cells (zb 64 (fun _ => 0)) 28)).rowOther (by omega)), ((B2.alloc (.cells (zb 64 (fun _ => 0)) 28)).rowOther (by omega)), ((B3.alloc (.cells (zb 64 (fun _ => 0)) 28)).rowOther (by omega)), ((B4.alloc (.cells (zb 64 (fun _ => 0)) 28)).rowOther (by omega)), ((Blk.new W6 64 28 (fun _ => 0)).row (vlR p m d F (uv i) 8)), (zr (hb.alloc (by have := hb.size; simp; omega) (.cells (zb 64 (fun _ => 0)) 28)) (by omega) _)⟩
    rw [← hwo]
    clear hwo B0 B1 B2 B3 B4 hb
    obtain ⟨B0, B1, B2, B3, B4, B5, hb⟩ := hzQ
    obtain ⟨N3, hNN⟩ : ∃ n : Nat, n = W6.heap.size := ⟨_, rfl⟩
    rw [← hNN] at lt_B0 lt_B1 lt_B2 lt_B3 lt_B4 lhb B5 ⊢
    clear hNN
    have zN3_0 := lt_B0
    have zN3_1 := lt_B1
    have zN3_2 := lt_B2
    have zN3_3 := lt_B3
    have zN3_4 := lt_B4
    have zN3 := lhb
    clear lt_B0 lt_B1 lt_B2 lt_B3 lt_B4 lhb
    try simp only [Act.put, pA, pB, pC]
    go_wp2_with fail
    go_loopw [11] (fun c wr => ∃ (j : Nat) (g : Nat → Nat), c = .int .i64 (j : Int) ∧ j ≤ d ∧ Hid (∀ k, k < 36 → g k = smT p m d F i j (k / 6) (k % 6)) ∧ Below w.heap.size w wr ∧ Blk wr (w.heap.size) 64 28 m ∧ Blk wr (w.heap.size + 1) 512 46 (fl 64 F) ∧ Blk wr (w.heap.size + 1 + 1) 36 57 (fl 6 (fun _ _ => 0)) ∧ Blk wr (N1) 36 57 g ∧ Blk wr (N3) 64 28 (vlR p m d F (uv i) 8)) (fun c _ => d - (intOf c).toNat)
    case atStart => exact ⟨0, _, rfl, by omega, hf, hb, B0, B1, B2, B3, B5⟩
    case round =>
     clear hb B0 B1 B2 B3 B5 hf
     obtain ⟨j, g, rfl, hjd, hg, hb, B0, B1, B2, B3, B5⟩ := hrel
     by_cases hj : j < d
     · have hjI : (j : Int) < (d : Int) := by omega
       have hj6 : (j : Int) < 6 := by omega
       have hi6 : (i : Int) < 6 := by omega
       have hj64 : (j : Int) < 64 := by omega
       obtain ⟨Z, hZ⟩ : ∃ Z, Z = vlR p m d F (uv i) 8 j := ⟨_, rfl⟩
       have HZ := Lib.hid hZ
       have HN := Lib.hid (show ∀ k, k < 36 → upd g (i * 6 + j) Z k = smT p m d F i (j + 1) (k / 6) (k % 6) by rw [hZ]; exact HIN.out i j g (by omega) (by omega) hg.out)
       clear hZ
       go_upto_region 11 with (first | (refine zla (.tmp 4) B0 Try.underlying28 Try.size28 ?_) | (go_at_call 106; refine (l01Deg_any m _).mono ?_; rintro e W8 ⟨rfl, hW8⟩; replace B0 := B0.zw hW8; replace B1 := B1.zw hW8; replace B2 := B2.zw hW8; replace B3 := B3.zw hW8; replace B5 := B5.zw hW8; replace hb := (hb).trans (hW8.mono (hb).size); rw [HD.out]))
       have lt_B0 : (w.heap.size) < W8.heap.size := B0.lt
       have lt_B1 : (w.heap.size + 1) < W8.heap.size := B1.lt
       have lt_B2 : (w.heap.size + 1 + 1) < W8.heap.size := B2.lt
       have lt_B3 : (N1) < W8.heap.size := B3.lt
       have lt_B5 : (N3) < W8.heap.size := B5.lt
       have hbase : w.heap.size ≤ W8.heap.size := hb.size
       refine zq Try.mixed (by kernel_rfl) (by kernel_rfl) (fun v => by (simp only [frL, Act.put, pA, pB, pC, Nat.reduceAdd, Nat.zero_add]; exact rfl))
        (fun L v W9 => Below w.heap.size w W9 ∧ W8.heap.size ≤ W9.heap.size ∧ Blk W9 (w.heap.size) 64 28 (m) ∧ Blk W9 (w.heap.size + 1) 512 46 (fl 64 F) ∧ Blk W9 (w.heap.size + 1 + 1) 36 57 (fl 6 (fun _ _ => 0)) ∧ (∃ g, Blk W9 (N1) 36 57 (g)) ∧ (L 7 = false → Blk W9 (N1) 36 57 (g)) ∧ (L 7 = true → Blk W9 (N1) 36 57 (upd g (i * 6 + j) Z)) ∧ Blk W9 (N3) 64 28 (vlR p m d F (uv i) 8) ∧ VF L v [some (.int .i64 (i : Int)), some (.int .i64 (j : Int)), some (.int .i64 (j : Int)), some (.pointer (some ⟨N3, j, none⟩)), some (.int .u8 (Z : Int)), some (.pointer (some ⟨N1, i * 6, none⟩)), some (.pointer (some ⟨N1, i * 6 + j, none⟩)), none]) ?_ ?_ ?_
       · intro v hv0
         exact ⟨hb.drew, Nat.le_refl _, B0.drew, B1.drew, B2.drew, ⟨_, B3.drew⟩, (fun _ => B3.drew), (fun h => by cases h), B5.drew, VF.start⟩
       · refine (.cons rfl ?_ (.cons rfl ?_ (.cons rfl ?_ (.cons rfl ?_ (.cons rfl ?_ (.cons rfl ?_ (.cons rfl ?_ (.cons rfl ?_ (.nil _)))))))))
         all_goals intro L v W9 hd hn ⟨hB, hz, s0, s1, s2, x3, q3, n3, s4, V⟩ K hK
         · go_wp2_with fail
           exact hK _ (.int .i64 (i : Int)) _ (by simp only [Act.put, pA, pB, pC ]) ⟨hB, hz, s0, s1, s2, x3, q3, n3, s4, V.step 0 rfl⟩
         · go_wp2_with fail
           exact hK _ (.int .i64 (j : Int)) _ (by simp only [Act.put, pA, pB, pC ]) ⟨hB, hz, s0, s1, s2, x3, q3, n3, s4, V.step 1 rfl⟩
         · go_wp2_with fail
           exact hK _ (.int .i64 (j : Int)) _ (by simp only [Act.put, pA, pB, pC ]) ⟨hB, hz, s0, s1, s2, x3, q3, n3, s4, V.step 2 rfl⟩
         · have e2 := V.at (zdq hd 2 rfl) rfl
           go_wp2_with fail
           exact hK _ (.pointer (some ⟨N3, j, none⟩)) _ (by simp only [Act.put, pA, pB, pC, e2]) ⟨hB, hz, s0, s1, s2, x3, q3, n3, s4, V.step 3 rfl⟩
         · have e3 := V.at (zdq hd 3 rfl) rfl
           have cc := s4.cell (i := j) (by omega)
           rw [← HZ.out] at cc
           go_wp2_with fail
           exact hK _ (.int .u8 (Z : Int)) _ (by simp only [Act.put, pA, pB, pC, e3]) ⟨hB, hz, s0, s1, s2, x3, q3, n3, s4, V.step 4 rfl⟩
         · have e0 := V.at (zdq hd 0 rfl) rfl
           go_wp2_with fail
           exact hK _ (.pointer (some ⟨N1, i * 6, none⟩)) _ (by simp only [Act.put, pA, pB, pC, e0]) ⟨hB, hz, s0, s1, s2, x3, q3, n3, s4, V.step 5 rfl⟩
         · have e5 := V.at (zdq hd 5 rfl) rfl
           have e1 := V.at (zdq hd 1 rfl) rfl
           go_wp2_with fail
           exact hK _ (.pointer (some ⟨N1, i * 6 + j, none⟩)) _ (by simp only [Act.put, pA, pB, pC, e5, e1]) ⟨hB, hz, s0, s1, s2, x3, q3, n3, s4, V.step 6 rfl⟩
         · have e6 := V.at (zdq hd 6 rfl) rfl
           have e4 := V.at (zdq hd 4 rfl) rfl
           obtain ⟨gz, hk⟩ := x3
           have zz := hk.frozen (i * 6 + j)
           have cc := hk.cell (i := i * 6 + j) (by omega)
           go_wp2_with fail
           exact hK _ undef _ (by simp only [Act.put, pA, pB, pC, e6, e4]) ⟨hB.setCell (by simp <;> omega) _, (by simpa using hz), (s0).setOther (by simp <;> omega), (s1).setOther (by simp <;> omega), (s2).setOther (by simp <;> omega), ⟨_, hk.set (v := Z) rfl⟩, (fun h => absurd h (by simp [setL])), (fun _ => by cases hL : L 7 with | false => exact ((q3 hL).set (v := Z) rfl) | true => exact (((n3 hL).set (v := Z) rfl).congr (fun k _ => by unfold upd; split <;> rfl))), (s4).setOther (by simp <;> omega), V.skip 7 rfl⟩
       · intro L v W9 hL ⟨hB, hz, s0, s1, s2, x3, q3, n3, s4, V⟩
         have r3 := n3 (hL 7 (by decide))
         have e0 := V.at (hL 0 (by decide)) rfl
         have e1 := V.at (hL 1 (by decide)) rfl
         have e2 := V.at (hL 2 (by decide)) rfl
         have e3 := V.at (hL 3 (by decide)) rfl
         have e4 := V.at (hL 4 (by decide)) rfl
         have e5 := V.at (hL 5 (by decide)) rfl
         have e6 := V.at (hL 6 (by decide)) rfl
         clear hL x3 q3 n3 V
         simp only [Exit.then, e0, e1, e2, e3, e4, e5, e6]
         clear e0 e1 e2 e3 e4 e5 e6
         replace B0 := s0
         clear s0
         replace B1 := s1
         clear s1
         replace B2 := s2
         clear s2
         replace B3 := r3
         clear r3
         replace B5 := s4
         clear s4
         replace hb := hB
         clear hB
         clear hbase hz lt_B0 lt_B1 lt_B2 lt_B3 lt_B5
         go_wp2_with fail
         go_roundw
         case rel => exact ⟨j + 1, _, by go_num, by omega, HN, hb, B0, B1, B2, B3, B5⟩
         case measure => simp [intOf] <;> omega
     · have hjI : ¬ (j : Int) < (d : Int) := by omega
       obtain rfl : j = d := by omega
       have HX := Lib.hid (HNX.out i g hg.out)
       go_upto_region 4 with (first | (refine zla (.tmp 4) B0 Try.underlying28 Try.size28 ?_) | (go_at_call 106; refine (l01Deg_any m _).mono ?_; rintro e W8 ⟨rfl, hW8⟩; replace B0 := B0.zw hW8; replace B1 := B1.zw hW8; replace B2 := B2.zw hW8; replace B3 := B3.zw hW8; replace B5 := B5.zw hW8; replace hb := (hb).trans (hW8.mono (hb).size); rw [HD.out]))
       go_wp2_with fail
       go_roundw
       case rel => exact ⟨i + 1, g, by go_num, by omega, HX, hb, B0, B1, B2, B3⟩
       case measure => simp [intOf] <;> omega
  · have hiI : ¬ (i : Int) < (d : Int) := by omega
    obtain rfl : i = d := by omega
    have HE := Lib.hid (HEN.out f hf.out)
    go_upto_region 12 with (first | (refine zla (.tmp 4) B0 Try.underlying28 Try.size28 ?_) | (go_at_call 106; refine (l01Deg_any m _).mono ?_; rintro e W3 ⟨rfl, hW3⟩; replace B0 := B0.zw hW3; replace B1 := B1.zw hW3; replace B2 := B2.zw hW3; replace B3 := B3.zw hW3; replace hb := (hb).trans (hW3.mono (hb).size); rw [HD.out]))
    have lt_B0 := B0.lt
    have lt_B1 := B1.lt
    have lt_B2 := B2.lt
    have lt_B3 := B3.lt
    go_wp2_with (first | rw [← z64] | rw [← zero36] | (refine zla (.tmp 7) B3 Try.underlying57 Try.size57 ?_) | (refine zsr (.tmp 6) (.tmp 40) (f) B2 Try.size57 ?_; try simp only [Act.put]))
    obtain ⟨W4, hwo, hzQ⟩ : ∃ v : World, v = (W3.setRow (w.heap.size + 1 + 1) (zb 36 (f))) ∧ Blk v (w.heap.size) 64 28 (m) ∧ Blk v (w.heap.size + 1) 512 46 (fl 64 F) ∧ Blk v (w.heap.size + 1 + 1) 36 57 (f) ∧ Blk v (N1) 36 57 (f) ∧ Below w.heap.size w v := ⟨_, rfl, (B0.rowOther (by omega)), (B1.rowOther (by omega)), (B2.row (f)), (B3.rowOther (by omega)), (zr hb (by omega) _)⟩
    rw [← hwo]
    clear hwo B0 B1 B2 B3 hb
    obtain ⟨B0, B1, B2, B3, hb⟩ := hzQ
    try simp only [Act.put, pA, pB, pC]
    refine bodyPost_ret (results_any rfl _ _ _ 36 _ _ rfl B2 _ Try.underlying57 rfl Try.size57) rfl ⟨by rw [HE.out], hb⟩
set_option maxRecDepth 100000 in
set_option maxHeartbeats 1600000 in
theorem spec_SquareOfSkew_any (p : Int) (m : Nat → Nat) (F : Nat → Nat → Nat) (hm : byte m) (hF : ∀ i, byte (F i)) (w : World) :
 Calls Try.prog 39 #[.int .i64 p, .agg (zb 64 m), .agg (zb 512 (fl 64 F))] w fun e w' => e = .returned (.tuple #[.agg (zb 36 (fl 6 (sqV p m F).1)), .int .i64 (sqV p m F).2]) ∧ Below w.heap.size w w' := by
 go_enter Try.func39, Try.ntmps39
 go_upto_region 1 with (fail)
 rw [← zero36]
 obtain ⟨W1, hwo⟩ : ∃ v : World, v = (((w.alloc (.cells (zb 64 (m)) 28)).alloc (.cells (zb 512 (fl 64 F)) 46)).alloc (.cells (zb 36 (fl 6 (fun _ _ => 0))) 57)) := ⟨_, rfl⟩
 have B0 : Blk W1 (w.heap.size) 64 28 (m) := by subst hwo; have := (((Blk.new w 64 28 (m)).alloc (.cells (zb 512 (fl 64 F)) 46)).alloc (.cells (zb 36 (fl 6 (fun _ _ => 0))) 57)); simpa using this
 have B1 : Blk W1 (w.heap.size + 1) 512 46 (fl 64 F) := by subst hwo; have := ((Blk.new (w.alloc (.cells (zb 64 (m)) 28)) 512 46 (fl 64 F)).alloc (.cells (zb 36 (fl 6 (fun _ _ => 0))) 57)); simpa using this
 have B2 : Blk W1 (w.heap.size + 1 + 1) 36 57 (fl 6 (fun _ _ => 0)) := by subst hwo; have := (Blk.new ((w.alloc (.cells (zb 64 (m)) 28)).alloc (.cells (zb 512 (fl 64 F)) 46)) 36 57 (fl 6 (fun _ _ => 0))); simpa using this
 have hb : Below w.heap.size w W1 := by subst hwo; exact ((((Below.refl _ _).alloc (Nat.le_refl _) _).alloc (by simp) _).alloc (by simp; omega) _)
 rw [← hwo]
 clear hwo
 rcases ckS_two p m [F] with hc | hc
 · obtain ⟨n, rfl, hpr, lm, ⟨d, hmon, hd1, hd4⟩, hl⟩ := ckS_fld hc
   have hd := hmon.1
   have lF : ∀ i, i < 8 → ∀ j, j < 64 → F i j < n := fun i hi => (hl F (by simp) i hi).1
   have hirr := ckS_irr hc hmon
   have HV := Lib.hid (sqV_0 hc hd)
   have HOS := Lib.hid (fun W => l05OfSkew_any n d m F W hpr lm hmon hd1 hd4 lF hirr)
   go_upto_region 2 with (first | (refine zla (.tmp 4) B0 Try.underlying28 Try.size28 ?_) | (refine zla (.tmp 5) B1 Try.underlying46 Try.size46 ?_) | (refine zbk rfl 129 _ [F] rfl 46 Try.underlying129 Try.elem46 (by simp) (by simp) rfl ?_; intro wa hps hba) | (go_at_call 68; refine (l03Code_any _ m hm [F] (by simp [hF]) (by simp) _ _ hps).mono ?_; rintro e W2 ⟨rfl, hbb⟩; rw [hc]))
   have hBB : Below W1.heap.size W1 W2 := hba.trans (hbb.mono hba.size)
   replace B0 := B0.zw hBB
   replace B1 := B1.zw hBB
   replace B2 := B2.zw hBB
   replace hb := hb.trans (hBB.mono hb.size)
   clear hBB hba hbb hps
   clear hc hl lF hmon hirr
   go_upto_region 4 with (fail)
   have lt_B0 := B0.lt
   have lt_B1 := B1.lt
   have lt_B2 := B2.lt
   go_wp2_with (first | rw [← z64] | rw [← zero36] | (refine zla (.tmp 4) B0 Try.underlying28 Try.size28 ?_) | (refine zla (.tmp 5) B1 Try.underlying46 Try.size46 ?_) | (go_at_call 69; refine (HOS.out _).mono ?_; rintro e W3 ⟨rfl, hW3⟩; replace B0 := B0.zw hW3; replace B1 := B1.zw hW3; replace B2 := B2.zw hW3; replace hb := (hb).trans (hW3.mono (hb).size)) | (refine zsr (.tmp 6) (.tmp 21) (fl 6 (smS n m d F)) B2 Try.size57 ?_; try simp only [Act.put]; go_wp2_with fail))
   obtain ⟨W4, hwo, hzQ⟩ : ∃ v : World, v = (W3.setRow (w.heap.size + 1 + 1) (zb 36 (fl 6 (smS n m d F)))) ∧ Blk v (w.heap.size) 64 28 (m) ∧ Blk v (w.heap.size + 1) 512 46 (fl 64 F) ∧ Blk v (w.heap.size + 1 + 1) 36 57 (fl 6 (smS n m d F)) ∧ Below w.heap.size w v := ⟨_, rfl, (B0.rowOther (by omega)), (B1.rowOther (by omega)), (B2.row (fl 6 (smS n m d F))), (zr hb (by omega) _)⟩
   rw [← hwo]
   clear hwo B0 B1 B2 hb
   obtain ⟨B0, B1, B2, hb⟩ := hzQ
   try simp only [Act.put, pA, pB, pC]
   refine bodyPost_ret (zrt rfl _ _ _ 36 _ _ rfl B2 _ Try.underlying57 rfl Try.size57) rfl ⟨by first | (rw [HV.out]; rfl) | rw [HV.out], hb⟩
 · have HV := Lib.hid (sqV_1 hc)
   go_upto_region 3 with (first | (refine zla (.tmp 4) B0 Try.underlying28 Try.size28 ?_) | (refine zla (.tmp 5) B1 Try.underlying46 Try.size46 ?_) | (refine zbk rfl 129 _ [F] rfl 46 Try.underlying129 Try.elem46 (by simp) (by simp) rfl ?_; intro wa hps hba) | (go_at_call 68; refine (l03Code_any _ m hm [F] (by simp [hF]) (by simp) _ _ hps).mono ?_; rintro e W2 ⟨rfl, hbb⟩; rw [hc]))
   have hBB : Below W1.heap.size W1 W2 := hba.trans (hbb.mono hba.size)
   replace B0 := B0.zw hBB
   replace B1 := B1.zw hBB
   replace B2 := B2.zw hBB
   replace hb := hb.trans (hBB.mono hb.size)
   clear hBB hba hbb hps
   clear hc
   have lt_B0 := B0.lt
   have lt_B1 := B1.lt
   have lt_B2 := B2.lt
   go_wp2_with (first | rw [← z64] | rw [← zero36] | (refine zsr (.tmp 6) (.tmp 16) (fl 6 (fun _ _ => 0)) B2 Try.size57 ?_; try simp only [Act.put]; go_wp2_with fail))
   obtain ⟨W3, hwo, hzQ⟩ : ∃ v : World, v = (W2.setRow (w.heap.size + 1 + 1) (zb 36 (fl 6 (fun _ _ => 0)))) ∧ Blk v (w.heap.size) 64 28 (m) ∧ Blk v (w.heap.size + 1) 512 46 (fl 64 F) ∧ Blk v (w.heap.size + 1 + 1) 36 57 (fl 6 (fun _ _ => 0)) ∧ Below w.heap.size w v := ⟨_, rfl, (B0.rowOther (by omega)), (B1.rowOther (by omega)), (B2.row (fl 6 (fun _ _ => 0))), (zr hb (by omega) _)⟩
   rw [← hwo]
   clear hwo B0 B1 B2 hb
   obtain ⟨B0, B1, B2, hb⟩ := hzQ
   try simp only [Act.put, pA, pB, pC]
   refine bodyPost_ret (zrt rfl _ _ _ 36 _ _ rfl B2 _ Try.underlying57 rfl Try.size57) rfl ⟨by first | (rw [HV.out]; rfl) | rw [HV.out], hb⟩
end Go.Proofs.Ytelgefgphhebnaa
end
