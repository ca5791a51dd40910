/-
  What the rows of this claim rest on: arrays of bytes, walks of the functions, plain mathematics.
-/
import Derived.Test.YtoncepgcfifgbabZl6
import Derived.Handy
import Derived.Laws.MakeOwn
set_option maxRecDepth 100000
set_option maxHeartbeats 9000000
set_option linter.unusedVariables false
set_option linter.unusedSimpArgs false
namespace Go.Proofs.Ytoncepgcfifgbab
open Go Go.RowKit
attribute [local irreducible] deg addK okA flV
noncomputable def rsB (p : Int) (m x : Nat → Nat) : Bool := okA p x && decide (deg x < deg m)
theorem rsB_1 {p : Int} {m x : Nat → Nat} (h : okA p x = false) : rsB p m x = false := by unfold rsB; rw [h]; rfl
theorem rsB_2 {p : Int} {m x : Nat → Nat} (h : okA p x = true) (h2 : deg x < deg m) : rsB p m x = true := by unfold rsB; rw [h]; simpa using h2
theorem rsB_3 {p : Int} {m x : Nat → Nat} (h : okA p x = true) (h2 : ¬ deg x < deg m) : rsB p m x = false := by unfold rsB; rw [h]; simpa using h2
noncomputable def skB (p : Int) (m : Nat → Nat) (F : Nat → Nat → Nat) : Bool := (List.range 8).all fun i => rsB p m (F i)
theorem skB_yes {p : Int} {m : Nat → Nat} {F : Nat → Nat → Nat} (h : ∀ i, i < 8 → rsB p m (F i) = true) : skB p m F = true := by
 unfold skB; rw [List.all_eq_true]; intro i hi; exact h i (by simpa using hi)
theorem skB_no {p : Int} {m : Nat → Nat} {F : Nat → Nat → Nat} {i : Nat} (hi : i < 8) (h : rsB p m (F i) = false) : skB p m F = false := by
 cases h2 : skB p m F with
 | false => rfl
 | true =>
  unfold skB at h2; rw [List.all_eq_true] at h2
  have := h2 i (by simpa using hi)
  rw [h] at this; cases this
theorem skB_at {p : Int} {m : Nat → Nat} {F : Nat → Nat → Nat} (h : skB p m F = true) {i : Nat} (hi : i < 8) : rsB p m (F i) = true := by
 unfold skB at h; rw [List.all_eq_true] at h; exact h i (by simpa using hi)
noncomputable def ckS (p : Int) (m : Nat → Nat) (Fs : List (Nat → Nat → Nat)) : Int := if flV p m = true ∧ (∀ F, F ∈ Fs → skB p m F = true) then 0 else 1
theorem ckS_f {p : Int} {m : Nat → Nat} {Fs : List (Nat → Nat → Nat)} (h : flV p m = false) : ckS p m Fs = 1 := if_neg (fun a => by rw [h] at a; exact absurd a.1 (by simp))
theorem ckS_no {p : Int} {m : Nat → Nat} {Fs : List (Nat → Nat → Nat)} {F : Nat → Nat → Nat} {j : Nat} (hj : Fs[j]? = some F) (h : skB p m F = false) : ckS p m Fs = 1 := if_neg (fun a => by
 have := a.2 F (List.mem_of_getElem? hj); rw [h] at this; cases this)
theorem ckS_yes {p : Int} {m : Nat → Nat} {Fs : List (Nat → Nat → Nat)} (h : flV p m = true) (h2 : ∀ (i : Nat) (F : Nat → Nat → Nat), Fs[i]? = some F → skB p m F = true) : ckS p m Fs = 0 := if_pos ⟨h, fun F hF => by
 obtain ⟨i, hi, e⟩ := List.getElem_of_mem hF
 exact h2 i F (by rw [← e]; exact List.getElem?_eq_getElem hi)⟩
theorem ckS_two (p : Int) (m : Nat → Nat) (Fs : List (Nat → Nat → Nat)) : ckS p m Fs = 0 ∨ ckS p m Fs = 1 := by unfold ckS; split <;> simp
theorem ckS_zero {p : Int} {m : Nat → Nat} {Fs : List (Nat → Nat → Nat)} (h : ckS p m Fs = 0) : flV p m = true ∧ ∀ F, F ∈ Fs → skB p m F = true := by
 unfold ckS at h
 by_cases a : flV p m = true ∧ (∀ F, F ∈ Fs → skB p m F = true)
 · exact a
 rw [if_neg a] at h; omega
attribute [irreducible] rsB skB ckS
theorem l03Residue_any (p : Int) (m x : Nat → Nat) (hm : byte m) (hx : byte x) (w : World) :
 Calls Try.prog 39 #[.int .i64 p, .agg (zb 64 m), .agg (zb 64 x)] w fun e w' => e = .returned (.bool (rsB p m x)) ∧ Below w.heap.size w w' := by
 go_enter Try.func39, Try.ntmps39
 go_upto_region 1 with (fail)
 obtain ⟨W1, hwo⟩ : ∃ v : World, v = ((w.alloc (.cells (zb 64 (m)) 24)).alloc (.cells (zb 64 (x)) 24)) := ⟨_, rfl⟩
 have B0 : Blk W1 (w.heap.size) 64 24 (m) := by subst hwo; have := ((Blk.new w 64 24 (m)).alloc (.cells (zb 64 (x)) 24)); simpa using this
 have B1 : Blk W1 (w.heap.size + 1) 64 24 (x) := by subst hwo; have := (Blk.new (w.alloc (.cells (zb 64 (m)) 24)) 64 24 (x)); simpa using this
 have hb : Below w.heap.size w W1 := by subst hwo; exact (((Below.refl _ _).alloc (Nat.le_refl _) _).alloc (by simp) _)
 rw [← hwo]
 clear hwo
 cases ho : okA p x with
 | false =>
  have HV := Lib.hid (rsB_1 (m := m) ho)
  have HOK := Lib.hid (fun W => l01Is_any p x hx W)
  rw [ho] at HOK
  have HDG := Lib.hid (fun f W => l01Deg_any f W)
  clear ho
  have lt_B0 : (w.heap.size) < W1.heap.size := B0.lt
  have lt_B1 : (w.heap.size + 1) < W1.heap.size := B1.lt
  have hbase : w.heap.size ≤ W1.heap.size := hb.size
  refine wp_region_stepsG Try.mixed (by kernel_rfl) (by kernel_rfl) (fun v => by (simp only [frL, Act.put, pA, pB, pC, Nat.reduceAdd, Nat.zero_add]; exact rfl))
   (fun L v W2 => Below w.heap.size w W2 ∧ W1.heap.size ≤ W2.heap.size ∧ Blk W2 (w.heap.size) 64 24 (m) ∧ Blk W2 (w.heap.size + 1) 64 24 (x) ∧ VF L v [some (.int .i64 p), some (.agg (zb 64 (x))), some (.bool false), some (.bool false), some undef, some undef, some undef, some undef, some undef, some (.bool false), some (.bool false)]) ?_ ?_ ?_
  · intro v hv0
    exact ⟨hb.drew, Nat.le_refl _, B0.drew, B1.drew, VF.start⟩
  · refine (.cons ?_ (.cons ?_ (.cons ?_ (.cons ?_ (.cons ?_ (.cons ?_ (.cons ?_ (.cons ?_ (.cons ?_ (.cons ?_ (.cons ?_ (.nil _))))))))))))
    · intro L v W2 hd hn ⟨hB, hz, s0, s1, V⟩ K hK
      rw [if_pos (by simp [Region.wanted])]
      go_wp2_with fail
      exact hK _ (.int .i64 p) _ (by simp only [Act.put, pA, pB, pC ]) ⟨hB, hz, s0, s1, V.step 0 rfl⟩
    · intro L v W2 hd hn ⟨hB, hz, s0, s1, V⟩ K hK
      rw [if_pos (by simp [Region.wanted])]
      refine zlc s1 Try.underlying24 Try.size24 ?_
      exact hK _ _ _ rfl ⟨hB, hz, s0, s1, V.step 1 rfl⟩
    · intro L v W2 hd hn ⟨hB, hz, s0, s1, V⟩ K hK
      have e0 := V.at (zdq hd 0 rfl) rfl
      have e1 := V.at (zdq hd 1 rfl) rfl
      rw [if_pos (by simp [Region.wanted])]
      go_wp2_with (go_at_call 34; refine (HOK.out _).mono ?_; rintro e wy ⟨rfl, hy⟩)
      exact hK _ (.bool false) _ (by simp only [Act.put, pA, pB, pC, e0, e1]) ⟨hB.trans (hy.mono hB.size), (Nat.le_trans hz hy.size), s0.zw hy, s1.zw hy, V.step 2 rfl⟩
    · intro L v W2 hd hn ⟨hB, hz, s0, s1, V⟩ K hK
      have e2 := V.at (zdq hd 2 rfl) rfl
      rw [if_pos (by simp [Region.wanted])]
      go_wp2_with fail
      exact hK _ (.bool false) _ (by simp only [Act.put, pA, pB, pC, e2]) ⟨hB, hz, s0, s1, V.step 3 rfl⟩
    · intro L v W2 hd hn ⟨hB, hz, s0, s1, V⟩ K hK
      have e3 := V.at (zdq hd 3 rfl) rfl
      rw [if_neg (by simp [Region.wanted, yielded, e3])]
      exact hK _ undef _ rfl ⟨hB, hz, s0, s1, V.step 4 rfl⟩
    · intro L v W2 hd hn ⟨hB, hz, s0, s1, V⟩ K hK
      have e4 := V.at (zdq hd 4 rfl) rfl
      have e3 := V.at (zdq hd 3 rfl) rfl
      rw [if_neg (by simp [Region.wanted, yielded, e3])]
      exact hK _ undef _ rfl ⟨hB, hz, s0, s1, V.step 5 rfl⟩
    · intro L v W2 hd hn ⟨hB, hz, s0, s1, V⟩ K hK
      have e3 := V.at (zdq hd 3 rfl) rfl
      rw [if_neg (by simp [Region.wanted, yielded, e3])]
      exact hK _ undef _ rfl ⟨hB, hz, s0, s1, V.step 6 rfl⟩
    · intro L v W2 hd hn ⟨hB, hz, s0, s1, V⟩ K hK
      have e6 := V.at (zdq hd 6 rfl) rfl
      have e3 := V.at (zdq hd 3 rfl) rfl
      rw [if_neg (by simp [Region.wanted, yielded, e3])]
      exact hK _ undef _ rfl ⟨hB, hz, s0, s1, V.step 7 rfl⟩
    · intro L v W2 hd hn ⟨hB, hz, s0, s1, V⟩ K hK
      have e5 := V.at (zdq hd 5 rfl) rfl
      have e7 := V.at (zdq hd 7 rfl) rfl
      have e3 := V.at (zdq hd 3 rfl) rfl
      rw [if_neg (by simp [Region.wanted, yielded, e3])]
      exact hK _ undef _ rfl ⟨hB, hz, s0, s1, V.step 8 rfl⟩
    · intro L v W2 hd hn ⟨hB, hz, s0, s1, V⟩ K hK
      have e3 := V.at (zdq hd 3 rfl) rfl
      have e8 := V.at (zdq hd 8 rfl) rfl
      rw [if_pos (by simp [Region.wanted])]
      go_wp2_with fail
      exact hK _ (.bool false) _ (by simp only [Act.put, pA, pB, pC, e3, e8]) ⟨hB, hz, s0, s1, V.step 9 rfl⟩
    intro L v W2 hd hn ⟨hB, hz, s0, s1, V⟩ K hK
    have e9 := V.at (zdq hd 9 rfl) rfl
    rw [if_pos (by simp [Region.wanted])]
    go_wp2_with fail
    exact hK _ (.bool false) _ (by simp only [Act.put, pA, pB, pC, e9]) ⟨hB, hz, s0, s1, V.step 10 rfl⟩
  intro L v W2 hL ⟨hB, hz, s0, s1, V⟩
  have e0 := V.at (hL 0 (by decide)) rfl
  have e1 := V.at (hL 1 (by decide)) rfl
  have e2 := V.at (hL 2 (by decide)) rfl
  have e3 := V.at (hL 3 (by decide)) rfl
  have e4 := V.at (hL 4 (by decide)) rfl
  have e5 := V.at (hL 5 (by decide)) rfl
  have e6 := V.at (hL 6 (by decide)) rfl
  have e7 := V.at (hL 7 (by decide)) rfl
  have e8 := V.at (hL 8 (by decide)) rfl
  have e9 := V.at (hL 9 (by decide)) rfl
  have e10 := V.at (hL 10 (by decide)) rfl
  clear hL V
  simp only [Exit.then, e0, e1, e2, e3, e4, e5, e6, e7, e8, e9, e10]
  clear e0 e1 e2 e3 e4 e5 e6 e7 e8 e9 e10
  replace B0 := s0
  clear s0
  replace B1 := s1
  clear s1
  replace hb := hB
  clear hB
  clear hbase hz lt_B0 lt_B1
  go_wp2_with fail
  go_ret
  exact ⟨by rw [HV.out]; rfl, hb⟩
 | true =>
  by_cases hlt : deg x < deg m
  · skip
    have HV := Lib.hid (rsB_2 ho hlt)
    have HOK := Lib.hid (fun W => l01Is_any p x hx W)
    rw [ho] at HOK
    have HDG := Lib.hid (fun f W => l01Deg_any f W)
    clear ho
    have lt_B0 : (w.heap.size) < W1.heap.size := B0.lt
    have lt_B1 : (w.heap.size + 1) < W1.heap.size := B1.lt
    have hbase : w.heap.size ≤ W1.heap.size := hb.size
    refine wp_region_stepsG Try.mixed (by kernel_rfl) (by kernel_rfl) (fun v => by (simp only [frL, Act.put, pA, pB, pC, Nat.reduceAdd, Nat.zero_add]; exact rfl))
     (fun L v W2 => Below w.heap.size w W2 ∧ W1.heap.size ≤ W2.heap.size ∧ Blk W2 (w.heap.size) 64 24 (m) ∧ Blk W2 (w.heap.size + 1) 64 24 (x) ∧ VF L v [some (.int .i64 p), some (.agg (zb 64 (x))), some (.bool true), some (.bool true), some (.agg (zb 64 (x))), some (.int .i64 (deg x)), some (.agg (zb 64 (m))), some (.int .i64 (deg m)), some (.bool true), some (.bool true), some (.bool true)]) ?_ ?_ ?_
    · intro v hv0
      exact ⟨hb.drew, Nat.le_refl _, B0.drew, B1.drew, VF.start⟩
    · refine (.cons ?_ (.cons ?_ (.cons ?_ (.cons ?_ (.cons ?_ (.cons ?_ (.cons ?_ (.cons ?_ (.cons ?_ (.cons ?_ (.cons ?_ (.nil _))))))))))))
      · intro L v W2 hd hn ⟨hB, hz, s0, s1, V⟩ K hK
        rw [if_pos (by simp [Region.wanted])]
        go_wp2_with fail
        exact hK _ (.int .i64 p) _ (by simp only [Act.put, pA, pB, pC ]) ⟨hB, hz, s0, s1, V.step 0 rfl⟩
      · intro L v W2 hd hn ⟨hB, hz, s0, s1, V⟩ K hK
        rw [if_pos (by simp [Region.wanted])]
        refine zlc s1 Try.underlying24 Try.size24 ?_
        exact hK _ _ _ rfl ⟨hB, hz, s0, s1, V.step 1 rfl⟩
      · intro L v W2 hd hn ⟨hB, hz, s0, s1, V⟩ K hK
        have e0 := V.at (zdq hd 0 rfl) rfl
        have e1 := V.at (zdq hd 1 rfl) rfl
        rw [if_pos (by simp [Region.wanted])]
        go_wp2_with (go_at_call 34; refine (HOK.out _).mono ?_; rintro e wy ⟨rfl, hy⟩)
        exact hK _ (.bool true) _ (by simp only [Act.put, pA, pB, pC, e0, e1]) ⟨hB.trans (hy.mono hB.size), (Nat.le_trans hz hy.size), s0.zw hy, s1.zw hy, V.step 2 rfl⟩
      · intro L v W2 hd hn ⟨hB, hz, s0, s1, V⟩ K hK
        have e2 := V.at (zdq hd 2 rfl) rfl
        rw [if_pos (by simp [Region.wanted])]
        go_wp2_with fail
        exact hK _ (.bool true) _ (by simp only [Act.put, pA, pB, pC, e2]) ⟨hB, hz, s0, s1, V.step 3 rfl⟩
      · intro L v W2 hd hn ⟨hB, hz, s0, s1, V⟩ K hK
        have e3 := V.at (zdq hd 3 rfl) rfl
        rw [if_pos (by simp [Region.wanted, yielded, e3])]
        refine zlc s1 Try.underlying24 Try.size24 ?_
        exact hK _ _ _ rfl ⟨hB, hz, s0, s1, V.step 4 rfl⟩
      · intro L v W2 hd hn ⟨hB, hz, s0, s1, V⟩ K hK
        have e4 := V.at (zdq hd 4 rfl) rfl
        have e3 := V.at (zdq hd 3 rfl) rfl
        rw [if_pos (by simp [Region.wanted, yielded, e3])]
        go_wp2_with (go_at_call 37; refine (HDG.out _ _).mono ?_; rintro e wy ⟨rfl, hy⟩)
        exact hK _ (.int .i64 (deg x)) _ (by simp only [Act.put, pA, pB, pC, e4, e3]) ⟨hB.trans (hy.mono hB.size), (Nat.le_trans hz hy.size), s0.zw hy, s1.zw hy, V.step 5 rfl⟩
      · intro L v W2 hd hn ⟨hB, hz, s0, s1, V⟩ K hK
        have e3 := V.at (zdq hd 3 rfl) rfl
        rw [if_pos (by simp [Region.wanted, yielded, e3])]
        refine zlc s0 Try.underlying24 Try.size24 ?_
        exact hK _ _ _ rfl ⟨hB, hz, s0, s1, V.step 6 rfl⟩
      · intro L v W2 hd hn ⟨hB, hz, s0, s1, V⟩ K hK
        have e6 := V.at (zdq hd 6 rfl) rfl
        have e3 := V.at (zdq hd 3 rfl) rfl
        rw [if_pos (by simp [Region.wanted, yielded, e3])]
        go_wp2_with (go_at_call 37; refine (HDG.out _ _).mono ?_; rintro e wy ⟨rfl, hy⟩)
        exact hK _ (.int .i64 (deg m)) _ (by simp only [Act.put, pA, pB, pC, e6, e3]) ⟨hB.trans (hy.mono hB.size), (Nat.le_trans hz hy.size), s0.zw hy, s1.zw hy, V.step 7 rfl⟩
      · intro L v W2 hd hn ⟨hB, hz, s0, s1, V⟩ K hK
        have e5 := V.at (zdq hd 5 rfl) rfl
        have e7 := V.at (zdq hd 7 rfl) rfl
        have e3 := V.at (zdq hd 3 rfl) rfl
        rw [if_pos (by simp [Region.wanted, yielded, e3])]
        go_wp2_with fail
        exact hK _ (.bool true) _ (by simp only [Act.put, pA, pB, pC, e5, e7, e3]) ⟨hB, hz, s0, s1, V.step 8 rfl⟩
      · intro L v W2 hd hn ⟨hB, hz, s0, s1, V⟩ K hK
        have e3 := V.at (zdq hd 3 rfl) rfl
        have e8 := V.at (zdq hd 8 rfl) rfl
        rw [if_pos (by simp [Region.wanted])]
        go_wp2_with fail
        exact hK _ (.bool true) _ (by simp only [Act.put, pA, pB, pC, e3, e8]) ⟨hB, hz, s0, s1, V.step 9 rfl⟩
      intro L v W2 hd hn ⟨hB, hz, s0, s1, V⟩ K hK
      have e9 := V.at (zdq hd 9 rfl) rfl
      rw [if_pos (by simp [Region.wanted])]
      go_wp2_with fail
      exact hK _ (.bool true) _ (by simp only [Act.put, pA, pB, pC, e9]) ⟨hB, hz, s0, s1, V.step 10 rfl⟩
    intro L v W2 hL ⟨hB, hz, s0, s1, V⟩
    have e0 := V.at (hL 0 (by decide)) rfl
    have e1 := V.at (hL 1 (by decide)) rfl
    have e2 := V.at (hL 2 (by decide)) rfl
    have e3 := V.at (hL 3 (by decide)) rfl
    have e4 := V.at (hL 4 (by decide)) rfl
    have e5 := V.at (hL 5 (by decide)) rfl
    have e6 := V.at (hL 6 (by decide)) rfl
    have e7 := V.at (hL 7 (by decide)) rfl
    have e8 := V.at (hL 8 (by decide)) rfl
    have e9 := V.at (hL 9 (by decide)) rfl
    have e10 := V.at (hL 10 (by decide)) rfl
    clear hL V
    simp only [Exit.then, e0, e1, e2, e3, e4, e5, e6, e7, e8, e9, e10]
    clear e0 e1 e2 e3 e4 e5 e6 e7 e8 e9 e10
    replace B0 := s0
    clear s0
    replace B1 := s1
    clear s1
    replace hb := hB
    clear hB
    clear hbase hz lt_B0 lt_B1
    go_wp2_with fail
    go_ret
    exact ⟨by rw [HV.out]; rfl, hb⟩
  skip
  have HV := Lib.hid (rsB_3 ho hlt)
  have HOK := Lib.hid (fun W => l01Is_any p x hx W)
  rw [ho] at HOK
  have HDG := Lib.hid (fun f W => l01Deg_any f W)
  clear ho
  have lt_B0 : (w.heap.size) < W1.heap.size := B0.lt
  have lt_B1 : (w.heap.size + 1) < W1.heap.size := B1.lt
  have hbase : w.heap.size ≤ W1.heap.size := hb.size
  refine wp_region_stepsG Try.mixed (by kernel_rfl) (by kernel_rfl) (fun v => by (simp only [frL, Act.put, pA, pB, pC, Nat.reduceAdd, Nat.zero_add]; exact rfl))
   (fun L v W2 => Below w.heap.size w W2 ∧ W1.heap.size ≤ W2.heap.size ∧ Blk W2 (w.heap.size) 64 24 (m) ∧ Blk W2 (w.heap.size + 1) 64 24 (x) ∧ VF L v [some (.int .i64 p), some (.agg (zb 64 (x))), some (.bool true), some (.bool true), some (.agg (zb 64 (x))), some (.int .i64 (deg x)), some (.agg (zb 64 (m))), some (.int .i64 (deg m)), some (.bool false), some (.bool false), some (.bool false)]) ?_ ?_ ?_
  · intro v hv0
    exact ⟨hb.drew, Nat.le_refl _, B0.drew, B1.drew, VF.start⟩
  · refine (.cons ?_ (.cons ?_ (.cons ?_ (.cons ?_ (.cons ?_ (.cons ?_ (.cons ?_ (.cons ?_ (.cons ?_ (.cons ?_ (.cons ?_ (.nil _))))))))))))
    · intro L v W2 hd hn ⟨hB, hz, s0, s1, V⟩ K hK
      rw [if_pos (by simp [Region.wanted])]
      go_wp2_with fail
      exact hK _ (.int .i64 p) _ (by simp only [Act.put, pA, pB, pC ]) ⟨hB, hz, s0, s1, V.step 0 rfl⟩
    · intro L v W2 hd hn ⟨hB, hz, s0, s1, V⟩ K hK
      rw [if_pos (by simp [Region.wanted])]
      refine zlc s1 Try.underlying24 Try.size24 ?_
      exact hK _ _ _ rfl ⟨hB, hz, s0, s1, V.step 1 rfl⟩
    · intro L v W2 hd hn ⟨hB, hz, s0, s1, V⟩ K hK
      have e0 := V.at (zdq hd 0 rfl) rfl
      have e1 := V.at (zdq hd 1 rfl) rfl
      rw [if_pos (by simp [Region.wanted])]
      go_wp2_with (go_at_call 34; refine (HOK.out _).mono ?_; rintro e wy ⟨rfl, hy⟩)
      exact hK _ (.bool true) _ (by simp only [Act.put, pA, pB, pC, e0, e1]) ⟨hB.trans (hy.mono hB.size), (Nat.le_trans hz hy.size), s0.zw hy, s1.zw hy, V.step 2 rfl⟩
    · intro L v W2 hd hn ⟨hB, hz, s0, s1, V⟩ K hK
      have e2 := V.at (zdq hd 2 rfl) rfl
      rw [if_pos (by simp [Region.wanted])]
      go_wp2_with fail
      exact hK _ (.bool true) _ (by simp only [Act.put, pA, pB, pC, e2]) ⟨hB, hz, s0, s1, V.step 3 rfl⟩
    · intro L v W2 hd hn ⟨hB, hz, s0, s1, V⟩ K hK
      have e3 := V.at (zdq hd 3 rfl) rfl
      rw [if_pos (by simp [Region.wanted, yielded, e3])]
      refine zlc s1 Try.underlying24 Try.size24 ?_
      exact hK _ _ _ rfl ⟨hB, hz, s0, s1, V.step 4 rfl⟩
    · intro L v W2 hd hn ⟨hB, hz, s0, s1, V⟩ K hK
      have e4 := V.at (zdq hd 4 rfl) rfl
      have e3 := V.at (zdq hd 3 rfl) rfl
      rw [if_pos (by simp [Region.wanted, yielded, e3])]
      go_wp2_with (go_at_call 37; refine (HDG.out _ _).mono ?_; rintro e wy ⟨rfl, hy⟩)
      exact hK _ (.int .i64 (deg x)) _ (by simp only [Act.put, pA, pB, pC, e4, e3]) ⟨hB.trans (hy.mono hB.size), (Nat.le_trans hz hy.size), s0.zw hy, s1.zw hy, V.step 5 rfl⟩
    · intro L v W2 hd hn ⟨hB, hz, s0, s1, V⟩ K hK
      have e3 := V.at (zdq hd 3 rfl) rfl
      rw [if_pos (by simp [Region.wanted, yielded, e3])]
      refine zlc s0 Try.underlying24 Try.size24 ?_
      exact hK _ _ _ rfl ⟨hB, hz, s0, s1, V.step 6 rfl⟩
    · intro L v W2 hd hn ⟨hB, hz, s0, s1, V⟩ K hK
      have e6 := V.at (zdq hd 6 rfl) rfl
      have e3 := V.at (zdq hd 3 rfl) rfl
      rw [if_pos (by simp [Region.wanted, yielded, e3])]
      go_wp2_with (go_at_call 37; refine (HDG.out _ _).mono ?_; rintro e wy ⟨rfl, hy⟩)
      exact hK _ (.int .i64 (deg m)) _ (by simp only [Act.put, pA, pB, pC, e6, e3]) ⟨hB.trans (hy.mono hB.size), (Nat.le_trans hz hy.size), s0.zw hy, s1.zw hy, V.step 7 rfl⟩
    · intro L v W2 hd hn ⟨hB, hz, s0, s1, V⟩ K hK
      have e5 := V.at (zdq hd 5 rfl) rfl
      have e7 := V.at (zdq hd 7 rfl) rfl
      have e3 := V.at (zdq hd 3 rfl) rfl
      rw [if_pos (by simp [Region.wanted, yielded, e3])]
      go_wp2_with fail
      exact hK _ (.bool false) _ (by simp only [Act.put, pA, pB, pC, e5, e7, e3]) ⟨hB, hz, s0, s1, V.step 8 rfl⟩
    · intro L v W2 hd hn ⟨hB, hz, s0, s1, V⟩ K hK
      have e3 := V.at (zdq hd 3 rfl) rfl
      have e8 := V.at (zdq hd 8 rfl) rfl
      rw [if_pos (by simp [Region.wanted])]
      go_wp2_with fail
      exact hK _ (.bool false) _ (by simp only [Act.put, pA, pB, pC, e3, e8]) ⟨hB, hz, s0, s1, V.step 9 rfl⟩
    intro L v W2 hd hn ⟨hB, hz, s0, s1, V⟩ K hK
    have e9 := V.at (zdq hd 9 rfl) rfl
    rw [if_pos (by simp [Region.wanted])]
    go_wp2_with fail
    exact hK _ (.bool false) _ (by simp only [Act.put, pA, pB, pC, e9]) ⟨hB, hz, s0, s1, V.step 10 rfl⟩
  intro L v W2 hL ⟨hB, hz, s0, s1, V⟩
  have e0 := V.at (hL 0 (by decide)) rfl
  have e1 := V.at (hL 1 (by decide)) rfl
  have e2 := V.at (hL 2 (by decide)) rfl
  have e3 := V.at (hL 3 (by decide)) rfl
  have e4 := V.at (hL 4 (by decide)) rfl
  have e5 := V.at (hL 5 (by decide)) rfl
  have e6 := V.at (hL 6 (by decide)) rfl
  have e7 := V.at (hL 7 (by decide)) rfl
  have e8 := V.at (hL 8 (by decide)) rfl
  have e9 := V.at (hL 9 (by decide)) rfl
  have e10 := V.at (hL 10 (by decide)) rfl
  clear hL V
  simp only [Exit.then, e0, e1, e2, e3, e4, e5, e6, e7, e8, e9, e10]
  clear e0 e1 e2 e3 e4 e5 e6 e7 e8 e9 e10
  replace B0 := s0
  clear s0
  replace B1 := s1
  clear s1
  replace hb := hB
  clear hB
  clear hbase hz lt_B0 lt_B1
  go_wp2_with fail
  go_ret
  exact ⟨by rw [HV.out]; rfl, hb⟩
theorem isResidue_any (p : Int) (m x : Nat → Nat) (hm : byte m) (hx : byte x) (w : World) :
 Calls Try.prog 49 #[.agg (fdC p m).toArray, .agg (zb 64 x)] w fun e w' => e = .returned (.bool (rsB p m x)) ∧ Below w.heap.size w w' := by
 go_enter Try.func49, Try.ntmps49
 go_upto_region 1 with (fail)
 obtain ⟨W1, hwo⟩ : ∃ v : World, v = ((w.alloc (.cells (fdC p m).toArray 38)).alloc (.cells (zb 64 (x)) 24)) := ⟨_, rfl⟩
 have B0 : Row W1 (w.heap.size) 38 (fdC p m).toArray := by subst hwo; have := ((Row.new w 38 (fdC p m).toArray).alloc (.cells (zb 64 (x)) 24)); simpa using this
 have B1 : Blk W1 (w.heap.size + 1) 64 24 (x) := by subst hwo; have := (Blk.new (w.alloc (.cells (fdC p m).toArray 38)) 64 24 (x)); simpa using this
 have hb : Below w.heap.size w W1 := by subst hwo; exact (((Below.refl _ _).alloc (Nat.le_refl _) _).alloc (by simp) _)
 rw [← hwo]
 clear hwo
 cases ho : okA p x with
 | false =>
  have HV := Lib.hid (rsB_1 (m := m) ho)
  have HOK := Lib.hid (fun W => IsPoly_any p x hx W)
  rw [ho] at HOK
  have HDG := Lib.hid (fun f W => degree_any f W)
  clear ho
  have lt_B0 : (w.heap.size) < W1.heap.size := B0.lt
  have lt_B1 : (w.heap.size + 1) < W1.heap.size := B1.lt
  have hbase : w.heap.size ≤ W1.heap.size := hb.size
  refine wp_region_stepsG Try.mixed (by kernel_rfl) (by kernel_rfl) (fun v => by (simp only [frL, Act.put, pA, pB, pC, Nat.reduceAdd, Nat.zero_add]; exact rfl))
   (fun L v W2 => Below w.heap.size w W2 ∧ W1.heap.size ≤ W2.heap.size ∧ Row W2 (w.heap.size) 38 (fdC p m).toArray ∧ Blk W2 (w.heap.size + 1) 64 24 (x) ∧ VF L v [some (.pointer (some ⟨w.heap.size, 0, none⟩)), some (.int .i64 p), some (.agg (zb 64 (x))), some (.bool false), some (.bool false), some undef, some undef, some undef, some undef, some undef, some undef, some (.bool false), some (.bool false)]) ?_ ?_ ?_
  · intro v hv0
    exact ⟨hb.drew, Nat.le_refl _, B0.drew, B1.drew, VF.start⟩
  · refine (.cons ?_ (.cons ?_ (.cons ?_ (.cons ?_ (.cons ?_ (.cons ?_ (.cons ?_ (.cons ?_ (.cons ?_ (.cons ?_ (.cons ?_ (.cons ?_ (.cons ?_ (.nil _))))))))))))))
    · intro L v W2 hd hn ⟨hB, hz, s0, s1, V⟩ K hK
      rw [if_pos (by simp [Region.wanted])]
      go_wp2_with fail
      exact hK _ (.pointer (some ⟨w.heap.size, 0, none⟩)) _ (by simp only [Act.put, pA, pB, pC ]) ⟨hB, hz, s0, s1, V.step 0 rfl⟩
    · intro L v W2 hd hn ⟨hB, hz, s0, s1, V⟩ K hK
      have e0 := V.at (zdq hd 0 rfl) rfl
      rw [if_pos (by simp [Region.wanted])]
      have cc := s0.cell (i := 0) (v := .int .i64 p) (fdC_at p m)
      go_wp2_with fail
      exact hK _ (.int .i64 p) _ (by simp only [Act.put, pA, pB, pC, e0]) ⟨hB, hz, s0, s1, V.step 1 rfl⟩
    · intro L v W2 hd hn ⟨hB, hz, s0, s1, V⟩ K hK
      rw [if_pos (by simp [Region.wanted])]
      refine zlc s1 Try.underlying24 Try.size24 ?_
      exact hK _ _ _ rfl ⟨hB, hz, s0, s1, V.step 2 rfl⟩
    · intro L v W2 hd hn ⟨hB, hz, s0, s1, V⟩ K hK
      have e1 := V.at (zdq hd 1 rfl) rfl
      have e2 := V.at (zdq hd 2 rfl) rfl
      rw [if_pos (by simp [Region.wanted])]
      go_wp2_with (go_at_call 46; refine (HOK.out _).mono ?_; rintro e wy ⟨rfl, hy⟩)
      exact hK _ (.bool false) _ (by simp only [Act.put, pA, pB, pC, e1, e2]) ⟨hB.trans (hy.mono hB.size), (Nat.le_trans hz hy.size), s0.zw hy, s1.zw hy, V.step 3 rfl⟩
    · intro L v W2 hd hn ⟨hB, hz, s0, s1, V⟩ K hK
      have e3 := V.at (zdq hd 3 rfl) rfl
      rw [if_pos (by simp [Region.wanted])]
      go_wp2_with fail
      exact hK _ (.bool false) _ (by simp only [Act.put, pA, pB, pC, e3]) ⟨hB, hz, s0, s1, V.step 4 rfl⟩
    · intro L v W2 hd hn ⟨hB, hz, s0, s1, V⟩ K hK
      have e4 := V.at (zdq hd 4 rfl) rfl
      rw [if_neg (by simp [Region.wanted, yielded, e4])]
      exact hK _ undef _ rfl ⟨hB, hz, s0, s1, V.step 5 rfl⟩
    · intro L v W2 hd hn ⟨hB, hz, s0, s1, V⟩ K hK
      have e5 := V.at (zdq hd 5 rfl) rfl
      have e4 := V.at (zdq hd 4 rfl) rfl
      rw [if_neg (by simp [Region.wanted, yielded, e4])]
      exact hK _ undef _ rfl ⟨hB, hz, s0, s1, V.step 6 rfl⟩
    · intro L v W2 hd hn ⟨hB, hz, s0, s1, V⟩ K hK
      have e4 := V.at (zdq hd 4 rfl) rfl
      rw [if_neg (by simp [Region.wanted, yielded, e4])]
      exact hK _ undef _ rfl ⟨hB, hz, s0, s1, V.step 7 rfl⟩
    · intro L v W2 hd hn ⟨hB, hz, s0, s1, V⟩ K hK
      have e7 := V.at (zdq hd 7 rfl) rfl
      have e4 := V.at (zdq hd 4 rfl) rfl
      rw [if_neg (by simp [Region.wanted, yielded, e4])]
      exact hK _ undef _ rfl ⟨hB, hz, s0, s1, V.step 8 rfl⟩
    · intro L v W2 hd hn ⟨hB, hz, s0, s1, V⟩ K hK
      have e8 := V.at (zdq hd 8 rfl) rfl
      have e4 := V.at (zdq hd 4 rfl) rfl
      rw [if_neg (by simp [Region.wanted, yielded, e4])]
      exact hK _ undef _ rfl ⟨hB, hz, s0, s1, V.step 9 rfl⟩
    · intro L v W2 hd hn ⟨hB, hz, s0, s1, V⟩ K hK
      have e6 := V.at (zdq hd 6 rfl) rfl
      have e9 := V.at (zdq hd 9 rfl) rfl
      have e4 := V.at (zdq hd 4 rfl) rfl
      rw [if_neg (by simp [Region.wanted, yielded, e4])]
      exact hK _ undef _ rfl ⟨hB, hz, s0, s1, V.step 10 rfl⟩
    · intro L v W2 hd hn ⟨hB, hz, s0, s1, V⟩ K hK
      have e4 := V.at (zdq hd 4 rfl) rfl
      have e10 := V.at (zdq hd 10 rfl) rfl
      rw [if_pos (by simp [Region.wanted])]
      go_wp2_with fail
      exact hK _ (.bool false) _ (by simp only [Act.put, pA, pB, pC, e4, e10]) ⟨hB, hz, s0, s1, V.step 11 rfl⟩
    intro L v W2 hd hn ⟨hB, hz, s0, s1, V⟩ K hK
    have e11 := V.at (zdq hd 11 rfl) rfl
    rw [if_pos (by simp [Region.wanted])]
    go_wp2_with fail
    exact hK _ (.bool false) _ (by simp only [Act.put, pA, pB, pC, e11]) ⟨hB, hz, s0, s1, V.step 12 rfl⟩
  intro L v W2 hL ⟨hB, hz, s0, s1, V⟩
  have e0 := V.at (hL 0 (by decide)) rfl
  have e1 := V.at (hL 1 (by decide)) rfl
  have e2 := V.at (hL 2 (by decide)) rfl
  have e3 := V.at (hL 3 (by decide)) rfl
  have e4 := V.at (hL 4 (by decide)) rfl
  have e5 := V.at (hL 5 (by decide)) rfl
  have e6 := V.at (hL 6 (by decide)) rfl
  have e7 := V.at (hL 7 (by decide)) rfl
  have e8 := V.at (hL 8 (by decide)) rfl
  have e9 := V.at (hL 9 (by decide)) rfl
  have e10 := V.at (hL 10 (by decide)) rfl
  have e11 := V.at (hL 11 (by decide)) rfl
  have e12 := V.at (hL 12 (by decide)) rfl
  clear hL V
  simp only [Exit.then, e0, e1, e2, e3, e4, e5, e6, e7, e8, e9, e10, e11, e12]
  clear e0 e1 e2 e3 e4 e5 e6 e7 e8 e9 e10 e11 e12
  replace B0 := s0
  clear s0
  replace B1 := s1
  clear s1
  replace hb := hB
  clear hB
  clear hbase hz lt_B0 lt_B1
  go_wp2_with fail
  go_ret
  exact ⟨by rw [HV.out]; rfl, hb⟩
 | true =>
  by_cases hlt : deg x < deg m
  · skip
    have HV := Lib.hid (rsB_2 ho hlt)
    have HOK := Lib.hid (fun W => IsPoly_any p x hx W)
    rw [ho] at HOK
    have HDG := Lib.hid (fun f W => degree_any f W)
    clear ho
    have lt_B0 : (w.heap.size) < W1.heap.size := B0.lt
    have lt_B1 : (w.heap.size + 1) < W1.heap.size := B1.lt
    have hbase : w.heap.size ≤ W1.heap.size := hb.size
    refine wp_region_stepsG Try.mixed (by kernel_rfl) (by kernel_rfl) (fun v => by (simp only [frL, Act.put, pA, pB, pC, Nat.reduceAdd, Nat.zero_add]; exact rfl))
     (fun L v W2 => Below w.heap.size w W2 ∧ W1.heap.size ≤ W2.heap.size ∧ Row W2 (w.heap.size) 38 (fdC p m).toArray ∧ Blk W2 (w.heap.size + 1) 64 24 (x) ∧ VF L v [some (.pointer (some ⟨w.heap.size, 0, none⟩)), some (.int .i64 p), some (.agg (zb 64 (x))), some (.bool true), some (.bool true), some (.agg (zb 64 (x))), some (.int .i64 (deg x)), some (.pointer (some ⟨w.heap.size, 1, none⟩)), some (.agg (zb 64 (m))), some (.int .i64 (deg m)), some (.bool true), some (.bool true), some (.bool true)]) ?_ ?_ ?_
    · intro v hv0
      exact ⟨hb.drew, Nat.le_refl _, B0.drew, B1.drew, VF.start⟩
    · refine (.cons ?_ (.cons ?_ (.cons ?_ (.cons ?_ (.cons ?_ (.cons ?_ (.cons ?_ (.cons ?_ (.cons ?_ (.cons ?_ (.cons ?_ (.cons ?_ (.cons ?_ (.nil _))))))))))))))
      · intro L v W2 hd hn ⟨hB, hz, s0, s1, V⟩ K hK
        rw [if_pos (by simp [Region.wanted])]
        go_wp2_with fail
        exact hK _ (.pointer (some ⟨w.heap.size, 0, none⟩)) _ (by simp only [Act.put, pA, pB, pC ]) ⟨hB, hz, s0, s1, V.step 0 rfl⟩
      · intro L v W2 hd hn ⟨hB, hz, s0, s1, V⟩ K hK
        have e0 := V.at (zdq hd 0 rfl) rfl
        rw [if_pos (by simp [Region.wanted])]
        have cc := s0.cell (i := 0) (v := .int .i64 p) (fdC_at p m)
        go_wp2_with fail
        exact hK _ (.int .i64 p) _ (by simp only [Act.put, pA, pB, pC, e0]) ⟨hB, hz, s0, s1, V.step 1 rfl⟩
      · intro L v W2 hd hn ⟨hB, hz, s0, s1, V⟩ K hK
        rw [if_pos (by simp [Region.wanted])]
        refine zlc s1 Try.underlying24 Try.size24 ?_
        exact hK _ _ _ rfl ⟨hB, hz, s0, s1, V.step 2 rfl⟩
      · intro L v W2 hd hn ⟨hB, hz, s0, s1, V⟩ K hK
        have e1 := V.at (zdq hd 1 rfl) rfl
        have e2 := V.at (zdq hd 2 rfl) rfl
        rw [if_pos (by simp [Region.wanted])]
        go_wp2_with (go_at_call 46; refine (HOK.out _).mono ?_; rintro e wy ⟨rfl, hy⟩)
        exact hK _ (.bool true) _ (by simp only [Act.put, pA, pB, pC, e1, e2]) ⟨hB.trans (hy.mono hB.size), (Nat.le_trans hz hy.size), s0.zw hy, s1.zw hy, V.step 3 rfl⟩
      · intro L v W2 hd hn ⟨hB, hz, s0, s1, V⟩ K hK
        have e3 := V.at (zdq hd 3 rfl) rfl
        rw [if_pos (by simp [Region.wanted])]
        go_wp2_with fail
        exact hK _ (.bool true) _ (by simp only [Act.put, pA, pB, pC, e3]) ⟨hB, hz, s0, s1, V.step 4 rfl⟩
      · intro L v W2 hd hn ⟨hB, hz, s0, s1, V⟩ K hK
        have e4 := V.at (zdq hd 4 rfl) rfl
        rw [if_pos (by simp [Region.wanted, yielded, e4])]
        refine zlc s1 Try.underlying24 Try.size24 ?_
        exact hK _ _ _ rfl ⟨hB, hz, s0, s1, V.step 5 rfl⟩
      · intro L v W2 hd hn ⟨hB, hz, s0, s1, V⟩ K hK
        have e5 := V.at (zdq hd 5 rfl) rfl
        have e4 := V.at (zdq hd 4 rfl) rfl
        rw [if_pos (by simp [Region.wanted, yielded, e4])]
        go_wp2_with (go_at_call 64; refine (HDG.out _ _).mono ?_; rintro e wy ⟨rfl, hy⟩)
        exact hK _ (.int .i64 (deg x)) _ (by simp only [Act.put, pA, pB, pC, e5, e4]) ⟨hB.trans (hy.mono hB.size), (Nat.le_trans hz hy.size), s0.zw hy, s1.zw hy, V.step 6 rfl⟩
      · intro L v W2 hd hn ⟨hB, hz, s0, s1, V⟩ K hK
        have e4 := V.at (zdq hd 4 rfl) rfl
        rw [if_pos (by simp [Region.wanted, yielded, e4])]
        go_wp2_with fail
        exact hK _ (.pointer (some ⟨w.heap.size, 1, none⟩)) _ (by simp only [Act.put, pA, pB, pC, e4]) ⟨hB, hz, s0, s1, V.step 7 rfl⟩
      · intro L v W2 hd hn ⟨hB, hz, s0, s1, V⟩ K hK
        have e7 := V.at (zdq hd 7 rfl) rfl
        have e4 := V.at (zdq hd 4 rfl) rfl
        rw [if_pos (by simp [Region.wanted, yielded, e4])]
        refine wp_load_mid 24 _ rfl _ 1 e7 _ _ (s0.fd) Try.underlying24 rfl (by rw [zl]; exact Try.size24) ?_
        exact hK _ _ _ rfl ⟨hB, hz, s0, s1, V.step 8 rfl⟩
      · intro L v W2 hd hn ⟨hB, hz, s0, s1, V⟩ K hK
        have e8 := V.at (zdq hd 8 rfl) rfl
        have e4 := V.at (zdq hd 4 rfl) rfl
        rw [if_pos (by simp [Region.wanted, yielded, e4])]
        go_wp2_with (go_at_call 64; refine (HDG.out _ _).mono ?_; rintro e wy ⟨rfl, hy⟩)
        exact hK _ (.int .i64 (deg m)) _ (by simp only [Act.put, pA, pB, pC, e8, e4]) ⟨hB.trans (hy.mono hB.size), (Nat.le_trans hz hy.size), s0.zw hy, s1.zw hy, V.step 9 rfl⟩
      · intro L v W2 hd hn ⟨hB, hz, s0, s1, V⟩ K hK
        have e6 := V.at (zdq hd 6 rfl) rfl
        have e9 := V.at (zdq hd 9 rfl) rfl
        have e4 := V.at (zdq hd 4 rfl) rfl
        rw [if_pos (by simp [Region.wanted, yielded, e4])]
        go_wp2_with fail
        exact hK _ (.bool true) _ (by simp only [Act.put, pA, pB, pC, e6, e9, e4]) ⟨hB, hz, s0, s1, V.step 10 rfl⟩
      · intro L v W2 hd hn ⟨hB, hz, s0, s1, V⟩ K hK
        have e4 := V.at (zdq hd 4 rfl) rfl
        have e10 := V.at (zdq hd 10 rfl) rfl
        rw [if_pos (by simp [Region.wanted])]
        go_wp2_with fail
        exact hK _ (.bool true) _ (by simp only [Act.put, pA, pB, pC, e4, e10]) ⟨hB, hz, s0, s1, V.step 11 rfl⟩
      intro L v W2 hd hn ⟨hB, hz, s0, s1, V⟩ K hK
      have e11 := V.at (zdq hd 11 rfl) rfl
      rw [if_pos (by simp [Region.wanted])]
      go_wp2_with fail
      exact hK _ (.bool true) _ (by simp only [Act.put, pA, pB, pC, e11]) ⟨hB, hz, s0, s1, V.step 12 rfl⟩
    intro L v W2 hL ⟨hB, hz, s0, s1, V⟩
    have e0 := V.at (hL 0 (by decide)) rfl
    have e1 := V.at (hL 1 (by decide)) rfl
    have e2 := V.at (hL 2 (by decide)) rfl
    have e3 := V.at (hL 3 (by decide)) rfl
    have e4 := V.at (hL 4 (by decide)) rfl
    have e5 := V.at (hL 5 (by decide)) rfl
    have e6 := V.at (hL 6 (by decide)) rfl
    have e7 := V.at (hL 7 (by decide)) rfl
    have e8 := V.at (hL 8 (by decide)) rfl
    have e9 := V.at (hL 9 (by decide)) rfl
    have e10 := V.at (hL 10 (by decide)) rfl
    have e11 := V.at (hL 11 (by decide)) rfl
    have e12 := V.at (hL 12 (by decide)) rfl
    clear hL V
    simp only [Exit.then, e0, e1, e2, e3, e4, e5, e6, e7, e8, e9, e10, e11, e12]
    clear e0 e1 e2 e3 e4 e5 e6 e7 e8 e9 e10 e11 e12
    replace B0 := s0
    clear s0
    replace B1 := s1
    clear s1
    replace hb := hB
    clear hB
    clear hbase hz lt_B0 lt_B1
    go_wp2_with fail
    go_ret
    exact ⟨by rw [HV.out]; rfl, hb⟩
  skip
  have HV := Lib.hid (rsB_3 ho hlt)
  have HOK := Lib.hid (fun W => IsPoly_any p x hx W)
  rw [ho] at HOK
  have HDG := Lib.hid (fun f W => degree_any f W)
  clear ho
  have lt_B0 : (w.heap.size) < W1.heap.size := B0.lt
  have lt_B1 : (w.heap.size + 1) < W1.heap.size := B1.lt
  have hbase : w.heap.size ≤ W1.heap.size := hb.size
  refine wp_region_stepsG Try.mixed (by kernel_rfl) (by kernel_rfl) (fun v => by (simp only [frL, Act.put, pA, pB, pC, Nat.reduceAdd, Nat.zero_add]; exact rfl))
   (fun L v W2 => Below w.heap.size w W2 ∧ W1.heap.size ≤ W2.heap.size ∧ Row W2 (w.heap.size) 38 (fdC p m).toArray ∧ Blk W2 (w.heap.size + 1) 64 24 (x) ∧ VF L v [some (.pointer (some ⟨w.heap.size, 0, none⟩)), some (.int .i64 p), some (.agg (zb 64 (x))), some (.bool true), some (.bool true), some (.agg (zb 64 (x))), some (.int .i64 (deg x)), some (.pointer (some ⟨w.heap.size, 1, none⟩)), some (.agg (zb 64 (m))), some (.int .i64 (deg m)), some (.bool false), some (.bool false), some (.bool false)]) ?_ ?_ ?_
  · intro v hv0
    exact ⟨hb.drew, Nat.le_refl _, B0.drew, B1.drew, VF.start⟩
  · refine (.cons ?_ (.cons ?_ (.cons ?_ (.cons ?_ (.cons ?_ (.cons ?_ (.cons ?_ (.cons ?_ (.cons ?_ (.cons ?_ (.cons ?_ (.cons ?_ (.cons ?_ (.nil _))))))))))))))
    · intro L v W2 hd hn ⟨hB, hz, s0, s1, V⟩ K hK
      rw [if_pos (by simp [Region.wanted])]
      go_wp2_with fail
      exact hK _ (.pointer (some ⟨w.heap.size, 0, none⟩)) _ (by simp only [Act.put, pA, pB, pC ]) ⟨hB, hz, s0, s1, V.step 0 rfl⟩
    · intro L v W2 hd hn ⟨hB, hz, s0, s1, V⟩ K hK
      have e0 := V.at (zdq hd 0 rfl) rfl
      rw [if_pos (by simp [Region.wanted])]
      have cc := s0.cell (i := 0) (v := .int .i64 p) (fdC_at p m)
      go_wp2_with fail
      exact hK _ (.int .i64 p) _ (by simp only [Act.put, pA, pB, pC, e0]) ⟨hB, hz, s0, s1, V.step 1 rfl⟩
    · intro L v W2 hd hn ⟨hB, hz, s0, s1, V⟩ K hK
      rw [if_pos (by simp [Region.wanted])]
      refine zlc s1 Try.underlying24 Try.size24 ?_
      exact hK _ _ _ rfl ⟨hB, hz, s0, s1, V.step 2 rfl⟩
    · intro L v W2 hd hn ⟨hB, hz, s0, s1, V⟩ K hK
      have e1 := V.at (zdq hd 1 rfl) rfl
      have e2 := V.at (zdq hd 2 rfl) rfl
      rw [if_pos (by simp [Region.wanted])]
      go_wp2_with (go_at_call 46; refine (HOK.out _).mono ?_; rintro e wy ⟨rfl, hy⟩)
      exact hK _ (.bool true) _ (by simp only [Act.put, pA, pB, pC, e1, e2]) ⟨hB.trans (hy.mono hB.size), (Nat.le_trans hz hy.size), s0.zw hy, s1.zw hy, V.step 3 rfl⟩
    · intro L v W2 hd hn ⟨hB, hz, s0, s1, V⟩ K hK
      have e3 := V.at (zdq hd 3 rfl) rfl
      rw [if_pos (by simp [Region.wanted])]
      go_wp2_with fail
      exact hK _ (.bool true) _ (by simp only [Act.put, pA, pB, pC, e3]) ⟨hB, hz, s0, s1, V.step 4 rfl⟩
    · intro L v W2 hd hn ⟨hB, hz, s0, s1, V⟩ K hK
      have e4 := V.at (zdq hd 4 rfl) rfl
      rw [if_pos (by simp [Region.wanted, yielded, e4])]
      refine zlc s1 Try.underlying24 Try.size24 ?_
      exact hK _ _ _ rfl ⟨hB, hz, s0, s1, V.step 5 rfl⟩
    · intro L v W2 hd hn ⟨hB, hz, s0, s1, V⟩ K hK
      have e5 := V.at (zdq hd 5 rfl) rfl
      have e4 := V.at (zdq hd 4 rfl) rfl
      rw [if_pos (by simp [Region.wanted, yielded, e4])]
      go_wp2_with (go_at_call 64; refine (HDG.out _ _).mono ?_; rintro e wy ⟨rfl, hy⟩)
      exact hK _ (.int .i64 (deg x)) _ (by simp only [Act.put, pA, pB, pC, e5, e4]) ⟨hB.trans (hy.mono hB.size), (Nat.le_trans hz hy.size), s0.zw hy, s1.zw hy, V.step 6 rfl⟩
    · intro L v W2 hd hn ⟨hB, hz, s0, s1, V⟩ K hK
      have e4 := V.at (zdq hd 4 rfl) rfl
      rw [if_pos (by simp [Region.wanted, yielded, e4])]
      go_wp2_with fail
      exact hK _ (.pointer (some ⟨w.heap.size, 1, none⟩)) _ (by simp only [Act.put, pA, pB, pC, e4]) ⟨hB, hz, s0, s1, V.step 7 rfl⟩
    · intro L v W2 hd hn ⟨hB, hz, s0, s1, V⟩ K hK
      have e7 := V.at (zdq hd 7 rfl) rfl
      have e4 := V.at (zdq hd 4 rfl) rfl
      rw [if_pos (by simp [Region.wanted, yielded, e4])]
      refine wp_load_mid 24 _ rfl _ 1 e7 _ _ (s0.fd) Try.underlying24 rfl (by rw [zl]; exact Try.size24) ?_
      exact hK _ _ _ rfl ⟨hB, hz, s0, s1, V.step 8 rfl⟩
    · intro L v W2 hd hn ⟨hB, hz, s0, s1, V⟩ K hK
      have e8 := V.at (zdq hd 8 rfl) rfl
      have e4 := V.at (zdq hd 4 rfl) rfl
      rw [if_pos (by simp [Region.wanted, yielded, e4])]
      go_wp2_with (go_at_call 64; refine (HDG.out _ _).mono ?_; rintro e wy ⟨rfl, hy⟩)
      exact hK _ (.int .i64 (deg m)) _ (by simp only [Act.put, pA, pB, pC, e8, e4]) ⟨hB.trans (hy.mono hB.size), (Nat.le_trans hz hy.size), s0.zw hy, s1.zw hy, V.step 9 rfl⟩
    · intro L v W2 hd hn ⟨hB, hz, s0, s1, V⟩ K hK
      have e6 := V.at (zdq hd 6 rfl) rfl
      have e9 := V.at (zdq hd 9 rfl) rfl
      have e4 := V.at (zdq hd 4 rfl) rfl
      rw [if_pos (by simp [Region.wanted, yielded, e4])]
      go_wp2_with fail
      exact hK _ (.bool false) _ (by simp only [Act.put, pA, pB, pC, e6, e9, e4]) ⟨hB, hz, s0, s1, V.step 10 rfl⟩
    · intro L v W2 hd hn ⟨hB, hz, s0, s1, V⟩ K hK
      have e4 := V.at (zdq hd 4 rfl) rfl
      have e10 := V.at (zdq hd 10 rfl) rfl
      rw [if_pos (by simp [Region.wanted])]
      go_wp2_with fail
      exact hK _ (.bool false) _ (by simp only [Act.put, pA, pB, pC, e4, e10]) ⟨hB, hz, s0, s1, V.step 11 rfl⟩
    intro L v W2 hd hn ⟨hB, hz, s0, s1, V⟩ K hK
    have e11 := V.at (zdq hd 11 rfl) rfl
    rw [if_pos (by simp [Region.wanted])]
    go_wp2_with fail
    exact hK _ (.bool false) _ (by simp only [Act.put, pA, pB, pC, e11]) ⟨hB, hz, s0, s1, V.step 12 rfl⟩
  intro L v W2 hL ⟨hB, hz, s0, s1, V⟩
  have e0 := V.at (hL 0 (by decide)) rfl
  have e1 := V.at (hL 1 (by decide)) rfl
  have e2 := V.at (hL 2 (by decide)) rfl
  have e3 := V.at (hL 3 (by decide)) rfl
  have e4 := V.at (hL 4 (by decide)) rfl
  have e5 := V.at (hL 5 (by decide)) rfl
  have e6 := V.at (hL 6 (by decide)) rfl
  have e7 := V.at (hL 7 (by decide)) rfl
  have e8 := V.at (hL 8 (by decide)) rfl
  have e9 := V.at (hL 9 (by decide)) rfl
  have e10 := V.at (hL 10 (by decide)) rfl
  have e11 := V.at (hL 11 (by decide)) rfl
  have e12 := V.at (hL 12 (by decide)) rfl
  clear hL V
  simp only [Exit.then, e0, e1, e2, e3, e4, e5, e6, e7, e8, e9, e10, e11, e12]
  clear e0 e1 e2 e3 e4 e5 e6 e7 e8 e9 e10 e11 e12
  replace B0 := s0
  clear s0
  replace B1 := s1
  clear s1
  replace hb := hB
  clear hB
  clear hbase hz lt_B0 lt_B1
  go_wp2_with fail
  go_ret
  exact ⟨by rw [HV.out]; rfl, hb⟩
theorem l03Is_any (p : Int) (m : Nat → Nat) (F : Nat → Nat → Nat) (hm : byte m) (hF : ∀ i, byte (F i)) (w : World) :
 Calls Try.prog 19 #[.int .i64 p, .agg (zb 64 m), .agg (zb 512 (fl 64 F))] w fun e w' => e = .returned (.bool (skB p m F)) ∧ Below w.heap.size w w' := by
 have HR := Lib.hid (fun i W => l03Residue_any p m (F i) hm (hF i) W)
 have HY := Lib.hid (fun h => skB_yes (p := p) (m := m) (F := F) h)
 have HN := Lib.hid (fun i (hi : i < 8) h => skB_no (p := p) (m := m) (F := F) hi h)
 go_enter Try.func19, Try.ntmps19
 go_upto_region 1 with (fail)
 obtain ⟨W1, hwo⟩ : ∃ v : World, v = ((w.alloc (.cells (zb 64 (m)) 24)).alloc (.cells (zb 512 (fl 64 F)) 26)) := ⟨_, rfl⟩
 have B0 : Blk W1 (w.heap.size) 64 24 (m) := by subst hwo; have := ((Blk.new w 64 24 (m)).alloc (.cells (zb 512 (fl 64 F)) 26)); simpa using this
 have B1 : Blk W1 (w.heap.size + 1) 512 26 (fl 64 F) := by subst hwo; have := (Blk.new (w.alloc (.cells (zb 64 (m)) 24)) 512 26 (fl 64 F)); simpa using this
 have hb : Below w.heap.size w W1 := by subst hwo; exact (((Below.refl _ _).alloc (Nat.le_refl _) _).alloc (by simp) _)
 rw [← hwo]
 clear hwo
 go_wp2_with fail
 go_loopw [7] (fun c wr => ∃ j : Nat, c = .int .i64 (j : Int) ∧ j ≤ 8 ∧ Hid (∀ i, i < j → rsB p m (F i) = true) ∧ Below w.heap.size w wr ∧ Blk wr (w.heap.size) 64 24 m ∧ Blk wr (w.heap.size + 1) 512 26 (fl 64 F)) (fun c _ => 8 - (intOf c).toNat)
 case atStart => exact ⟨0, rfl, by omega, Lib.hid (fun i hi => absurd hi (Nat.not_lt_zero i)), hb, B0, B1⟩
 case round =>
  clear hb B0 B1
  obtain ⟨j, rfl, hj8, hall, hb, B0, B1⟩ := hrel
  by_cases hj : j < 8
  · have hjI : (j : Int) < 8 := by omega
    have HRJ := Lib.hid (HR.out j)
    cases hr : rsB p m (F j) with
    | false =>
     rw [hr] at HRJ
     have HV := Lib.hid (HN.out j hj hr)
     clear hr
     go_upto_region 4 with (fail)
     refine zq Try.mixed (by kernel_rfl) (by kernel_rfl) (fun v => by (simp only [frL, Act.put, pA, pB, pC, Nat.reduceAdd, Nat.zero_add]; exact rfl))
      (fun L v W2 => Below wr.heap.size wr W2 ∧ VF L v [some (.int .i64 p), some (.agg (zb 64 (m))), some (.int .i64 (j : Int)), some (.pointer (some ⟨w.heap.size + 1, j * 64, none⟩)), some (.agg (zb 64 (F j))), some (.bool false), some (.bool true)]) ?_ ?_ ?_
     · intro v hv0
       exact ⟨(Below.refl _ wr).drew, VF.start⟩
     · refine (.cons rfl ?_ (.cons rfl ?_ (.cons rfl ?_ (.cons rfl ?_ (.cons rfl ?_ (.cons rfl ?_ (.cons rfl ?_ (.nil _))))))))
       all_goals intro L v W2 hd hn ⟨hY, V⟩ K hK
       · go_wp2_with fail
         exact hK _ (.int .i64 p) _ (by simp only [Act.put, pA, pB, pC ]) ⟨hY, V.step 0 rfl⟩
       · refine zlc (B0.zw hY) Try.underlying24 Try.size24 ?_
         exact hK _ _ _ rfl ⟨hY, V.step 1 rfl⟩
       · go_wp2_with fail
         exact hK _ (.int .i64 (j : Int)) _ (by simp only [Act.put, pA, pB, pC ]) ⟨hY, V.step 2 rfl⟩
       · have e2 := V.at (zdq hd 2 rfl) rfl
         go_wp2_with fail
         exact hK _ (.pointer (some ⟨w.heap.size + 1, j * 64, none⟩)) _ (by simp only [Act.put, pA, pB, pC, e2]) ⟨hY, V.step 3 rfl⟩
       · have e3 := V.at (zdq hd 3 rfl) rfl
         refine wp_load_mid 24 _ rfl _ (j * 64) e3 _ _ (((B1.zw hY)).sk (by omega)) Try.underlying24 rfl (by rw [zl]; exact Try.size24) ?_
         exact hK _ _ _ rfl ⟨hY, V.step 4 rfl⟩
       · have e0 := V.at (zdq hd 0 rfl) rfl
         have e1 := V.at (zdq hd 1 rfl) rfl
         have e4 := V.at (zdq hd 4 rfl) rfl
         go_wp2_with (go_at_call 39; refine (HRJ.out _).mono ?_; rintro e wy ⟨rfl, hy⟩)
         exact hK _ (.bool false) _ (by simp only [Act.put, pA, pB, pC, e0, e1, e4]) ⟨hY.trans (hy.mono hY.size), V.step 5 rfl⟩
       have e5 := V.at (zdq hd 5 rfl) rfl
       go_wp2_with fail
       exact hK _ (.bool true) _ (by simp only [Act.put, pA, pB, pC, e5]) ⟨hY, V.step 6 rfl⟩
     intro L v W2 hL ⟨hY, V⟩
     have e0 := V.at (hL 0 (by decide)) rfl
     have e1 := V.at (hL 1 (by decide)) rfl
     have e2 := V.at (hL 2 (by decide)) rfl
     have e3 := V.at (hL 3 (by decide)) rfl
     have e4 := V.at (hL 4 (by decide)) rfl
     have e5 := V.at (hL 5 (by decide)) rfl
     have e6 := V.at (hL 6 (by decide)) rfl
     clear hL V
     replace B0 := B0.zw hY
     replace B1 := B1.zw hY
     replace hb := hb.trans (hY.mono hb.size)
     clear hY
     simp only [Exit.then, e0, e1, e2, e3, e4, e5, e6]
     clear e0 e1 e2 e3 e4 e5 e6
     go_wp2_with fail
     go_ret
     exact ⟨by rw [HV.out]; rfl, hb⟩
    | true =>
     rw [hr] at HRJ
     have HA := Lib.hid (show ∀ i, i < j + 1 → rsB p m (F i) = true from fun i hi => by
      by_cases e : i = j
      · subst e; exact hr
      exact hall.out i (by omega))
     clear hr
     go_upto_region 4 with (fail)
     refine zq Try.mixed (by kernel_rfl) (by kernel_rfl) (fun v => by (simp only [frL, Act.put, pA, pB, pC, Nat.reduceAdd, Nat.zero_add]; exact rfl))
      (fun L v W2 => Below wr.heap.size wr W2 ∧ VF L v [some (.int .i64 p), some (.agg (zb 64 (m))), some (.int .i64 (j : Int)), some (.pointer (some ⟨w.heap.size + 1, j * 64, none⟩)), some (.agg (zb 64 (F j))), some (.bool true), some (.bool false)]) ?_ ?_ ?_
     · intro v hv0
       exact ⟨(Below.refl _ wr).drew, VF.start⟩
     · refine (.cons rfl ?_ (.cons rfl ?_ (.cons rfl ?_ (.cons rfl ?_ (.cons rfl ?_ (.cons rfl ?_ (.cons rfl ?_ (.nil _))))))))
       all_goals intro L v W2 hd hn ⟨hY, V⟩ K hK
       · go_wp2_with fail
         exact hK _ (.int .i64 p) _ (by simp only [Act.put, pA, pB, pC ]) ⟨hY, V.step 0 rfl⟩
       · refine zlc (B0.zw hY) Try.underlying24 Try.size24 ?_
         exact hK _ _ _ rfl ⟨hY, V.step 1 rfl⟩
       · go_wp2_with fail
         exact hK _ (.int .i64 (j : Int)) _ (by simp only [Act.put, pA, pB, pC ]) ⟨hY, V.step 2 rfl⟩
       · have e2 := V.at (zdq hd 2 rfl) rfl
         go_wp2_with fail
         exact hK _ (.pointer (some ⟨w.heap.size + 1, j * 64, none⟩)) _ (by simp only [Act.put, pA, pB, pC, e2]) ⟨hY, V.step 3 rfl⟩
       · have e3 := V.at (zdq hd 3 rfl) rfl
         refine wp_load_mid 24 _ rfl _ (j * 64) e3 _ _ (((B1.zw hY)).sk (by omega)) Try.underlying24 rfl (by rw [zl]; exact Try.size24) ?_
         exact hK _ _ _ rfl ⟨hY, V.step 4 rfl⟩
       · have e0 := V.at (zdq hd 0 rfl) rfl
         have e1 := V.at (zdq hd 1 rfl) rfl
         have e4 := V.at (zdq hd 4 rfl) rfl
         go_wp2_with (go_at_call 39; refine (HRJ.out _).mono ?_; rintro e wy ⟨rfl, hy⟩)
         exact hK _ (.bool true) _ (by simp only [Act.put, pA, pB, pC, e0, e1, e4]) ⟨hY.trans (hy.mono hY.size), V.step 5 rfl⟩
       have e5 := V.at (zdq hd 5 rfl) rfl
       go_wp2_with fail
       exact hK _ (.bool false) _ (by simp only [Act.put, pA, pB, pC, e5]) ⟨hY, V.step 6 rfl⟩
     intro L v W2 hL ⟨hY, V⟩
     have e0 := V.at (hL 0 (by decide)) rfl
     have e1 := V.at (hL 1 (by decide)) rfl
     have e2 := V.at (hL 2 (by decide)) rfl
     have e3 := V.at (hL 3 (by decide)) rfl
     have e4 := V.at (hL 4 (by decide)) rfl
     have e5 := V.at (hL 5 (by decide)) rfl
     have e6 := V.at (hL 6 (by decide)) rfl
     clear hL V
     replace B0 := B0.zw hY
     replace B1 := B1.zw hY
     replace hb := hb.trans (hY.mono hb.size)
     clear hY
     simp only [Exit.then, e0, e1, e2, e3, e4, e5, e6]
     clear e0 e1 e2 e3 e4 e5 e6
     go_wp2_with fail
     go_roundw
     case rel => exact ⟨j + 1, by go_num, by omega, HA, hb, B0, B1⟩
     case measure => simp [intOf] <;> omega
  have hjI : ¬ (j : Int) < 8 := by omega
  obtain rfl : j = 8 := by omega
  have HV := Lib.hid (HY.out hall.out)
  go_wp2_with fail
  go_ret
  exact ⟨by rw [HV.out]; rfl, hb⟩
theorem isSkew_any (p : Int) (m : Nat → Nat) (F : Nat → Nat → Nat) (hm : byte m) (hF : ∀ i, byte (F i)) (w : World) :
 Calls Try.prog 27 #[.agg (fdC p m).toArray, .agg (zb 512 (fl 64 F))] w fun e w' => e = .returned (.bool (skB p m F)) ∧ Below w.heap.size w w' := by
 have HR := Lib.hid (fun i W => isResidue_any p m (F i) hm (hF i) W)
 have HY := Lib.hid (fun h => skB_yes (p := p) (m := m) (F := F) h)
 have HN := Lib.hid (fun i (hi : i < 8) h => skB_no (p := p) (m := m) (F := F) hi h)
 go_enter Try.func27, Try.ntmps27
 go_upto_region 1 with (fail)
 obtain ⟨W1, hwo⟩ : ∃ v : World, v = ((w.alloc (.cells (fdC p m).toArray 38)).alloc (.cells (zb 512 (fl 64 F)) 26)) := ⟨_, rfl⟩
 have B0 : Row W1 (w.heap.size) 38 (fdC p m).toArray := by subst hwo; have := ((Row.new w 38 (fdC p m).toArray).alloc (.cells (zb 512 (fl 64 F)) 26)); simpa using this
 have B1 : Blk W1 (w.heap.size + 1) 512 26 (fl 64 F) := by subst hwo; have := (Blk.new (w.alloc (.cells (fdC p m).toArray 38)) 512 26 (fl 64 F)); simpa using this
 have hb : Below w.heap.size w W1 := by subst hwo; exact (((Below.refl _ _).alloc (Nat.le_refl _) _).alloc (by simp) _)
 rw [← hwo]
 clear hwo
 go_upto_region 2 with (first | (refine zla (.tmp 3) B1 Try.underlying26 Try.size26 ?_))
 go_loopw [8] (fun c wr => ∃ j : Nat, c = .int .i64 (j : Int) ∧ j ≤ 8 ∧ Hid (∀ i, i < j → rsB p m (F i) = true) ∧ Below w.heap.size w wr ∧ Row wr (w.heap.size) 38 (fdC p m).toArray ∧ Blk wr (w.heap.size + 1) 512 26 (fl 64 F)) (fun c _ => 8 - (intOf c).toNat)
 case atStart => exact ⟨0, rfl, by omega, Lib.hid (fun i hi => absurd hi (Nat.not_lt_zero i)), hb, B0, B1⟩
 case round =>
  clear hb B0 B1
  obtain ⟨j, rfl, hj8, hall, hb, B0, B1⟩ := hrel
  by_cases hj : j < 8
  · have hjI : (j : Int) < 8 := by omega
    have HRJ := Lib.hid (HR.out j)
    cases hr : rsB p m (F j) with
    | false =>
     rw [hr] at HRJ
     have HV := Lib.hid (HN.out j hj hr)
     clear hr
     have hix := run_index_sk (P := Try.prog) 26 24 F .i64 j _ Try.underlying26 Try.underlying24 rfl Try.size24 hj
     go_upto_region 3 with (fail)
     have lt_B0 := B0.lt
     have lt_B1 := B1.lt
     go_upto_region 4 with (first | rw [← z64] | (refine wpList_store_blk rfl 24 (.tmp 6) (.tmp 10) rfl _ 64 (F j) rfl rfl 24 _ ((Blk.new wr 64 24 (fun _ => 0))) Try.size24 ?_; try simp only [Act.put]))
     have lt_B0 := B0.lt
     have lt_B1 := B1.lt
     have lhb := hb.size
     obtain ⟨W2, hwo, hzQ⟩ : ∃ v : World, v = ((wr.alloc (.cells (zb 64 (fun _ => 0)) 24)).setRow (wr.heap.size) (zb 64 (F j))) ∧ Row v (w.heap.size) 38 (fdC p m).toArray ∧ Blk v (w.heap.size + 1) 512 26 (fl 64 F) ∧ Blk v (wr.heap.size) 64 24 (F j) ∧ Below w.heap.size w v := ⟨_, rfl, ((B0.alloc (.cells (zb 64 (fun _ => 0)) 24)).rowOther (by omega)), ((B1.alloc (.cells (zb 64 (fun _ => 0)) 24)).rowOther (by omega)), ((Blk.new wr 64 24 (fun _ => 0)).row (F j)), (zr (hb.alloc (by have := hb.size; simp; omega) (.cells (zb 64 (fun _ => 0)) 24)) (by omega) _)⟩
     rw [← hwo]
     clear hwo B0 B1 hb
     obtain ⟨B0, B1, B2, hb⟩ := hzQ
     obtain ⟨N1, hNN⟩ : ∃ n : Nat, n = wr.heap.size := ⟨_, rfl⟩
     rw [← hNN] at lt_B0 lt_B1 lhb B2 ⊢
     clear hNN
     have zN1_0 := lt_B0
     have zN1_1 := lt_B1
     have zN1 := lhb
     clear lt_B0 lt_B1 lhb
     try simp only [Act.put, pA, pB, pC]
     clear hix
     go_upto_region 5 with (first | (refine zlr rfl 38 (.tmp 2) rfl _ rfl 38 (fdC p m).toArray (B0) _ Try.underlying38 rfl 65 Try.size38 (by simp [fdC_len]) ?_) | (refine zla (.tmp 6) B2 Try.underlying24 Try.size24 ?_) | (go_at_call 49; refine (HRJ.out _).mono ?_; rintro e W3 ⟨rfl, hW3⟩; replace B0 := B0.zw hW3; replace B1 := B1.zw hW3; replace B2 := B2.zw hW3; replace hb := (hb).trans (hW3.mono (hb).size)))
     go_wp2_with fail
     go_ret
     exact ⟨by rw [HV.out]; rfl, hb⟩
    | true =>
     rw [hr] at HRJ
     have HA := Lib.hid (show ∀ i, i < j + 1 → rsB p m (F i) = true from fun i hi => by
      by_cases e : i = j
      · subst e; exact hr
      exact hall.out i (by omega))
     clear hr
     have hix := run_index_sk (P := Try.prog) 26 24 F .i64 j _ Try.underlying26 Try.underlying24 rfl Try.size24 hj
     go_upto_region 3 with (fail)
     have lt_B0 := B0.lt
     have lt_B1 := B1.lt
     go_upto_region 4 with (first | rw [← z64] | (refine wpList_store_blk rfl 24 (.tmp 6) (.tmp 10) rfl _ 64 (F j) rfl rfl 24 _ ((Blk.new wr 64 24 (fun _ => 0))) Try.size24 ?_; try simp only [Act.put]))
     have lt_B0 := B0.lt
     have lt_B1 := B1.lt
     have lhb := hb.size
     obtain ⟨W2, hwo, hzQ⟩ : ∃ v : World, v = ((wr.alloc (.cells (zb 64 (fun _ => 0)) 24)).setRow (wr.heap.size) (zb 64 (F j))) ∧ Row v (w.heap.size) 38 (fdC p m).toArray ∧ Blk v (w.heap.size + 1) 512 26 (fl 64 F) ∧ Blk v (wr.heap.size) 64 24 (F j) ∧ Below w.heap.size w v := ⟨_, rfl, ((B0.alloc (.cells (zb 64 (fun _ => 0)) 24)).rowOther (by omega)), ((B1.alloc (.cells (zb 64 (fun _ => 0)) 24)).rowOther (by omega)), ((Blk.new wr 64 24 (fun _ => 0)).row (F j)), (zr (hb.alloc (by have := hb.size; simp; omega) (.cells (zb 64 (fun _ => 0)) 24)) (by omega) _)⟩
     rw [← hwo]
     clear hwo B0 B1 hb
     obtain ⟨B0, B1, B2, hb⟩ := hzQ
     obtain ⟨N1, hNN⟩ : ∃ n : Nat, n = wr.heap.size := ⟨_, rfl⟩
     rw [← hNN] at lt_B0 lt_B1 lhb B2 ⊢
     clear hNN
     have zN1_0 := lt_B0
     have zN1_1 := lt_B1
     have zN1 := lhb
     clear lt_B0 lt_B1 lhb
     try simp only [Act.put, pA, pB, pC]
     clear hix
     go_upto_region 6 with (first | (refine zlr rfl 38 (.tmp 2) rfl _ rfl 38 (fdC p m).toArray (B0) _ Try.underlying38 rfl 65 Try.size38 (by simp [fdC_len]) ?_) | (refine zla (.tmp 6) B2 Try.underlying24 Try.size24 ?_) | (go_at_call 49; refine (HRJ.out _).mono ?_; rintro e W3 ⟨rfl, hW3⟩; replace B0 := B0.zw hW3; replace B1 := B1.zw hW3; replace B2 := B2.zw hW3; replace hb := (hb).trans (hW3.mono (hb).size)))
     go_wp2_with fail
     go_roundw
     case rel => exact ⟨j + 1, by go_num, by omega, HA, hb, B0, B1⟩
     case measure => simp [intOf] <;> omega
  have hjI : ¬ (j : Int) < 8 := by omega
  obtain rfl : j = 8 := by omega
  have HV := Lib.hid (HY.out hall.out)
  go_wp2_with fail
  go_ret
  exact ⟨by rw [HV.out]; rfl, hb⟩
theorem l03Code_any (p : Int) (m : Nat → Nat) (hm : byte m) (Fs : List (Nat → Nat → Nat)) (hF : ∀ F, F ∈ Fs → ∀ i, byte (F i)) (hlen : Fs.length ≤ 8) (bS : Nat) (w : World) (B0 : Row w bS 26 (skL Fs).toArray) :
 Calls Try.prog 9 #[.int .i64 p, .agg (zb 64 m), .slice (some ⟨bS, 0, none⟩) Fs.length Fs.length] w fun e w' => e = .returned (.int .i64 (ckS p m Fs)) ∧ Below w.heap.size w w' := by
 have HFL := Lib.hid (fun W => l03Field_any p m hm W)
 have HSK := Lib.hid (fun F (h : F ∈ Fs) W => l03Is_any p m F hm (hF F h) W)
 have HNO := Lib.hid (fun (j : Nat) F (hj : Fs[j]? = some F) h => ckS_no (p := p) (m := m) hj h)
 obtain ⟨NL, hNL⟩ : ∃ NL, NL = Fs.length := ⟨_, rfl⟩
 have HNL := Lib.hid hNL
 rw [← hNL] at hlen ⊢
 clear hF hNL
 have zx_0 := B0.lt
 go_enter Try.func9, Try.ntmps9
 go_upto_region 1 with (fail)
 obtain ⟨W1, hwo⟩ : ∃ v : World, v = (w.alloc (.cells (zb 64 (m)) 24)) := ⟨_, rfl⟩
 have B1 : Blk W1 (w.heap.size) 64 24 (m) := by subst hwo; have := (Blk.new w 64 24 (m)); simpa using this
 replace B0 : Row W1 (bS) 26 (skL Fs).toArray := by subst hwo; exact (B0.alloc (.cells (zb 64 (m)) 24))
 have hb : Below w.heap.size w W1 := by subst hwo; exact ((Below.refl _ _).alloc (Nat.le_refl _) _)
 rw [← hwo]
 clear hwo
 cases hf : flV p m with
 | false =>
  have HV := Lib.hid (ckS_f (p := p) (m := m) (Fs := Fs) hf)
  go_upto_region 2 with (first | (refine zla (.tmp 4) B1 Try.underlying24 Try.size24 ?_) | (go_at_call 18; refine (HFL.out _).mono ?_; rintro e W2 ⟨rfl, hW2⟩; replace B0 := B0.zw hW2; replace B1 := B1.zw hW2; replace hb := (hb).trans (hW2.mono (hb).size); rw [hf]))
  go_wp2_with fail
  go_ret
  exact ⟨by rw [HV.out]; rfl, hb⟩
 | true =>
  have HYES := Lib.hid (fun h => ckS_yes (p := p) (m := m) (Fs := Fs) hf h)
  go_upto_region 3 with (first | (refine zla (.tmp 4) B1 Try.underlying24 Try.size24 ?_) | (go_at_call 18; refine (HFL.out _).mono ?_; rintro e W2 ⟨rfl, hW2⟩; replace B0 := B0.zw hW2; replace B1 := B1.zw hW2; replace hb := (hb).trans (hW2.mono (hb).size); rw [hf]))
  clear hf HFL
  go_wp2_with fail
  go_loopw [7] (fun c wr => ∃ j : Nat, c = .int .i64 (j : Int) ∧ j ≤ NL ∧ Hid (∀ (i : Nat) (F : Nat → Nat → Nat), i < j → Fs[i]? = some F → skB p m F = true) ∧ Below w.heap.size w wr ∧ Row wr (bS) 26 (skL Fs).toArray ∧ Blk wr (w.heap.size) 64 24 m) (fun c _ => NL - (intOf c).toNat)
  case atStart => exact ⟨0, rfl, Nat.zero_le _, Lib.hid (fun i F hi => absurd hi (Nat.not_lt_zero i)), hb, B0, B1⟩
  case round =>
   clear hb B0 B1
   obtain ⟨j, rfl, hjn, hall, hb, B0, B1⟩ := hrel
   by_cases hj : j < NL
   · have hjI : (j : Int) < (NL : Int) := by omega
     have hj' : j < Fs.length := by rw [← HNL.out]; exact hj
     obtain ⟨F, hF⟩ : ∃ F, Fs[j]? = some F := ⟨_, List.getElem?_eq_getElem hj'⟩
     have HFJ := Lib.hid hF
     have HSF := Lib.hid (HSK.out F (List.mem_of_getElem? hF))
     clear hF hj'
     cases hr : skB p m F with
     | false =>
      rw [hr] at HSF
      have HV := Lib.hid (HNO.out j F HFJ.out hr)
      clear hr
      go_upto_region 6 with (fail)
      refine zq Try.mixed (by kernel_rfl) (by kernel_rfl) (fun v => by (simp only [frL, Act.put, pA, pB, pC, Nat.reduceAdd, Nat.zero_add]; exact rfl))
       (fun L v W3 => Below wr.heap.size wr W3 ∧ VF L v [some (.int .i64 p), some (.agg (zb 64 (m))), some (.slice (some ⟨bS, 0, none⟩) NL NL), some (.int .i64 (j : Int)), some (.pointer (some ⟨bS, j * 512, none⟩)), some (.agg (zb 512 (fl 64 F))), some (.bool false), some (.bool true)]) ?_ ?_ ?_
      · intro v hv0
        exact ⟨(Below.refl _ wr).drew, VF.start⟩
      · refine (.cons rfl ?_ (.cons rfl ?_ (.cons rfl ?_ (.cons rfl ?_ (.cons rfl ?_ (.cons rfl ?_ (.cons rfl ?_ (.cons rfl ?_ (.nil _)))))))))
        all_goals intro L v W3 hd hn ⟨hY, V⟩ K hK
        · go_wp2_with fail
          exact hK _ (.int .i64 p) _ (by simp only [Act.put, pA, pB, pC ]) ⟨hY, V.step 0 rfl⟩
        · refine zlc (B1.zw hY) Try.underlying24 Try.size24 ?_
          exact hK _ _ _ rfl ⟨hY, V.step 1 rfl⟩
        · go_wp2_with fail
          exact hK _ (.slice (some ⟨bS, 0, none⟩) NL NL) _ (by simp only [Act.put, pA, pB, pC ]) ⟨hY, V.step 2 rfl⟩
        · go_wp2_with fail
          exact hK _ (.int .i64 (j : Int)) _ (by simp only [Act.put, pA, pB, pC ]) ⟨hY, V.step 3 rfl⟩
        · have e2 := V.at (zdq hd 2 rfl) rfl
          have e3 := V.at (zdq hd 3 rfl) rfl
          go_wp2_with fail
          exact hK _ (.pointer (some ⟨bS, j * 512, none⟩)) _ (by simp only [Act.put, pA, pB, pC, e2, e3]) ⟨hY, V.step 4 rfl⟩
        · have e4 := V.at (zdq hd 4 rfl) rfl
          refine wp_load_mid 26 _ rfl _ (j * 512) e4 _ _ ((B0.zw hY).skAt HFJ.out) Try.underlying26 rfl (by rw [zl]; exact Try.size26) ?_
          exact hK _ _ _ rfl ⟨hY, V.step 5 rfl⟩
        · have e0 := V.at (zdq hd 0 rfl) rfl
          have e1 := V.at (zdq hd 1 rfl) rfl
          have e5 := V.at (zdq hd 5 rfl) rfl
          go_wp2_with (go_at_call 19; refine (HSF.out _).mono ?_; rintro e wy ⟨rfl, hy⟩)
          exact hK _ (.bool false) _ (by simp only [Act.put, pA, pB, pC, e0, e1, e5]) ⟨hY.trans (hy.mono hY.size), V.step 6 rfl⟩
        have e6 := V.at (zdq hd 6 rfl) rfl
        go_wp2_with fail
        exact hK _ (.bool true) _ (by simp only [Act.put, pA, pB, pC, e6]) ⟨hY, V.step 7 rfl⟩
      intro L v W3 hL ⟨hY, V⟩
      have e0 := V.at (hL 0 (by decide)) rfl
      have e1 := V.at (hL 1 (by decide)) rfl
      have e2 := V.at (hL 2 (by decide)) rfl
      have e3 := V.at (hL 3 (by decide)) rfl
      have e4 := V.at (hL 4 (by decide)) rfl
      have e5 := V.at (hL 5 (by decide)) rfl
      have e6 := V.at (hL 6 (by decide)) rfl
      have e7 := V.at (hL 7 (by decide)) rfl
      clear hL V
      replace B0 := B0.zw hY
      replace B1 := B1.zw hY
      replace hb := hb.trans (hY.mono hb.size)
      clear hY
      simp only [Exit.then, e0, e1, e2, e3, e4, e5, e6, e7]
      clear e0 e1 e2 e3 e4 e5 e6 e7
      go_wp2_with fail
      go_ret
      exact ⟨by rw [HV.out]; rfl, hb⟩
     | true =>
      rw [hr] at HSF
      have HA := Lib.hid (show ∀ (i : Nat) (G : Nat → Nat → Nat), i < j + 1 → Fs[i]? = some G → skB p m G = true from fun i G hi hG => by
       by_cases e : i = j
       · subst e; rw [HFJ.out] at hG; injection hG with hG; subst hG; exact hr
       exact hall.out i G (by omega) hG)
      clear hr
      go_upto_region 6 with (fail)
      refine zq Try.mixed (by kernel_rfl) (by kernel_rfl) (fun v => by (simp only [frL, Act.put, pA, pB, pC, Nat.reduceAdd, Nat.zero_add]; exact rfl))
       (fun L v W3 => Below wr.heap.size wr W3 ∧ VF L v [some (.int .i64 p), some (.agg (zb 64 (m))), some (.slice (some ⟨bS, 0, none⟩) NL NL), some (.int .i64 (j : Int)), some (.pointer (some ⟨bS, j * 512, none⟩)), some (.agg (zb 512 (fl 64 F))), some (.bool true), some (.bool false)]) ?_ ?_ ?_
      · intro v hv0
        exact ⟨(Below.refl _ wr).drew, VF.start⟩
      · refine (.cons rfl ?_ (.cons rfl ?_ (.cons rfl ?_ (.cons rfl ?_ (.cons rfl ?_ (.cons rfl ?_ (.cons rfl ?_ (.cons rfl ?_ (.nil _)))))))))
        all_goals intro L v W3 hd hn ⟨hY, V⟩ K hK
        · go_wp2_with fail
          exact hK _ (.int .i64 p) _ (by simp only [Act.put, pA, pB, pC ]) ⟨hY, V.step 0 rfl⟩
        · refine zlc (B1.zw hY) Try.underlying24 Try.size24 ?_
          exact hK _ _ _ rfl ⟨hY, V.step 1 rfl⟩
        · go_wp2_with fail
          exact hK _ (.slice (some ⟨bS, 0, none⟩) NL NL) _ (by simp only [Act.put, pA, pB, pC ]) ⟨hY, V.step 2 rfl⟩
        · go_wp2_with fail
          exact hK _ (.int .i64 (j : Int)) _ (by simp only [Act.put, pA, pB, pC ]) ⟨hY, V.step 3 rfl⟩
        · have e2 := V.at (zdq hd 2 rfl) rfl
          have e3 := V.at (zdq hd 3 rfl) rfl
          go_wp2_with fail
          exact hK _ (.pointer (some ⟨bS, j * 512, none⟩)) _ (by simp only [Act.put, pA, pB, pC, e2, e3]) ⟨hY, V.step 4 rfl⟩
        · have e4 := V.at (zdq hd 4 rfl) rfl
          refine wp_load_mid 26 _ rfl _ (j * 512) e4 _ _ ((B0.zw hY).skAt HFJ.out) Try.underlying26 rfl (by rw [zl]; exact Try.size26) ?_
          exact hK _ _ _ rfl ⟨hY, V.step 5 rfl⟩
        · have e0 := V.at (zdq hd 0 rfl) rfl
          have e1 := V.at (zdq hd 1 rfl) rfl
          have e5 := V.at (zdq hd 5 rfl) rfl
          go_wp2_with (go_at_call 19; refine (HSF.out _).mono ?_; rintro e wy ⟨rfl, hy⟩)
          exact hK _ (.bool true) _ (by simp only [Act.put, pA, pB, pC, e0, e1, e5]) ⟨hY.trans (hy.mono hY.size), V.step 6 rfl⟩
        have e6 := V.at (zdq hd 6 rfl) rfl
        go_wp2_with fail
        exact hK _ (.bool false) _ (by simp only [Act.put, pA, pB, pC, e6]) ⟨hY, V.step 7 rfl⟩
      intro L v W3 hL ⟨hY, V⟩
      have e0 := V.at (hL 0 (by decide)) rfl
      have e1 := V.at (hL 1 (by decide)) rfl
      have e2 := V.at (hL 2 (by decide)) rfl
      have e3 := V.at (hL 3 (by decide)) rfl
      have e4 := V.at (hL 4 (by decide)) rfl
      have e5 := V.at (hL 5 (by decide)) rfl
      have e6 := V.at (hL 6 (by decide)) rfl
      have e7 := V.at (hL 7 (by decide)) rfl
      clear hL V
      replace B0 := B0.zw hY
      replace B1 := B1.zw hY
      replace hb := hb.trans (hY.mono hb.size)
      clear hY
      simp only [Exit.then, e0, e1, e2, e3, e4, e5, e6, e7]
      clear e0 e1 e2 e3 e4 e5 e6 e7
      go_wp2_with fail
      go_roundw
      case rel => exact ⟨j + 1, by go_num, by omega, HA, hb, B0, B1⟩
      case measure => simp [intOf] <;> omega
   have hjI : ¬ (j : Int) < (NL : Int) := by omega
   have HV := Lib.hid (HYES.out (fun i F hF => hall.out i F (by have := (List.getElem?_eq_some_iff.1 hF).1; have := HNL.out; omega) hF))
   go_wp2_with fail
   go_ret
   exact ⟨by rw [HV.out]; rfl, hb⟩
theorem checkSkews_any (p : Int) (m : Nat → Nat) (hm : byte m) (Fs : List (Nat → Nat → Nat)) (hF : ∀ F, F ∈ Fs → ∀ i, byte (F i)) (hlen : Fs.length ≤ 8) (bS : Nat) (w : World) (B0 : Row w bS 26 (skL Fs).toArray) :
 Calls Try.prog 12 #[.int .i64 p, .agg (zb 64 m), .slice (some ⟨bS, 0, none⟩) Fs.length Fs.length] w fun e w' => e = .returned (.int .i64 (ckS p m Fs)) ∧ Below w.heap.size w w' := by
 have HFL := Lib.hid (fun W => impl_IsField_any p m hm W)
 have HSK := Lib.hid (fun F (h : F ∈ Fs) W => isSkew_any p m F hm (hF F h) W)
 have HNO := Lib.hid (fun (j : Nat) F (hj : Fs[j]? = some F) h => ckS_no (p := p) (m := m) hj h)
 obtain ⟨NL, hNL⟩ : ∃ NL, NL = Fs.length := ⟨_, rfl⟩
 have HNL := Lib.hid hNL
 rw [← hNL] at hlen ⊢
 clear hF hNL
 have zx_0 := B0.lt
 go_enter Try.func12, Try.ntmps12
 go_upto_region 1 with (fail)
 obtain ⟨W1, hwo⟩ : ∃ v : World, v = (w.alloc (.cells (zb 64 (m)) 24)) := ⟨_, rfl⟩
 have B1 : Blk W1 (w.heap.size) 64 24 (m) := by subst hwo; have := (Blk.new w 64 24 (m)); simpa using this
 replace B0 : Row W1 (bS) 26 (skL Fs).toArray := by subst hwo; exact (B0.alloc (.cells (zb 64 (m)) 24))
 have hb : Below w.heap.size w W1 := by subst hwo; exact ((Below.refl _ _).alloc (Nat.le_refl _) _)
 rw [← hwo]
 clear hwo
 cases hf : flV p m with
 | false =>
  have HV := Lib.hid (ckS_f (p := p) (m := m) (Fs := Fs) hf)
  have lt_B0 := B0.lt
  have lt_B1 := B1.lt
  go_upto_region 2 with (first | rw [← z64] | rw [← fdC_zero] | (refine zla (.tmp 4) B1 Try.underlying24 Try.size24 ?_) | (refine zbo rfl 38 _ rfl (fdC p m).toArray (by rw [Array.toList_map]; exact built_fd p m) ?_) | (refine wpList_store_rowv rfl 38 (.tmp 7) (.tmp 12) rfl _ rfl (fdC p m).toArray rfl 38 _ ((Row.new W1 38 (fdC 0 (fun _ => 0)).toArray)) 65 Try.size38 (by simp [fdC_len]) (by simp [fdC_len]) (fdC_all _ _) ?_; try simp only [Act.put]))
  have lt_B0 := B0.lt
  have lt_B1 := B1.lt
  have lhb := hb.size
  obtain ⟨W2, hwo, hzQ⟩ : ∃ v : World, v = ((W1.alloc (.cells (fdC 0 (fun _ => 0)).toArray 38)).setRow (W1.heap.size) (fdC p m).toArray) ∧ Row v (bS) 26 (skL Fs).toArray ∧ Blk v (w.heap.size) 64 24 (m) ∧ Row v (W1.heap.size) 38 (fdC p m).toArray ∧ Below w.heap.size w v := ⟨_, rfl, ((B0.alloc (.cells (fdC 0 (fun _ => 0)).toArray 38)).rowOther (by omega)), ((B1.alloc (.cells (fdC 0 (fun _ => 0)).toArray 38)).rowOther (by omega)), ((Row.new W1 38 (fdC 0 (fun _ => 0)).toArray).row (fdC p m).toArray), (zr (hb.alloc (by have := hb.size; simp; omega) (.cells (fdC 0 (fun _ => 0)).toArray 38)) (by omega) _)⟩
  rw [← hwo]
  clear hwo B0 B1 hb
  obtain ⟨B0, B1, B2, hb⟩ := hzQ
  obtain ⟨N1, hNN⟩ : ∃ n : Nat, n = W1.heap.size := ⟨_, rfl⟩
  rw [← hNN] at lt_B0 lt_B1 lhb B2 ⊢
  clear hNN
  have zN1_0 := lt_B0
  have zN1_1 := lt_B1
  have zN1 := lhb
  clear lt_B0 lt_B1 lhb
  try simp only [Act.put, pA, pB, pC]
  go_upto_region 3 with (first | (refine zla (.tmp 4) B1 Try.underlying24 Try.size24 ?_) | (go_at_call 26; refine (HFL.out _).mono ?_; rintro e W3 ⟨rfl, hW3⟩; replace B0 := B0.zw hW3; replace B1 := B1.zw hW3; replace B2 := B2.zw hW3; replace hb := (hb).trans (hW3.mono (hb).size); rw [hf]))
  go_wp2_with fail
  go_ret
  exact ⟨by rw [HV.out]; rfl, hb⟩
 | true =>
  have HYES := Lib.hid (fun h => ckS_yes (p := p) (m := m) (Fs := Fs) hf h)
  have lt_B0 := B0.lt
  have lt_B1 := B1.lt
  go_upto_region 2 with (first | rw [← z64] | rw [← fdC_zero] | (refine zla (.tmp 4) B1 Try.underlying24 Try.size24 ?_) | (refine zbo rfl 38 _ rfl (fdC p m).toArray (by rw [Array.toList_map]; exact built_fd p m) ?_) | (refine wpList_store_rowv rfl 38 (.tmp 7) (.tmp 12) rfl _ rfl (fdC p m).toArray rfl 38 _ ((Row.new W1 38 (fdC 0 (fun _ => 0)).toArray)) 65 Try.size38 (by simp [fdC_len]) (by simp [fdC_len]) (fdC_all _ _) ?_; try simp only [Act.put]))
  have lt_B0 := B0.lt
  have lt_B1 := B1.lt
  have lhb := hb.size
  obtain ⟨W2, hwo, hzQ⟩ : ∃ v : World, v = ((W1.alloc (.cells (fdC 0 (fun _ => 0)).toArray 38)).setRow (W1.heap.size) (fdC p m).toArray) ∧ Row v (bS) 26 (skL Fs).toArray ∧ Blk v (w.heap.size) 64 24 (m) ∧ Row v (W1.heap.size) 38 (fdC p m).toArray ∧ Below w.heap.size w v := ⟨_, rfl, ((B0.alloc (.cells (fdC 0 (fun _ => 0)).toArray 38)).rowOther (by omega)), ((B1.alloc (.cells (fdC 0 (fun _ => 0)).toArray 38)).rowOther (by omega)), ((Row.new W1 38 (fdC 0 (fun _ => 0)).toArray).row (fdC p m).toArray), (zr (hb.alloc (by have := hb.size; simp; omega) (.cells (fdC 0 (fun _ => 0)).toArray 38)) (by omega) _)⟩
  rw [← hwo]
  clear hwo B0 B1 hb
  obtain ⟨B0, B1, B2, hb⟩ := hzQ
  obtain ⟨N1, hNN⟩ : ∃ n : Nat, n = W1.heap.size := ⟨_, rfl⟩
  rw [← hNN] at lt_B0 lt_B1 lhb B2 ⊢
  clear hNN
  have zN1_0 := lt_B0
  have zN1_1 := lt_B1
  have zN1 := lhb
  clear lt_B0 lt_B1 lhb
  try simp only [Act.put, pA, pB, pC]
  go_upto_region 4 with (first | (refine zla (.tmp 4) B1 Try.underlying24 Try.size24 ?_) | (go_at_call 26; refine (HFL.out _).mono ?_; rintro e W3 ⟨rfl, hW3⟩; replace B0 := B0.zw hW3; replace B1 := B1.zw hW3; replace B2 := B2.zw hW3; replace hb := (hb).trans (hW3.mono (hb).size); rw [hf]))
  clear hf HFL
  go_wp2_with fail
  go_loopw [19] (fun c wr => ∃ j : Nat, c = .int .i64 (j : Int) ∧ j ≤ NL ∧ Hid (∀ (i : Nat) (F : Nat → Nat → Nat), i < j → Fs[i]? = some F → skB p m F = true) ∧ Below w.heap.size w wr ∧ Row wr (bS) 26 (skL Fs).toArray ∧ Blk wr (w.heap.size) 64 24 m ∧ Row wr (N1) 38 (fdC p m).toArray) (fun c _ => NL - (intOf c).toNat)
  case atStart => exact ⟨0, rfl, Nat.zero_le _, Lib.hid (fun i F hi => absurd hi (Nat.not_lt_zero i)), hb, B0, B1, B2⟩
  case round =>
   clear hb B0 B1 B2
   obtain ⟨j, rfl, hjn, hall, hb, B0, B1, B2⟩ := hrel
   by_cases hj : j < NL
   · have hjI : (j : Int) < (NL : Int) := by omega
     have hj' : j < Fs.length := by rw [← HNL.out]; exact hj
     obtain ⟨F, hF⟩ : ∃ F, Fs[j]? = some F := ⟨_, List.getElem?_eq_getElem hj'⟩
     have HFJ := Lib.hid hF
     have HSF := Lib.hid (HSK.out F (List.mem_of_getElem? hF))
     clear hF hj'
     cases hr : skB p m F with
     | false =>
      rw [hr] at HSF
      have HV := Lib.hid (HNO.out j F HFJ.out hr)
      clear hr
      go_upto_region 6 with (fail)
      have lt_B0 := B0.lt
      have lt_B1 := B1.lt
      have lt_B2 := B2.lt
      go_upto_region 7 with (first | rw [← z64] | rw [← zero512] | (refine wpList_load_mid rfl 26 (.tmp 21) rfl _ (j * 512) rfl (bl 512 (fl 64 F)) _ (B0.skAt HFJ.out) Try.underlying26 rfl (by rw [zl]; exact Try.size26) ?_) | (refine wpList_store_blk rfl 26 (.tmp 9) (.tmp 22) rfl _ 512 (fl 64 F) rfl rfl 26 _ ((Blk.new wr 512 26 (fl 64 (fun _ _ => 0)))) Try.size26 ?_; try simp only [Act.put]))
      have lt_B0 := B0.lt
      have lt_B1 := B1.lt
      have lt_B2 := B2.lt
      have lhb := hb.size
      obtain ⟨W4, hwo, hzQ⟩ : ∃ v : World, v = ((wr.alloc (.cells (zb 512 (fl 64 (fun _ _ => 0))) 26)).setRow (wr.heap.size) (zb 512 (fl 64 F))) ∧ Row v (bS) 26 (skL Fs).toArray ∧ Blk v (w.heap.size) 64 24 (m) ∧ Row v (N1) 38 (fdC p m).toArray ∧ Blk v (wr.heap.size) 512 26 (fl 64 F) ∧ Below w.heap.size w v := ⟨_, rfl, ((B0.alloc (.cells (zb 512 (fl 64 (fun _ _ => 0))) 26)).rowOther (by omega)), ((B1.alloc (.cells (zb 512 (fl 64 (fun _ _ => 0))) 26)).rowOther (by omega)), ((B2.alloc (.cells (zb 512 (fl 64 (fun _ _ => 0))) 26)).rowOther (by omega)), ((Blk.new wr 512 26 (fl 64 (fun _ _ => 0))).row (fl 64 F)), (zr (hb.alloc (by have := hb.size; simp; omega) (.cells (zb 512 (fl 64 (fun _ _ => 0))) 26)) (by omega) _)⟩
      rw [← hwo]
      clear hwo B0 B1 B2 hb
      obtain ⟨B0, B1, B2, B3, hb⟩ := hzQ
      obtain ⟨N2, hNN⟩ : ∃ n : Nat, n = wr.heap.size := ⟨_, rfl⟩
      rw [← hNN] at lt_B0 lt_B1 lt_B2 lhb B3 ⊢
      clear hNN
      have zN2_0 := lt_B0
      have zN2_1 := lt_B1
      have zN2_2 := lt_B2
      have zN2 := lhb
      clear lt_B0 lt_B1 lt_B2 lhb
      try simp only [Act.put, pA, pB, pC]
      go_upto_region 8 with (first | (refine zlr rfl 38 (.tmp 7) rfl _ rfl 38 (fdC p m).toArray (B2) _ Try.underlying38 rfl 65 Try.size38 (by simp [fdC_len]) ?_) | (refine zla (.tmp 9) B3 Try.underlying26 Try.size26 ?_) | (go_at_call 27; refine (HSF.out _).mono ?_; rintro e W5 ⟨rfl, hW5⟩; replace B0 := B0.zw hW5; replace B1 := B1.zw hW5; replace B2 := B2.zw hW5; replace B3 := B3.zw hW5; replace hb := (hb).trans (hW5.mono (hb).size)))
      go_wp2_with fail
      go_ret
      exact ⟨by rw [HV.out]; rfl, hb⟩
     | true =>
      rw [hr] at HSF
      have HA := Lib.hid (show ∀ (i : Nat) (G : Nat → Nat → Nat), i < j + 1 → Fs[i]? = some G → skB p m G = true from fun i G hi hG => by
       by_cases e : i = j
       · subst e; rw [HFJ.out] at hG; injection hG with hG; subst hG; exact hr
       exact hall.out i G (by omega) hG)
      clear hr
      go_upto_region 6 with (fail)
      have lt_B0 := B0.lt
      have lt_B1 := B1.lt
      have lt_B2 := B2.lt
      go_upto_region 7 with (first | rw [← z64] | rw [← zero512] | (refine wpList_load_mid rfl 26 (.tmp 21) rfl _ (j * 512) rfl (bl 512 (fl 64 F)) _ (B0.skAt HFJ.out) Try.underlying26 rfl (by rw [zl]; exact Try.size26) ?_) | (refine wpList_store_blk rfl 26 (.tmp 9) (.tmp 22) rfl _ 512 (fl 64 F) rfl rfl 26 _ ((Blk.new wr 512 26 (fl 64 (fun _ _ => 0)))) Try.size26 ?_; try simp only [Act.put]))
      have lt_B0 := B0.lt
      have lt_B1 := B1.lt
      have lt_B2 := B2.lt
      have lhb := hb.size
      obtain ⟨W4, hwo, hzQ⟩ : ∃ v : World, v = ((wr.alloc (.cells (zb 512 (fl 64 (fun _ _ => 0))) 26)).setRow (wr.heap.size) (zb 512 (fl 64 F))) ∧ Row v (bS) 26 (skL Fs).toArray ∧ Blk v (w.heap.size) 64 24 (m) ∧ Row v (N1) 38 (fdC p m).toArray ∧ Blk v (wr.heap.size) 512 26 (fl 64 F) ∧ Below w.heap.size w v := ⟨_, rfl, ((B0.alloc (.cells (zb 512 (fl 64 (fun _ _ => 0))) 26)).rowOther (by omega)), ((B1.alloc (.cells (zb 512 (fl 64 (fun _ _ => 0))) 26)).rowOther (by omega)), ((B2.alloc (.cells (zb 512 (fl 64 (fun _ _ => 0))) 26)).rowOther (by omega)), ((Blk.new wr 512 26 (fl 64 (fun _ _ => 0))).row (fl 64 F)), (zr (hb.alloc (by have := hb.size; simp; omega) (.cells (zb 512 (fl 64 (fun _ _ => 0))) 26)) (by omega) _)⟩
      rw [← hwo]
      clear hwo B0 B1 B2 hb
      obtain ⟨B0, B1, B2, B3, hb⟩ := hzQ
      obtain ⟨N2, hNN⟩ : ∃ n : Nat, n = wr.heap.size := ⟨_, rfl⟩
      rw [← hNN] at lt_B0 lt_B1 lt_B2 lhb B3 ⊢
      clear hNN
      have zN2_0 := lt_B0
      have zN2_1 := lt_B1
      have zN2_2 := lt_B2
      have zN2 := lhb
      clear lt_B0 lt_B1 lt_B2 lhb
      try simp only [Act.put, pA, pB, pC]
      go_upto_region 9 with (first | (refine zlr rfl 38 (.tmp 7) rfl _ rfl 38 (fdC p m).toArray (B2) _ Try.underlying38 rfl 65 Try.size38 (by simp [fdC_len]) ?_) | (refine zla (.tmp 9) B3 Try.underlying26 Try.size26 ?_) | (go_at_call 27; refine (HSF.out _).mono ?_; rintro e W5 ⟨rfl, hW5⟩; replace B0 := B0.zw hW5; replace B1 := B1.zw hW5; replace B2 := B2.zw hW5; replace B3 := B3.zw hW5; replace hb := (hb).trans (hW5.mono (hb).size)))
      go_wp2_with fail
      go_roundw
      case rel => exact ⟨j + 1, by go_num, by omega, HA, hb, B0, B1, B2⟩
      case measure => simp [intOf] <;> omega
   have hjI : ¬ (j : Int) < (NL : Int) := by omega
   have HV := Lib.hid (HYES.out (fun i F hF => hall.out i F (by have := (List.getElem?_eq_some_iff.1 hF).1; have := HNL.out; omega) hF))
   go_wp2_with fail
   go_ret
   exact ⟨by rw [HV.out]; rfl, hb⟩
end Go.Proofs.Ytoncepgcfifgbab
namespace Go.Proofs.Ytoncepgcfifgbab
open Go Go.RowKit
attribute [local irreducible] deg addK okA flV skA
theorem ckS_fld {p : Int} {m : Nat → Nat} {Fs : List (Nat → Nat → Nat)} (h : ckS p m Fs = 0) : ∃ n : Nat, p = (n : Int) ∧ (n = 2 ∨ n = 3 ∨ n = 5 ∨ n = 7) ∧ (∀ k, k < 64 → m k < n) ∧ (∃ d, mon m d ∧ 1 ≤ d ∧ d ≤ 4) ∧ ∀ F, F ∈ Fs → ∀ i, i < 8 → (∀ j, j < 64 → F i j < n) ∧ deg (F i) < deg m := by
 obtain ⟨h1, h2⟩ := ckS_zero h
 have ho : okA p m = true := by
  cases ho : okA p m with
  | true => rfl
  | false => rw [flV_1 ho] at h1; cases h1
 have hm : monUp 4 m = true := by
  cases hm : monUp 4 m with
  | true => rfl
  | false => rw [flV_2 hm] at h1; cases h1
 obtain ⟨n, hn, hpr, hl⟩ := okA_nat ho
 obtain ⟨d, a1, a2, a3⟩ := mon_up hm
 refine ⟨n, hn, hpr, hl, ⟨d, a1, a2, by omega⟩, fun F hF i hi => ?_⟩
 have h3 := skB_at (h2 F hF) hi
 by_cases ho2 : okA p (F i) = true
 · refine ⟨fun j hj => ?_, ?_⟩
   · have := okA_lt ho2 hj; omega
   by_cases hd : deg (F i) < deg m
   · exact hd
   rw [rsB_3 ho2 hd] at h3; cases h3
 rw [rsB_1 (by simpa using ho2)] at h3; cases h3
end Go.Proofs.Ytoncepgcfifgbab
namespace Go.Proofs.Ytoncepgcfifgbab
open Rg
def rsd (p : Nat) (m x : Nat → Nat) : Prop := (∀ k, k < 64 → x k < p) ∧ deg x < deg m
def frI (p : Nat) (m x : Nat → Nat) : Nat → Nat := resP p (strP p x) m
def frN (p : Nat) (m x : Nat → Nat) : Nat → (Nat → Nat)
 | 0 => x
 | n + 1 => frI p m (frN p m x n)
theorem frN_z (p : Nat) (m x : Nat → Nat) : frN p m x 0 = x := rfl
theorem frN_s (p : Nat) (m x : Nat → Nat) (n : Nat) : frN p m x (n + 1) = frI p m (frN p m x n) := rfl
theorem rsd_eq {p : Nat} {m x y : Nat → Nat} (hp : p = 2 ∨ p = 3 ∨ p = 5 ∨ p = 7) (lm : ∀ k, k < 64 → m k < p) (h0 : 0 ≤ deg m) (hx : rsd p m x) (hy : rsd p m y) (h : (rs x : Res p (lz m)) = rs y) : ∀ k, k < 64 → x k = y k :=
 res_sameN hp hx.1 hy.1 lm h0 hx.2 hy.2 (cl_eq.1 h)
section
variable {p : Nat} {m : Nat → Nat} (hp : p = 2 ∨ p = 3 ∨ p = 5 ∨ p = 7) (lm : ∀ k, k < 64 → m k < p) (h0 : 0 ≤ deg m) (h9 : deg m ≤ 9)
include hp lm h0 h9
theorem frI_ok {x : Nat → Nat} (h : rsd p m x) : rsd p m (frI p m x) ∧ (rs (frI p m x) : Res p (lz m)) = pw (rs x) p := by
 have p0 : 0 < p := by omega
 have hd : deg x * (p : Int) ≤ 63 := by
  have := h.2
  rcases hp with rfl | rfl | rfl | rfl <;> omega
 have hl := strP_lt (q := p) p0 (by omega) h.1
 unfold frI
 exact ⟨⟨resP_lt p0 hl, (resP_deg hp hl lm h0).1⟩, by rw [rs_res hp hl lm h0, rs_str hp hd]⟩
theorem frN_ok {x : Nat → Nat} (h : rsd p m x) : ∀ n, rsd p m (frN p m x n) ∧ (rs (frN p m x n) : Res p (lz m)) = fr' p n (rs x)
 | 0 => ⟨h, (fr_z p _).symm⟩
 | n + 1 => by
  obtain ⟨a, b⟩ := frN_ok h n
  obtain ⟨c, e⟩ := frI_ok hp lm h0 h9 a
  rw [frN_s]
  exact ⟨c, by rw [e, b, fr_s]⟩
theorem frI_pm {x : Nat → Nat} (h : rsd p m x) : ∀ k, k < 64 → pmP p x p m k = frI p m x k := by
 obtain ⟨a, b⟩ := frI_ok hp lm h0 h9 h
 obtain ⟨c, e, _⟩ := pmP_spec (k := p) hp h.1 lm h0 (by omega)
 exact rsd_eq hp lm h0 ⟨c, e⟩ a (by rw [b, rs_pm hp h.1 lm h0 (by omega)])
theorem frN_d {x : Nat → Nat} {d : Nat} (hi : irr p (cut m) d) (h : rsd p m x) : ∀ k, k < 64 → frN p m x d k = x k := by
 obtain ⟨a, b⟩ := frN_ok hp lm h0 h9 h d
 refine rsd_eq hp lm h0 a h ?_
 have e1 : lz (cut m) = lz m := by funext k; unfold lz; rw [cut_cut]
 have h1 := (irr_T hp hi).1
 rw [e1] at h1
 have ht : fr' p d (tt : Res p (lz m)) = tt := by
  unfold fr'
  show pw (cl TS fin_TS : Res p (lz m)) (p ^ d) = cl TS fin_TS
  rw [pw_cl]
  exact cl_eq.2 h1
 rw [b, rs_list x, fr_pe hp res_char, ht]
end
end Go.Proofs.Ytoncepgcfifgbab
namespace Go.Proofs.Ytoncepgcfifgbab
open Go Go.RowKit
attribute [local irreducible] deg addK strP frI frN mmP pmP resP
theorem kproduct_any (p : Nat) (m f g : Nat → Nat) (w : World) (hpr : p = 2 ∨ p = 3 ∨ p = 5 ∨ p = 7) (lm : ∀ k, k < 64 → m k < p) (h0 : 0 ≤ deg m) (lf : ∀ k, k < 64 → f k < p) (lg : ∀ k, k < 64 → g k < p) :
 Calls Try.prog 55 #[.agg (fdC (p : Int) m).toArray, .agg (zb 64 f), .agg (zb 64 g)] w fun e w' => e = .returned (.agg (zb 64 (mmP p f g m))) ∧ Below w.heap.size w w' := by
 have HRP := Lib.hid (fun W => restOfProduct_any p f g m W hpr lf lg lm h0)
 go_enter Try.func55, Try.ntmps55
 go_upto_region 1 with (fail)
 rw [← z64]
 obtain ⟨W1, hwo⟩ : ∃ v : World, v = ((((w.alloc (.cells (fdC (p : Int) m).toArray 38)).alloc (.cells (zb 64 (f)) 24)).alloc (.cells (zb 64 (g)) 24)).alloc (.cells (zb 64 (fun _ => 0)) 24)) := ⟨_, rfl⟩
 have B0 : Row W1 (w.heap.size) 38 (fdC (p : Int) m).toArray := by subst hwo; have := ((((Row.new w 38 (fdC (p : Int) m).toArray).alloc (.cells (zb 64 (f)) 24)).alloc (.cells (zb 64 (g)) 24)).alloc (.cells (zb 64 (fun _ => 0)) 24)); simpa using this
 have B1 : Blk W1 (w.heap.size + 1) 64 24 (f) := by subst hwo; have := (((Blk.new (w.alloc (.cells (fdC (p : Int) m).toArray 38)) 64 24 (f)).alloc (.cells (zb 64 (g)) 24)).alloc (.cells (zb 64 (fun _ => 0)) 24)); simpa using this
 have B2 : Blk W1 (w.heap.size + 1 + 1) 64 24 (g) := by subst hwo; have := ((Blk.new ((w.alloc (.cells (fdC (p : Int) m).toArray 38)).alloc (.cells (zb 64 (f)) 24)) 64 24 (g)).alloc (.cells (zb 64 (fun _ => 0)) 24)); simpa using this
 have B3 : Blk W1 (w.heap.size + 1 + 1 + 1) 64 24 (fun _ => 0) := by subst hwo; have := (Blk.new (((w.alloc (.cells (fdC (p : Int) m).toArray 38)).alloc (.cells (zb 64 (f)) 24)).alloc (.cells (zb 64 (g)) 24)) 64 24 (fun _ => 0)); simpa using this
 have hb : Below w.heap.size w W1 := by subst hwo; exact (((((Below.refl _ _).alloc (Nat.le_refl _) _).alloc (by simp) _).alloc (by simp; omega) _).alloc (by simp; omega) _)
 rw [← hwo]
 clear hwo
 have cc := B0.cell (i := 0) (v := .int .i64 (p : Int)) (fdC_at (p : Int) m)
 go_wp2_with (first | rw [← z64] | (refine zla (.tmp 4) B1 Try.underlying24 Try.size24 ?_) | (refine zla (.tmp 5) B2 Try.underlying24 Try.size24 ?_) | (refine wpList_load_mid rfl 24 (.tmp 11) rfl _ 1 rfl (bl 64 m) _ (B0.fd) Try.underlying24 rfl (by rw [zl]; exact Try.size24) ?_) | (go_at_call 73; refine (HRP.out _).mono ?_; rintro e W2 ⟨rfl, hW2⟩; replace B0 := B0.zw hW2; replace B1 := B1.zw hW2; replace B2 := B2.zw hW2; replace B3 := B3.zw hW2; replace hb := (hb).trans (hW2.mono (hb).size)) | (refine zsr (.tmp 6) (.tmp 13) (mmP p f g m) B3 Try.size24 ?_; try simp only [Act.put]))
 obtain ⟨W3, hwo, hzQ⟩ : ∃ v : World, v = (W2.setRow (w.heap.size + 1 + 1 + 1) (zb 64 (mmP p f g m))) ∧ Row v (w.heap.size) 38 (fdC (p : Int) m).toArray ∧ Blk v (w.heap.size + 1) 64 24 (f) ∧ Blk v (w.heap.size + 1 + 1) 64 24 (g) ∧ Blk v (w.heap.size + 1 + 1 + 1) 64 24 (mmP p f g m) ∧ Below w.heap.size w v := ⟨_, rfl, (B0.rowOther (by omega)), (B1.rowOther (by omega)), (B2.rowOther (by omega)), (B3.row (mmP p f g m)), (zr hb (by omega) _)⟩
 rw [← hwo]
 clear hwo B0 B1 B2 B3 hb
 obtain ⟨B0, B1, B2, B3, hb⟩ := hzQ
 try simp only [Act.put, pA, pB, pC]
 refine bodyPost_ret (zrb rfl _ _ _ 64 24 5 _ rfl B3 Try.underlying24 Try.size24) rfl ⟨rfl, hb⟩
theorem kfrob_any (p : Nat) (m x : Nat → Nat) (n : Nat) (w : World) (hpr : p = 2 ∨ p = 3 ∨ p = 5 ∨ p = 7) (lm : ∀ k, k < 64 → m k < p) (d : Nat) (hd : deg m = (d : Int)) (hd1 : 1 ≤ d) (hd9 : d ≤ 9) (hn : n ≤ 1000) (hx : rsd p m x) :
 Calls Try.prog 51 #[.agg (fdC (p : Int) m).toArray, .agg (zb 64 x), .int .i64 (n : Int)] w fun e w' => e = .returned (.agg (zb 64 (frN p m x (n % d)))) ∧ Below w.heap.size w w' := by
 have p0 : 0 < p := by omega
 have h0 : 0 ≤ deg m := by omega
 have h9 : deg m ≤ 9 := by omega
 obtain ⟨M, hM⟩ : ∃ M, M = n % d := ⟨_, rfl⟩
 have hMd : M < d := by rw [hM]; exact Nat.mod_lt _ (by omega)
 have tq1 : (n : Int).tmod (d : Int) = (M : Int) := by rw [Int.tmod_eq_emod_of_nonneg (by omega), hM]; rfl
 have tq2 : ((M : Int) + (d : Int)).tmod (d : Int) = (M : Int) := by
  rw [Int.tmod_eq_emod_of_nonneg (by omega), Int.add_emod_right]
  exact Int.emod_eq_of_lt (by omega) (by omega)
 have HM := Lib.hid hM
 rw [← hM]
 clear hM
 have HD := Lib.hid hd
 have hdz : ¬ (d : Int) = 0 := by omega
 have HZ := Lib.hid (frN_z p m x)
 have HS := Lib.hid (frN_s p m x)
 have HR := Lib.hid (fun j => (frN_ok hpr lm h0 h9 hx j).1)
 have HST := Lib.hid (fun (y : Nat → Nat) (hy : rsd p m y) W => stretched_any p y W (by omega) (by omega) (fun k hk => by have := hy.1 k hk; omega) (by have := hy.2; rcases hpr with rfl | rfl | rfl | rfl <;> omega))
 have HRO := Lib.hid (show ∀ y, rsd p m y → ∀ W, Calls Try.prog 67 #[.int .i64 (p : Int), .agg (zb 64 (strP p y)), .agg (zb 64 m)] W fun e w' => e = .returned (.agg (zb 64 (frI p m y))) ∧ Below W.heap.size W w' from fun y hy W => by
  have h := restOf_any p (strP p y) m W hpr (strP_lt p0 (by omega) hy.1) lm h0
  unfold frI; exact h)
 have HDG := Lib.hid (fun W => degree_any m W)
 rw [hd] at HDG
 clear hd h0 h9 hx
 go_enter Try.func51, Try.ntmps51
 go_upto_region 1 with (fail)
 rw [← z64]
 obtain ⟨W1, hwo⟩ : ∃ v : World, v = (((w.alloc (.cells (fdC (p : Int) m).toArray 38)).alloc (.cells (zb 64 (x)) 24)).alloc (.cells (zb 64 (fun _ => 0)) 24)) := ⟨_, rfl⟩
 have B0 : Row W1 (w.heap.size) 38 (fdC (p : Int) m).toArray := by subst hwo; have := (((Row.new w 38 (fdC (p : Int) m).toArray).alloc (.cells (zb 64 (x)) 24)).alloc (.cells (zb 64 (fun _ => 0)) 24)); simpa using this
 have B1 : Blk W1 (w.heap.size + 1) 64 24 (x) := by subst hwo; have := ((Blk.new (w.alloc (.cells (fdC (p : Int) m).toArray 38)) 64 24 (x)).alloc (.cells (zb 64 (fun _ => 0)) 24)); simpa using this
 have B2 : Blk W1 (w.heap.size + 1 + 1) 64 24 (fun _ => 0) := by subst hwo; have := (Blk.new ((w.alloc (.cells (fdC (p : Int) m).toArray 38)).alloc (.cells (zb 64 (x)) 24)) 64 24 (fun _ => 0)); simpa using this
 have hb : Below w.heap.size w W1 := by subst hwo; exact ((((Below.refl _ _).alloc (Nat.le_refl _) _).alloc (by simp) _).alloc (by simp; omega) _)
 rw [← hwo]
 clear hwo
 go_upto_region 2 with (first | (refine wpList_load_mid rfl 24 (.tmp 8) rfl _ 1 rfl (bl 64 m) _ (B0.fd) Try.underlying24 rfl (by rw [zl]; exact Try.size24) ?_) | (go_at_call 64; refine (HDG.out _).mono ?_; rintro e W2 ⟨rfl, hW2⟩; replace B0 := B0.zw hW2; replace B1 := B1.zw hW2; replace B2 := B2.zw hW2; replace hb := (hb).trans (hW2.mono (hb).size)))
 go_wp2_with fail
 go_loopw [18] (fun c wr => ∃ j : Nat, c = .int .i64 (j : Int) ∧ j ≤ M ∧ Below w.heap.size w wr ∧ Row wr (w.heap.size) 38 (fdC (p : Int) m).toArray ∧ Blk wr (w.heap.size + 1) 64 24 (frN p m x j) ∧ Blk wr (w.heap.size + 1 + 1) 64 24 (fun _ => 0)) (fun c _ => M - (intOf c).toNat)
 case atStart => exact ⟨0, rfl, Nat.zero_le _, hb, B0, by rw [HZ.out]; exact B1, B2⟩
 case round =>
  clear hb B0 B1 B2
  obtain ⟨j, rfl, hjM, hb, B0, B1, B2⟩ := hrel
  by_cases hj : j < M
  · have hjI : (j : Int) < (M : Int) := by omega
    have HR1 := Lib.hid (HR.out j)
    have HS1 := Lib.hid (HST.out _ HR1.out)
    have HS2 := Lib.hid (HRO.out _ HR1.out)
    go_upto_region 4 with (fail)
    have lt_B0 : (w.heap.size) < wr.heap.size := B0.lt
    have lt_B1 : (w.heap.size + 1) < wr.heap.size := B1.lt
    have lt_B2 : (w.heap.size + 1 + 1) < wr.heap.size := B2.lt
    have hbase : w.heap.size ≤ wr.heap.size := hb.size
    refine zq Try.mixed (by kernel_rfl) (by kernel_rfl) (fun v => by (simp only [frL, Act.put, pA, pB, pC, Nat.reduceAdd, Nat.zero_add]; exact rfl))
     (fun L v W3 => Below w.heap.size w W3 ∧ Kx [w.heap.size + 1] wr W3 ∧ (∃ g, Blk W3 (w.heap.size + 1) 64 24 (g)) ∧ (L 9 = false → Blk W3 (w.heap.size + 1) 64 24 (frN p m x j)) ∧ (L 9 = true → Blk W3 (w.heap.size + 1) 64 24 (frI p m (frN p m x j))) ∧ VF L v [some (.pointer (some ⟨w.heap.size, 0, none⟩)), some (.int .i64 (p : Int)), some (.agg (zb 64 (frN p m x j))), some (.pointer (some ⟨w.heap.size, 0, none⟩)), some (.int .i64 (p : Int)), some (.agg (zb 64 (strP p (frN p m x j)))), some (.pointer (some ⟨w.heap.size, 1, none⟩)), some (.agg (zb 64 (m))), some (.agg (zb 64 (frI p m (frN p m x j)))), none]) ?_ ?_ ?_
    · intro v hv0
      exact ⟨hb.drew, Kx.start _ _, ⟨_, B1.drew⟩, (fun _ => B1.drew), (fun h => by cases h), VF.start⟩
    · refine (.cons rfl ?_ (.cons rfl ?_ (.cons rfl ?_ (.cons rfl ?_ (.cons rfl ?_ (.cons rfl ?_ (.cons rfl ?_ (.cons rfl ?_ (.cons rfl ?_ (.cons rfl ?_ (.nil _)))))))))))
      all_goals intro L v W3 hd hn ⟨hB, hX, x1, q1, n1, V⟩ K hK
      · go_wp2_with fail
        exact hK _ (.pointer (some ⟨w.heap.size, 0, none⟩)) _ (by simp only [Act.put, pA, pB, pC ]) ⟨hB, hX, x1, q1, n1, V.step 0 rfl⟩
      · have e0 := V.at (zdq hd 0 rfl) rfl
        have cc := (B0.kx hX (by simp <;> omega)).cell (i := 0) (v := .int .i64 (p : Int)) (fdC_at (p : Int) m)
        go_wp2_with fail
        exact hK _ (.int .i64 (p : Int)) _ (by simp only [Act.put, pA, pB, pC, e0]) ⟨hB, hX, x1, q1, n1, V.step 1 rfl⟩
      · have s1 := q1 (by
         cases hL : L 9 with
         | false => rfl
         | true => exact absurd rfl (hn 9 _ rfl hL ⟨2, .phase⟩ (by simp) rfl))
        refine zlc s1 Try.underlying24 Try.size24 ?_
        exact hK _ _ _ rfl ⟨hB, hX, x1, q1, n1, V.step 2 rfl⟩
      · go_wp2_with fail
        exact hK _ (.pointer (some ⟨w.heap.size, 0, none⟩)) _ (by simp only [Act.put, pA, pB, pC ]) ⟨hB, hX, x1, q1, n1, V.step 3 rfl⟩
      · have e3 := V.at (zdq hd 3 rfl) rfl
        have cc := (B0.kx hX (by simp <;> omega)).cell (i := 0) (v := .int .i64 (p : Int)) (fdC_at (p : Int) m)
        go_wp2_with fail
        exact hK _ (.int .i64 (p : Int)) _ (by simp only [Act.put, pA, pB, pC, e3]) ⟨hB, hX, x1, q1, n1, V.step 4 rfl⟩
      · have e2 := V.at (zdq hd 2 rfl) rfl
        have e4 := V.at (zdq hd 4 rfl) rfl
        go_wp2_with (go_at_call 68; refine (HS1.out _).mono ?_; rintro e wy ⟨rfl, hy⟩)
        exact hK _ (.agg (zb 64 (strP p (frN p m x j)))) _ (by simp only [Act.put, pA, pB, pC, e2, e4]) ⟨hB.trans (hy.mono hB.size), hX.below hy, (let ⟨g, h⟩ := x1; ⟨g, h.zw hy⟩), (fun h => (q1 h).below hy (q1 h).lt), (fun h => (n1 h).below hy (n1 h).lt), V.step 5 rfl⟩
      · go_wp2_with fail
        exact hK _ (.pointer (some ⟨w.heap.size, 1, none⟩)) _ (by simp only [Act.put, pA, pB, pC ]) ⟨hB, hX, x1, q1, n1, V.step 6 rfl⟩
      · have e6 := V.at (zdq hd 6 rfl) rfl
        refine wp_load_mid 24 _ rfl _ 1 e6 _ _ ((B0.kx hX (by simp <;> omega)).fd) Try.underlying24 rfl (by rw [zl]; exact Try.size24) ?_
        exact hK _ _ _ rfl ⟨hB, hX, x1, q1, n1, V.step 7 rfl⟩
      · have e1 := V.at (zdq hd 1 rfl) rfl
        have e5 := V.at (zdq hd 5 rfl) rfl
        have e7 := V.at (zdq hd 7 rfl) rfl
        go_wp2_with (go_at_call 67; refine (HS2.out _).mono ?_; rintro e wy ⟨rfl, hy⟩)
        exact hK _ (.agg (zb 64 (frI p m (frN p m x j)))) _ (by simp only [Act.put, pA, pB, pC, e1, e5, e7]) ⟨hB.trans (hy.mono hB.size), hX.below hy, (let ⟨g, h⟩ := x1; ⟨g, h.zw hy⟩), (fun h => (q1 h).below hy (q1 h).lt), (fun h => (n1 h).below hy (n1 h).lt), V.step 8 rfl⟩
      have e8 := V.at (zdq hd 8 rfl) rfl
      obtain ⟨gz, hk⟩ := x1
      refine zsb 24 _ _ rfl _ 64 (frI p m (frN p m x j)) rfl e8 24 gz hk Try.size24 ?_
      exact hK _ undef _ rfl ⟨zr hB (by omega) _, hX.row (by simp) _, ⟨_, hk.row _⟩, (fun h => absurd h (by simp [setL])), (fun _ => hk.row _), V.skip 9 rfl⟩
    intro L v W3 hL ⟨hB, hX, x1, q1, n1, V⟩
    have r1 := n1 (hL 9 (by decide))
    have e0 := V.at (hL 0 (by decide)) rfl
    have e1 := V.at (hL 1 (by decide)) rfl
    have e2 := V.at (hL 2 (by decide)) rfl
    have e3 := V.at (hL 3 (by decide)) rfl
    have e4 := V.at (hL 4 (by decide)) rfl
    have e5 := V.at (hL 5 (by decide)) rfl
    have e6 := V.at (hL 6 (by decide)) rfl
    have e7 := V.at (hL 7 (by decide)) rfl
    have e8 := V.at (hL 8 (by decide)) rfl
    clear hL x1 q1 n1 V
    replace B0 := B0.kx hX (by simp <;> omega)
    replace B2 := B2.kx hX (by simp <;> omega)
    clear hX
    simp only [Exit.then, e0, e1, e2, e3, e4, e5, e6, e7, e8]
    clear e0 e1 e2 e3 e4 e5 e6 e7 e8
    replace B1 := r1
    clear r1
    replace hb := hB
    clear hB
    clear hbase lt_B0 lt_B1 lt_B2
    go_wp2_with fail
    go_roundw
    case rel => exact ⟨j + 1, by go_num, by omega, hb, B0, by rw [HS.out]; exact B1, B2⟩
    case measure => simp [intOf] <;> omega
  have hjI : ¬ (j : Int) < (M : Int) := by omega
  obtain rfl : j = M := by omega
  go_upto_region 6 with (fail)
  go_wp2_with (first | rw [← z64] | (refine zla (.tmp 4) B1 Try.underlying24 Try.size24 ?_) | (refine zsr (.tmp 6) (.tmp 30) (frN p m x j) B2 Try.size24 ?_; try simp only [Act.put]))
  obtain ⟨W3, hwo, hzQ⟩ : ∃ v : World, v = (wr.setRow (w.heap.size + 1 + 1) (zb 64 (frN p m x j))) ∧ Row v (w.heap.size) 38 (fdC (p : Int) m).toArray ∧ Blk v (w.heap.size + 1) 64 24 (frN p m x j) ∧ Blk v (w.heap.size + 1 + 1) 64 24 (frN p m x j) ∧ Below w.heap.size w v := ⟨_, rfl, (B0.rowOther (by omega)), (B1.rowOther (by omega)), (B2.row (frN p m x j)), (zr hb (by omega) _)⟩
  rw [← hwo]
  clear hwo B0 B1 B2 hb
  obtain ⟨B0, B1, B2, hb⟩ := hzQ
  try simp only [Act.put, pA, pB, pC]
  refine bodyPost_ret (zrb rfl _ _ _ 64 24 5 _ rfl B2 Try.underlying24 Try.size24) rfl ⟨rfl, hb⟩
theorem l03Frobenius_any (p : Nat) (m x : Nat → Nat) (n : Nat) (w : World) (hpr : p = 2 ∨ p = 3 ∨ p = 5 ∨ p = 7) (lm : ∀ k, k < 64 → m k < p) (d : Nat) (hd : deg m = (d : Int)) (hd1 : 1 ≤ d) (hd9 : d ≤ 9) (hn : n ≤ 1000) (hx : rsd p m x) :
 Calls Try.prog 43 #[.int .i64 (p : Int), .agg (zb 64 x), .int .i64 (n : Int), .agg (zb 64 m)] w fun e w' => e = .returned (.agg (zb 64 (frN p m x (n % d)))) ∧ Below w.heap.size w w' := by
 have p0 : 0 < p := by omega
 have h0 : 0 ≤ deg m := by omega
 have h9 : deg m ≤ 9 := by omega
 obtain ⟨M, hM⟩ : ∃ M, M = n % d := ⟨_, rfl⟩
 have hMd : M < d := by rw [hM]; exact Nat.mod_lt _ (by omega)
 have tq1 : (n : Int).tmod (d : Int) = (M : Int) := by rw [Int.tmod_eq_emod_of_nonneg (by omega), hM]; rfl
 rw [← hM]
 clear hM
 have hdz : ¬ (d : Int) = 0 := by omega
 have HZ := Lib.hid (frN_z p m x)
 have HS := Lib.hid (frN_s p m x)
 have HR := Lib.hid (fun j => (frN_ok hpr lm h0 h9 hx j).1)
 have HPM := Lib.hid (show ∀ y, rsd p m y → ∀ W, Calls Try.prog 59 #[.int .i64 (p : Int), .agg (zb 64 y), .int .i64 (p : Int), .agg (zb 64 m)] W fun e w' => e = .returned (.agg (zb 64 (frI p m y))) ∧ Below W.heap.size W w' from fun y hy W => by
  have h := l01PowMod_any p y p m W hpr hy.1 lm h0 (by omega)
  rw [zbc (frI_pm hpr lm h0 h9 hy)] at h; exact h)
 have HDG := Lib.hid (fun W => l01Deg_any m W)
 rw [hd] at HDG
 clear hd h0 h9 hx
 go_enter Try.func43, Try.ntmps43
 go_upto_region 1 with (fail)
 rw [← z64]
 obtain ⟨W1, hwo⟩ : ∃ v : World, v = (((w.alloc (.cells (zb 64 (x)) 24)).alloc (.cells (zb 64 (m)) 24)).alloc (.cells (zb 64 (fun _ => 0)) 24)) := ⟨_, rfl⟩
 have B0 : Blk W1 (w.heap.size) 64 24 (x) := by subst hwo; have := (((Blk.new w 64 24 (x)).alloc (.cells (zb 64 (m)) 24)).alloc (.cells (zb 64 (fun _ => 0)) 24)); simpa using this
 have B1 : Blk W1 (w.heap.size + 1) 64 24 (m) := by subst hwo; have := ((Blk.new (w.alloc (.cells (zb 64 (x)) 24)) 64 24 (m)).alloc (.cells (zb 64 (fun _ => 0)) 24)); simpa using this
 have B2 : Blk W1 (w.heap.size + 1 + 1) 64 24 (fun _ => 0) := by subst hwo; have := (Blk.new ((w.alloc (.cells (zb 64 (x)) 24)).alloc (.cells (zb 64 (m)) 24)) 64 24 (fun _ => 0)); simpa using this
 have hb : Below w.heap.size w W1 := by subst hwo; exact ((((Below.refl _ _).alloc (Nat.le_refl _) _).alloc (by simp) _).alloc (by simp; omega) _)
 rw [← hwo]
 clear hwo
 go_wp2_with (first | (refine zla (.tmp 7) B1 Try.underlying24 Try.size24 ?_) | (go_at_call 37; refine (HDG.out _).mono ?_; rintro e W9 ⟨rfl, hW9⟩; replace B0 := B0.zw hW9; replace B1 := B1.zw hW9; replace B2 := B2.zw hW9; replace hb := hb.trans (hW9.mono hb.size)))
 go_loopw [9] (fun c wr => ∃ i j : Nat, c = .int .i64 (i : Int) ∧ i + j = M ∧ Below w.heap.size w wr ∧ Blk wr (w.heap.size) 64 24 (frN p m x j) ∧ Blk wr (w.heap.size + 1) 64 24 m ∧ Blk wr (w.heap.size + 1 + 1) 64 24 (fun _ => 0)) (fun c _ => (intOf c).toNat)
 case atStart => exact ⟨M, 0, rfl, rfl, hb, by rw [HZ.out]; exact B0, B1, B2⟩
 case round =>
  clear hb B1 B0 B2
  obtain ⟨i, j, rfl, hij, hb, B0, B1, B2⟩ := hrel
  by_cases hj : 0 < i
  · have hjI : (i : Int) > 0 := by omega
    have hjI2 : (0 : Int) < (i : Int) := by omega
    have HR1 := Lib.hid (HR.out j)
    have HS1 := Lib.hid (HPM.out _ HR1.out)
    go_upto_region 4 with (fail)
    have lt_B0 := B0.lt
    have lt_B1 := B1.lt
    have lt_B2 := B2.lt
    go_upto_region 3 with (first | rw [← z64] | (refine zla (.tmp 5) B0 Try.underlying24 Try.size24 ?_) | (refine zla (.tmp 7) B1 Try.underlying24 Try.size24 ?_) | (go_at_call 59; refine (HS1.out _).mono ?_; rintro e W2 ⟨rfl, hW2⟩; replace B0 := B0.zw hW2; replace B1 := B1.zw hW2; replace B2 := B2.zw hW2; replace hb := (hb).trans (hW2.mono (hb).size)) | (refine zsr (.tmp 5) (.tmp 22) (frI p m (frN p m x j)) B0 Try.size24 ?_; try simp only [Act.put]))
    obtain ⟨W3, hwo, hzQ⟩ : ∃ v : World, v = (W2.setRow (w.heap.size) (zb 64 (frI p m (frN p m x j)))) ∧ Blk v (w.heap.size) 64 24 (frI p m (frN p m x j)) ∧ Blk v (w.heap.size + 1) 64 24 (m) ∧ Blk v (w.heap.size + 1 + 1) 64 24 (fun _ => 0) ∧ Below w.heap.size w v := ⟨_, rfl, (B0.row (frI p m (frN p m x j))), (B1.rowOther (by omega)), (B2.rowOther (by omega)), (zr hb (by omega) _)⟩
    rw [← hwo]
    clear hwo B0 B1 B2 hb
    obtain ⟨B0, B1, B2, hb⟩ := hzQ
    try simp only [Act.put, pA, pB, pC]
    obtain ⟨i, rfl⟩ : ∃ q, i = q + 1 := ⟨i - 1, by omega⟩
    go_wp2_with fail
    go_roundw
    case rel => exact ⟨i, j + 1, by go_num, by omega, hb, by rw [HS.out]; exact B0, B1, B2⟩
    case measure => simp [intOf] <;> omega
  obtain rfl : i = 0 := by omega
  have hjI : ¬ (((0 : Nat) : Int) > 0) := by omega
  obtain rfl : j = M := by omega
  go_upto_region 5 with (fail)
  go_wp2_with (first | rw [← z64] | (refine zla (.tmp 5) B0 Try.underlying24 Try.size24 ?_) | (refine zsr (.tmp 8) (.tmp 23) (frN p m x j) B2 Try.size24 ?_; try simp only [Act.put]))
  obtain ⟨W2, hwo, hzQ⟩ : ∃ v : World, v = (wr.setRow (w.heap.size + 1 + 1) (zb 64 (frN p m x j))) ∧ Blk v (w.heap.size) 64 24 (frN p m x j) ∧ Blk v (w.heap.size + 1) 64 24 (m) ∧ Blk v (w.heap.size + 1 + 1) 64 24 (frN p m x j) ∧ Below w.heap.size w v := ⟨_, rfl, (B0.rowOther (by omega)), (B1.rowOther (by omega)), (B2.row (frN p m x j)), (zr hb (by omega) _)⟩
  rw [← hwo]
  clear hwo B0 B1 B2 hb
  obtain ⟨B0, B1, B2, hb⟩ := hzQ
  try simp only [Act.put, pA, pB, pC]
  refine bodyPost_ret (zrb rfl _ _ _ 64 24 5 _ rfl B2 Try.underlying24 Try.size24) rfl ⟨rfl, hb⟩
end Go.Proofs.Ytoncepgcfifgbab
namespace Go.Proofs.Ytoncepgcfifgbab
open Rg
theorem mm_zero {p : Nat} {m a b : Nat → Nat} (hp : p = 2 ∨ p = 3 ∨ p = 5 ∨ p = 7) (lm : ∀ k, k < 64 → m k < p) (h0 : 0 ≤ deg m) (ha : ∀ k, k < 64 → a k = 0) : ∀ k, k < 64 → mmP p a b m k = 0 := by
 have hz : deg (fun _ => 0 : Nat → Nat) < 0 := by
  rcases deg_spec (fun _ => 0) with ⟨h, _⟩ | ⟨d, _, _, h, _⟩
  · omega
  exact absurd rfl h
 refine rsd_eq (y := fun _ => 0) hp lm h0 ⟨fun k hk => mmP_lt (by omega) k (by omega), mmP_deg hp lm h0⟩ ⟨fun k _ => by show 0 < p; omega, by omega⟩ ?_
 have e : (rs a : Res p (lz m)) = rs (fun _ => 0) := cl_congr (by
  funext k
  unfold lz cut
  by_cases h : k < 64
  · rw [if_pos h, if_pos h, ha k h]
  rw [if_neg h, if_neg h])
 rw [rs_mm hp lm h0, e, rs_zero, omul]
theorem addK_zero {p : Nat} {f g : Nat → Nat} (hf : ∀ k, k < 64 → f k < p) (hg : ∀ k, k < 64 → g k = 0) : ∀ k, k < 64 → addK p f g 1 k = f k := by
 intro k hk
 rw [addK_one]
 show (f k + g k) % p = f k
 rw [hg k hk, Nat.add_zero, Nat.mod_eq_of_lt (hf k hk)]
def tmJ (p : Nat) (m : Nat → Nat) (d : Nat) (F G : Nat → Nat → Nat) (i : Nat) (O : Nat → Nat → Nat) : Nat → (Nat → Nat → Nat)
 | 0 => O
 | j + 1 => updR (tmJ p m d F G i O j) (i + j) (addK p (tmJ p m d F G i O j (i + j)) (mmP p (F i) (frN p m (G j) (i % d)) m) 1)
def tmR (p : Nat) (m : Nat → Nat) (d : Nat) (F G : Nat → Nat → Nat) (n : Nat) : Nat → (Nat → Nat → Nat)
 | 0 => fun _ _ => 0
 | i + 1 => tmJ p m d F G i (tmR p m d F G n i) n
def tmP (p : Nat) (m : Nat → Nat) (d : Nat) (F G : Nat → Nat → Nat) : Nat → Nat → Nat := tmR p m d F G (skD G + 1).toNat (skD F + 1).toNat
theorem tmJ_z (p : Nat) (m : Nat → Nat) (d : Nat) (F G : Nat → Nat → Nat) (i : Nat) (O : Nat → Nat → Nat) : tmJ p m d F G i O 0 = O := rfl
theorem tmJ_s (p : Nat) (m : Nat → Nat) (d : Nat) (F G : Nat → Nat → Nat) (i : Nat) (O : Nat → Nat → Nat) (j : Nat) :
 tmJ p m d F G i O (j + 1) = updR (tmJ p m d F G i O j) (i + j) (addK p (tmJ p m d F G i O j (i + j)) (mmP p (F i) (frN p m (G j) (i % d)) m) 1) := rfl
theorem tmR_z (p : Nat) (m : Nat → Nat) (d : Nat) (F G : Nat → Nat → Nat) (n : Nat) : tmR p m d F G n 0 = fun _ _ => 0 := rfl
theorem tmR_s (p : Nat) (m : Nat → Nat) (d : Nat) (F G : Nat → Nat → Nat) (n i : Nat) : tmR p m d F G n (i + 1) = tmJ p m d F G i (tmR p m d F G n i) n := rfl
theorem tmR_0 (p : Nat) (m : Nat → Nat) (d : Nat) (F G : Nat → Nat → Nat) : ∀ i, tmR p m d F G 0 i = fun _ _ => 0
 | 0 => rfl
 | i + 1 => by rw [tmR_s, tmJ_z, tmR_0]
theorem tmJ_lt {p : Nat} {m : Nat → Nat} {d : Nat} {F G : Nat → Nat → Nat} {i : Nat} {O : Nat → Nat → Nat} (hp : 0 < p) (hO : ∀ r k, O r k < p) : ∀ j r k, tmJ p m d F G i O j r k < p
 | 0, r, k => hO r k
 | j + 1, r, k => by
  rw [tmJ_s]
  unfold updR
  by_cases h : r = i + j
  · rw [if_pos h]; exact addK_lt hp k
  rw [if_neg h]; exact tmJ_lt hp hO j r k
theorem tmR_lt {p : Nat} {m : Nat → Nat} {d : Nat} {F G : Nat → Nat → Nat} {n : Nat} (hp : 0 < p) : ∀ i r k, tmR p m d F G n i r k < p
 | 0, r, k => hp
 | i + 1, r, k => by rw [tmR_s]; exact tmJ_lt hp (tmR_lt hp i) n r k
theorem tmP_at {p : Nat} {m : Nat → Nat} {d : Nat} {F G : Nat → Nat → Nat} {a b : Nat} (hF : skD F = (a : Int) - 1) (hG : skD G = (b : Int) - 1) : tmP p m d F G = tmR p m d F G b a := by
 unfold tmP; rw [hF, hG]; congr 1 <;> omega
theorem tmP_zero {p : Nat} {m : Nat → Nat} {d : Nat} {F G : Nat → Nat → Nat} (h : skD F < 0 ∨ skD G < 0) : tmP p m d F G = fun _ _ => 0 := by
 unfold tmP
 have hb := zsd F
 have hb2 := zsd G
 rcases h with h | h
 · rw [show (skD F + 1).toNat = 0 by omega]; rfl
 rw [show (skD G + 1).toNat = 0 by omega]; exact tmR_0 _ _ _ _ _ _
attribute [irreducible] tmJ tmR tmP
end Go.Proofs.Ytoncepgcfifgbab
namespace Go.Proofs.Ytoncepgcfifgbab
open Go Go.RowKit
attribute [local irreducible] deg addK strP frI frN mmP pmP resP
theorem l03Times_ok (p : Nat) (m : Nat → Nat) (F G : Nat → Nat → Nat) (w : World) (hpr : p = 2 ∨ p = 3 ∨ p = 5 ∨ p = 7) (lm : ∀ k, k < 64 → m k < p) (d : Nat) (hd : deg m = (d : Int)) (hd1 : 1 ≤ d) (hd9 : d ≤ 9) (lF : ∀ i, i < 8 → ∀ k, k < 64 → F i k < p) (lG : ∀ i, i < 8 → rsd p m (G i)) (hs : skD F + skD G ≤ 7) :
 Calls Try.prog 23 #[.int .i64 (p : Int), .agg (zb 64 m), .agg (zb 512 (fl 64 F)), .agg (zb 512 (fl 64 G))] w fun e w' => e = .returned (.tuple #[.agg (zb 512 (fl 64 (tmP p m d F G))), .bool true]) ∧ Below w.heap.size w w' := by
 have p0 : 0 < p := by omega
 have h0 : 0 ≤ deg m := by omega
 have h9 : deg m ≤ 9 := by omega
 have p2 : 2 ≤ p := by omega
 have p7 : p ≤ 7 := by omega
 obtain ⟨fb1, fb2⟩ := zsd F
 obtain ⟨gb1, gb2⟩ := zsd G
 obtain ⟨A, hA⟩ : ∃ A : Nat, skD F = (A : Int) - 1 := ⟨(skD F + 1).toNat, by omega⟩
 obtain ⟨B, hB⟩ : ∃ B : Nat, skD G = (B : Int) - 1 := ⟨(skD G + 1).toNat, by omega⟩
 have HA := Lib.hid hA
 have HB := Lib.hid hB
 have hA8 : A ≤ 8 := by omega
 have hB8 : B ≤ 8 := by omega
 have hAB : A + B ≤ 9 := by omega
 have HP := Lib.hid (tmP_at (p := p) (m := m) (d := d) hA hB)
 have HX := Lib.hid (fun i (hi : i < 8) j => (frN_ok hpr lm h0 h9 (lG i hi) j).1)
 have HFR := Lib.hid (fun i (hi : i < 8) j (hj : j < 8) W => l03Frobenius_any p m (G j) i W hpr lm d hd hd1 hd9 (by omega) (lG j hj))
 have HMM := Lib.hid (fun i (hi : i < 8) j (hj : j < 8) W => l01MulMod_any p (F i) (frN p m (G j) (i % d)) m W hpr (lF i hi) (HX.out j hj (i % d)).1 lm h0)
 have HSU := Lib.hid (fun (f g : Nat → Nat) (hf : ∀ k, f k < p) (hg : ∀ k, k < 64 → g k < p) W => l01Add_any p f g 1 W p2 p7 (by omega) (by omega) (fun k _ => hf k) hg)
 have HJL := Lib.hid (fun i j r k => tmJ_lt (p := p) (m := m) (d := d) (F := F) (G := G) (i := i) p0 (tmR_lt (m := m) (d := d) (F := F) (G := G) (n := B) p0 i) j r k)
 have HML := Lib.hid (fun i j k (hk : k < 64) => mmP_lt (p := p) (a := F i) (b := frN p m (G j) (i % d)) (m := m) p0 k (by omega))
 have HZ := Lib.hid (tmR_z p m d F G B)
 have HS := Lib.hid (tmR_s p m d F G B)
 have HJZ := Lib.hid (tmJ_z p m d F G)
 have HJS := Lib.hid (tmJ_s p m d F G)
 clear hA hB lF lG
 have hn3 : ¬ skD F + skD G > 7 := by omega
 go_enter Try.func23, Try.ntmps23
 go_upto_region 1 with (fail)
 rw [← zero512]
 obtain ⟨W1, hwo⟩ : ∃ v : World, v = ((((w.alloc (.cells (zb 64 (m)) 24)).alloc (.cells (zb 512 (fl 64 F)) 26)).alloc (.cells (zb 512 (fl 64 G)) 26)).alloc (.cells (zb 512 (fl 64 (fun _ _ => 0))) 26)) := ⟨_, rfl⟩
 have B0 : Blk W1 (w.heap.size) 64 24 (m) := by subst hwo; have := ((((Blk.new w 64 24 (m)).alloc (.cells (zb 512 (fl 64 F)) 26)).alloc (.cells (zb 512 (fl 64 G)) 26)).alloc (.cells (zb 512 (fl 64 (fun _ _ => 0))) 26)); simpa using this
 have B1 : Blk W1 (w.heap.size + 1) 512 26 (fl 64 F) := by subst hwo; have := (((Blk.new (w.alloc (.cells (zb 64 (m)) 24)) 512 26 (fl 64 F)).alloc (.cells (zb 512 (fl 64 G)) 26)).alloc (.cells (zb 512 (fl 64 (fun _ _ => 0))) 26)); simpa using this
 have B2 : Blk W1 (w.heap.size + 1 + 1) 512 26 (fl 64 G) := by subst hwo; have := ((Blk.new ((w.alloc (.cells (zb 64 (m)) 24)).alloc (.cells (zb 512 (fl 64 F)) 26)) 512 26 (fl 64 G)).alloc (.cells (zb 512 (fl 64 (fun _ _ => 0))) 26)); simpa using this
 have B3 : Blk W1 (w.heap.size + 1 + 1 + 1) 512 26 (fl 64 (fun _ _ => 0)) := by subst hwo; have := (Blk.new (((w.alloc (.cells (zb 64 (m)) 24)).alloc (.cells (zb 512 (fl 64 F)) 26)).alloc (.cells (zb 512 (fl 64 G)) 26)) 512 26 (fl 64 (fun _ _ => 0))); simpa using this
 have hb : Below w.heap.size w W1 := by subst hwo; exact (((((Below.refl _ _).alloc (Nat.le_refl _) _).alloc (by simp) _).alloc (by simp; omega) _).alloc (by simp; omega) _)
 rw [← hwo]
 clear hwo
 by_cases hz : skD F < 0 ∨ skD G < 0
 · have HPZ := Lib.hid (tmP_zero (p := p) (m := m) (d := d) hz)
   by_cases hzF : skD F < 0
   · skip
     have lt_B0 : (w.heap.size) < W1.heap.size := B0.lt
     have lt_B1 : (w.heap.size + 1) < W1.heap.size := B1.lt
     have lt_B2 : (w.heap.size + 1 + 1) < W1.heap.size := B2.lt
     have lt_B3 : (w.heap.size + 1 + 1 + 1) < W1.heap.size := B3.lt
     refine zq Try.mixed (by kernel_rfl) (by kernel_rfl) (fun v => by (simp only [frL, Act.put, pA, pB, pC, Nat.reduceAdd, Nat.zero_add]; exact rfl))
      (fun L v W2 => Below W1.heap.size W1 W2 ∧ (L 5 = true → AF (v 5) W2 W1.heap.size 512 26) ∧ (L 8 = true → PF (v 5) W2 W1.heap.size 512 26 (fl 64 (fun _ _ => 0))) ∧ VF L v [some (.agg (zb 512 (fl 64 F))), some (.int .i64 (skD F)), some (.agg (zb 512 (fl 64 G))), some (.int .i64 (skD G)), some (.agg (zb 512 (fl 64 (fun _ _ => 0)))), none, some (.int .i64 (skD F)), some (.int .i64 (skD G)), none]) ?_ ?_ ?_
     · intro v hv0
       exact ⟨(Below.refl _ W1).drew, (fun h => by cases h), (fun h => by cases h), VF.start⟩
     · refine (.cons rfl ?_ (.cons rfl ?_ (.cons rfl ?_ (.cons rfl ?_ (.cons rfl ?_ (.cons rfl ?_ (.cons rfl ?_ (.cons rfl ?_ (.cons rfl ?_ (.nil _))))))))))
       all_goals intro L v W2 hd hn ⟨hY, h5, h8, V⟩ K hK
       · refine zlc (B1.zw hY) Try.underlying26 Try.size26 ?_
         exact hK _ _ _ rfl ⟨hY, h5, h8, V.step 0 rfl⟩
       · have e0 := V.at (zdq hd 0 rfl) rfl
         go_wp2_with (go_at_call 10; refine (l03Deg_any F _).mono ?_; rintro e wy ⟨rfl, hy⟩)
         exact hK _ (.int .i64 (skD F)) _ (by simp only [Act.put, pA, pB, pC, e0]) ⟨hY.trans (hy.mono hY.size), (fun h => (h5 h).below hy), (fun h => (h8 h).below hy), V.step 1 rfl⟩
       · refine zlc (B2.zw hY) Try.underlying26 Try.size26 ?_
         exact hK _ _ _ rfl ⟨hY, h5, h8, V.step 2 rfl⟩
       · have e2 := V.at (zdq hd 2 rfl) rfl
         go_wp2_with (go_at_call 10; refine (l03Deg_any G _).mono ?_; rintro e wy ⟨rfl, hy⟩)
         exact hK _ (.int .i64 (skD G)) _ (by simp only [Act.put, pA, pB, pC, e2]) ⟨hY.trans (hy.mono hY.size), (fun h => (h5 h).below hy), (fun h => (h8 h).below hy), V.step 3 rfl⟩
       · go_wp2_with fail
         rw [← zero512]
         exact hK _ (.agg (zb 512 (fl 64 (fun _ _ => 0)))) _ (by simp only [Act.put, pA, pB, pC ]) ⟨hY, h5, h8, V.step 4 rfl⟩
       · go_wp2_with fail
         rw [← zero512]
         exact hK _ (.pointer (some ⟨W2.heap.size, 0, none⟩)) _ (by simp only [Act.put, pA, pB, pC ]) ⟨hY.alloc hY.size _, (fun _ => (PF.new W2 512 26 _ hY.size).af), (fun h => absurd rfl (hn 8 _ rfl h ⟨5, .data⟩ (by simp) rfl)), V.skip 5 rfl⟩
       · have e1 := V.at (zdq hd 1 rfl) rfl
         go_wp2_with fail
         exact hK _ (.int .i64 (skD F)) _ (by simp only [Act.put, pA, pB, pC, e1]) ⟨hY, h5, h8, V.step 6 rfl⟩
       · have e3 := V.at (zdq hd 3 rfl) rfl
         go_wp2_with fail
         exact hK _ (.int .i64 (skD G)) _ (by simp only [Act.put, pA, pB, pC, e3]) ⟨hY, h5, h8, V.step 7 rfl⟩
       have e4 := V.at (zdq hd 4 rfl) rfl
       obtain ⟨gz, b, ea, hN, hk⟩ := (h5 (zdq hd 5 rfl)).out
       refine zsb 26 _ _ rfl b 512 (fl 64 (fun _ _ => 0)) ea e4 26 gz hk Try.size26 ?_
       exact hK _ undef _ rfl ⟨zr hY hN _, (fun h => (h5 h).row hk), (fun _ => by rw [show updV v 8 undef 5 = v 5 from rfl, ea]; exact PF.row hk hN _), V.skip 8 rfl⟩
     intro L v W2 hL ⟨hY, h5, h8, V⟩
     obtain ⟨k1_5, e5, hNk1_5, hk1_5⟩ := (h8 (hL 8 (by decide))).out
     have e0 := V.at (hL 0 (by decide)) rfl
     have e1 := V.at (hL 1 (by decide)) rfl
     have e2 := V.at (hL 2 (by decide)) rfl
     have e3 := V.at (hL 3 (by decide)) rfl
     have e4 := V.at (hL 4 (by decide)) rfl
     have e6 := V.at (hL 6 (by decide)) rfl
     have e7 := V.at (hL 7 (by decide)) rfl
     clear hL h5 h8 V
     replace B0 := B0.zw hY
     replace B1 := B1.zw hY
     replace B2 := B2.zw hY
     replace B3 := B3.zw hY
     replace hb := hb.trans (hY.mono hb.size)
     clear hY
     simp only [Exit.then, e5, e0, e1, e2, e3, e4, e6, e7]
     clear e5 e0 e1 e2 e3 e4 e6 e7
     have B4 := hk1_5
     clear hk1_5
     have zk1_5_0 : w.heap.size < k1_5 := by omega
     have zk1_5_1 : w.heap.size + 1 < k1_5 := by omega
     have zk1_5_2 : w.heap.size + 1 + 1 < k1_5 := by omega
     have zk1_5_3 : w.heap.size + 1 + 1 + 1 < k1_5 := by omega
     clear lt_B0 lt_B1 lt_B2 lt_B3
     go_upto_region 3 with (fail)
     have lt_B0 := B0.lt
     have lt_B1 := B1.lt
     have lt_B2 := B2.lt
     have lt_B3 := B3.lt
     have lt_B4 := B4.lt
     go_wp2_with (first | rw [← z64] | rw [← zero512] | (refine zla (.tmp 12) B4 Try.underlying26 Try.size26 ?_) | (refine zsr (.tmp 8) (.tmp 27) (fl 64 (fun _ _ => 0)) B3 Try.size26 ?_; try simp only [Act.put]; go_wp2_with fail))
     obtain ⟨W3, hwo, hzQ⟩ : ∃ v : World, v = (W2.setRow (w.heap.size + 1 + 1 + 1) (zb 512 (fl 64 (fun _ _ => 0)))) ∧ Blk v (w.heap.size) 64 24 (m) ∧ Blk v (w.heap.size + 1) 512 26 (fl 64 F) ∧ Blk v (w.heap.size + 1 + 1) 512 26 (fl 64 G) ∧ Blk v (w.heap.size + 1 + 1 + 1) 512 26 (fl 64 (fun _ _ => 0)) ∧ Blk v (k1_5) 512 26 (fl 64 (fun _ _ => 0)) ∧ Below w.heap.size w v := ⟨_, rfl, (B0.rowOther (by omega)), (B1.rowOther (by omega)), (B2.rowOther (by omega)), (B3.row (fl 64 (fun _ _ => 0))), (B4.rowOther (by omega)), (zr hb (by omega) _)⟩
     rw [← hwo]
     clear hwo B0 B1 B2 B3 B4 hb
     obtain ⟨B0, B1, B2, B3, B4, hb⟩ := hzQ
     try simp only [Act.put, pA, pB, pC]
     refine bodyPost_ret (zrt rfl _ _ _ 512 _ _ rfl B3 _ Try.underlying26 rfl Try.size26) rfl ⟨by first | (rw [HPZ.out]; done) | (rw [HPZ.out]; rfl), hb⟩
   have hzG : skD G < 0 := by omega
   have lt_B0 : (w.heap.size) < W1.heap.size := B0.lt
   have lt_B1 : (w.heap.size + 1) < W1.heap.size := B1.lt
   have lt_B2 : (w.heap.size + 1 + 1) < W1.heap.size := B2.lt
   have lt_B3 : (w.heap.size + 1 + 1 + 1) < W1.heap.size := B3.lt
   refine zq Try.mixed (by kernel_rfl) (by kernel_rfl) (fun v => by (simp only [frL, Act.put, pA, pB, pC, Nat.reduceAdd, Nat.zero_add]; exact rfl))
    (fun L v W2 => Below W1.heap.size W1 W2 ∧ (L 5 = true → AF (v 5) W2 W1.heap.size 512 26) ∧ (L 8 = true → PF (v 5) W2 W1.heap.size 512 26 (fl 64 (fun _ _ => 0))) ∧ VF L v [some (.agg (zb 512 (fl 64 F))), some (.int .i64 (skD F)), some (.agg (zb 512 (fl 64 G))), some (.int .i64 (skD G)), some (.agg (zb 512 (fl 64 (fun _ _ => 0)))), none, some (.int .i64 (skD F)), some (.int .i64 (skD G)), none]) ?_ ?_ ?_
   · intro v hv0
     exact ⟨(Below.refl _ W1).drew, (fun h => by cases h), (fun h => by cases h), VF.start⟩
   · refine (.cons rfl ?_ (.cons rfl ?_ (.cons rfl ?_ (.cons rfl ?_ (.cons rfl ?_ (.cons rfl ?_ (.cons rfl ?_ (.cons rfl ?_ (.cons rfl ?_ (.nil _))))))))))
     all_goals intro L v W2 hd hn ⟨hY, h5, h8, V⟩ K hK
     · refine zlc (B1.zw hY) Try.underlying26 Try.size26 ?_
       exact hK _ _ _ rfl ⟨hY, h5, h8, V.step 0 rfl⟩
     · have e0 := V.at (zdq hd 0 rfl) rfl
       go_wp2_with (go_at_call 10; refine (l03Deg_any F _).mono ?_; rintro e wy ⟨rfl, hy⟩)
       exact hK _ (.int .i64 (skD F)) _ (by simp only [Act.put, pA, pB, pC, e0]) ⟨hY.trans (hy.mono hY.size), (fun h => (h5 h).below hy), (fun h => (h8 h).below hy), V.step 1 rfl⟩
     · refine zlc (B2.zw hY) Try.underlying26 Try.size26 ?_
       exact hK _ _ _ rfl ⟨hY, h5, h8, V.step 2 rfl⟩
     · have e2 := V.at (zdq hd 2 rfl) rfl
       go_wp2_with (go_at_call 10; refine (l03Deg_any G _).mono ?_; rintro e wy ⟨rfl, hy⟩)
       exact hK _ (.int .i64 (skD G)) _ (by simp only [Act.put, pA, pB, pC, e2]) ⟨hY.trans (hy.mono hY.size), (fun h => (h5 h).below hy), (fun h => (h8 h).below hy), V.step 3 rfl⟩
     · go_wp2_with fail
       rw [← zero512]
       exact hK _ (.agg (zb 512 (fl 64 (fun _ _ => 0)))) _ (by simp only [Act.put, pA, pB, pC ]) ⟨hY, h5, h8, V.step 4 rfl⟩
     · go_wp2_with fail
       rw [← zero512]
       exact hK _ (.pointer (some ⟨W2.heap.size, 0, none⟩)) _ (by simp only [Act.put, pA, pB, pC ]) ⟨hY.alloc hY.size _, (fun _ => (PF.new W2 512 26 _ hY.size).af), (fun h => absurd rfl (hn 8 _ rfl h ⟨5, .data⟩ (by simp) rfl)), V.skip 5 rfl⟩
     · have e1 := V.at (zdq hd 1 rfl) rfl
       go_wp2_with fail
       exact hK _ (.int .i64 (skD F)) _ (by simp only [Act.put, pA, pB, pC, e1]) ⟨hY, h5, h8, V.step 6 rfl⟩
     · have e3 := V.at (zdq hd 3 rfl) rfl
       go_wp2_with fail
       exact hK _ (.int .i64 (skD G)) _ (by simp only [Act.put, pA, pB, pC, e3]) ⟨hY, h5, h8, V.step 7 rfl⟩
     have e4 := V.at (zdq hd 4 rfl) rfl
     obtain ⟨gz, b, ea, hN, hk⟩ := (h5 (zdq hd 5 rfl)).out
     refine zsb 26 _ _ rfl b 512 (fl 64 (fun _ _ => 0)) ea e4 26 gz hk Try.size26 ?_
     exact hK _ undef _ rfl ⟨zr hY hN _, (fun h => (h5 h).row hk), (fun _ => by rw [show updV v 8 undef 5 = v 5 from rfl, ea]; exact PF.row hk hN _), V.skip 8 rfl⟩
   intro L v W2 hL ⟨hY, h5, h8, V⟩
   obtain ⟨k1_5, e5, hNk1_5, hk1_5⟩ := (h8 (hL 8 (by decide))).out
   have e0 := V.at (hL 0 (by decide)) rfl
   have e1 := V.at (hL 1 (by decide)) rfl
   have e2 := V.at (hL 2 (by decide)) rfl
   have e3 := V.at (hL 3 (by decide)) rfl
   have e4 := V.at (hL 4 (by decide)) rfl
   have e6 := V.at (hL 6 (by decide)) rfl
   have e7 := V.at (hL 7 (by decide)) rfl
   clear hL h5 h8 V
   replace B0 := B0.zw hY
   replace B1 := B1.zw hY
   replace B2 := B2.zw hY
   replace B3 := B3.zw hY
   replace hb := hb.trans (hY.mono hb.size)
   clear hY
   simp only [Exit.then, e5, e0, e1, e2, e3, e4, e6, e7]
   clear e5 e0 e1 e2 e3 e4 e6 e7
   have B4 := hk1_5
   clear hk1_5
   have zk1_5_0 : w.heap.size < k1_5 := by omega
   have zk1_5_1 : w.heap.size + 1 < k1_5 := by omega
   have zk1_5_2 : w.heap.size + 1 + 1 < k1_5 := by omega
   have zk1_5_3 : w.heap.size + 1 + 1 + 1 < k1_5 := by omega
   clear lt_B0 lt_B1 lt_B2 lt_B3
   go_upto_region 3 with (fail)
   have lt_B0 := B0.lt
   have lt_B1 := B1.lt
   have lt_B2 := B2.lt
   have lt_B3 := B3.lt
   have lt_B4 := B4.lt
   go_wp2_with (first | rw [← z64] | rw [← zero512] | (refine zla (.tmp 12) B4 Try.underlying26 Try.size26 ?_) | (refine zsr (.tmp 8) (.tmp 27) (fl 64 (fun _ _ => 0)) B3 Try.size26 ?_; try simp only [Act.put]; go_wp2_with fail))
   obtain ⟨W3, hwo, hzQ⟩ : ∃ v : World, v = (W2.setRow (w.heap.size + 1 + 1 + 1) (zb 512 (fl 64 (fun _ _ => 0)))) ∧ Blk v (w.heap.size) 64 24 (m) ∧ Blk v (w.heap.size + 1) 512 26 (fl 64 F) ∧ Blk v (w.heap.size + 1 + 1) 512 26 (fl 64 G) ∧ Blk v (w.heap.size + 1 + 1 + 1) 512 26 (fl 64 (fun _ _ => 0)) ∧ Blk v (k1_5) 512 26 (fl 64 (fun _ _ => 0)) ∧ Below w.heap.size w v := ⟨_, rfl, (B0.rowOther (by omega)), (B1.rowOther (by omega)), (B2.rowOther (by omega)), (B3.row (fl 64 (fun _ _ => 0))), (B4.rowOther (by omega)), (zr hb (by omega) _)⟩
   rw [← hwo]
   clear hwo B0 B1 B2 B3 B4 hb
   obtain ⟨B0, B1, B2, B3, B4, hb⟩ := hzQ
   try simp only [Act.put, pA, pB, pC]
   refine bodyPost_ret (zrt rfl _ _ _ 512 _ _ rfl B3 _ Try.underlying26 rfl Try.size26) rfl ⟨by first | (rw [HPZ.out]; done) | (rw [HPZ.out]; rfl), hb⟩
 have hn1 : ¬ skD F < 0 := by omega
 have hn2 : ¬ skD G < 0 := by omega
 have lt_B0 : (w.heap.size) < W1.heap.size := B0.lt
 have lt_B1 : (w.heap.size + 1) < W1.heap.size := B1.lt
 have lt_B2 : (w.heap.size + 1 + 1) < W1.heap.size := B2.lt
 have lt_B3 : (w.heap.size + 1 + 1 + 1) < W1.heap.size := B3.lt
 refine zq Try.mixed (by kernel_rfl) (by kernel_rfl) (fun v => by (simp only [frL, Act.put, pA, pB, pC, Nat.reduceAdd, Nat.zero_add]; exact rfl))
  (fun L v W2 => Below W1.heap.size W1 W2 ∧ (L 5 = true → AF (v 5) W2 W1.heap.size 512 26) ∧ (L 8 = true → PF (v 5) W2 W1.heap.size 512 26 (fl 64 (fun _ _ => 0))) ∧ VF L v [some (.agg (zb 512 (fl 64 F))), some (.int .i64 (skD F)), some (.agg (zb 512 (fl 64 G))), some (.int .i64 (skD G)), some (.agg (zb 512 (fl 64 (fun _ _ => 0)))), none, some (.int .i64 (skD F)), some (.int .i64 (skD G)), none]) ?_ ?_ ?_
 · intro v hv0
   exact ⟨(Below.refl _ W1).drew, (fun h => by cases h), (fun h => by cases h), VF.start⟩
 · refine (.cons rfl ?_ (.cons rfl ?_ (.cons rfl ?_ (.cons rfl ?_ (.cons rfl ?_ (.cons rfl ?_ (.cons rfl ?_ (.cons rfl ?_ (.cons rfl ?_ (.nil _))))))))))
   all_goals intro L v W2 hd hn ⟨hY, h5, h8, V⟩ K hK
   · refine zlc (B1.zw hY) Try.underlying26 Try.size26 ?_
     exact hK _ _ _ rfl ⟨hY, h5, h8, V.step 0 rfl⟩
   · have e0 := V.at (zdq hd 0 rfl) rfl
     go_wp2_with (go_at_call 10; refine (l03Deg_any F _).mono ?_; rintro e wy ⟨rfl, hy⟩)
     exact hK _ (.int .i64 (skD F)) _ (by simp only [Act.put, pA, pB, pC, e0]) ⟨hY.trans (hy.mono hY.size), (fun h => (h5 h).below hy), (fun h => (h8 h).below hy), V.step 1 rfl⟩
   · refine zlc (B2.zw hY) Try.underlying26 Try.size26 ?_
     exact hK _ _ _ rfl ⟨hY, h5, h8, V.step 2 rfl⟩
   · have e2 := V.at (zdq hd 2 rfl) rfl
     go_wp2_with (go_at_call 10; refine (l03Deg_any G _).mono ?_; rintro e wy ⟨rfl, hy⟩)
     exact hK _ (.int .i64 (skD G)) _ (by simp only [Act.put, pA, pB, pC, e2]) ⟨hY.trans (hy.mono hY.size), (fun h => (h5 h).below hy), (fun h => (h8 h).below hy), V.step 3 rfl⟩
   · go_wp2_with fail
     rw [← zero512]
     exact hK _ (.agg (zb 512 (fl 64 (fun _ _ => 0)))) _ (by simp only [Act.put, pA, pB, pC ]) ⟨hY, h5, h8, V.step 4 rfl⟩
   · go_wp2_with fail
     rw [← zero512]
     exact hK _ (.pointer (some ⟨W2.heap.size, 0, none⟩)) _ (by simp only [Act.put, pA, pB, pC ]) ⟨hY.alloc hY.size _, (fun _ => (PF.new W2 512 26 _ hY.size).af), (fun h => absurd rfl (hn 8 _ rfl h ⟨5, .data⟩ (by simp) rfl)), V.skip 5 rfl⟩
   · have e1 := V.at (zdq hd 1 rfl) rfl
     go_wp2_with fail
     exact hK _ (.int .i64 (skD F)) _ (by simp only [Act.put, pA, pB, pC, e1]) ⟨hY, h5, h8, V.step 6 rfl⟩
   · have e3 := V.at (zdq hd 3 rfl) rfl
     go_wp2_with fail
     exact hK _ (.int .i64 (skD G)) _ (by simp only [Act.put, pA, pB, pC, e3]) ⟨hY, h5, h8, V.step 7 rfl⟩
   have e4 := V.at (zdq hd 4 rfl) rfl
   obtain ⟨gz, b, ea, hN, hk⟩ := (h5 (zdq hd 5 rfl)).out
   refine zsb 26 _ _ rfl b 512 (fl 64 (fun _ _ => 0)) ea e4 26 gz hk Try.size26 ?_
   exact hK _ undef _ rfl ⟨zr hY hN _, (fun h => (h5 h).row hk), (fun _ => by rw [show updV v 8 undef 5 = v 5 from rfl, ea]; exact PF.row hk hN _), V.skip 8 rfl⟩
 intro L v W2 hL ⟨hY, h5, h8, V⟩
 obtain ⟨k1_5, e5, hNk1_5, hk1_5⟩ := (h8 (hL 8 (by decide))).out
 have e0 := V.at (hL 0 (by decide)) rfl
 have e1 := V.at (hL 1 (by decide)) rfl
 have e2 := V.at (hL 2 (by decide)) rfl
 have e3 := V.at (hL 3 (by decide)) rfl
 have e4 := V.at (hL 4 (by decide)) rfl
 have e6 := V.at (hL 6 (by decide)) rfl
 have e7 := V.at (hL 7 (by decide)) rfl
 clear hL h5 h8 V
 replace B0 := B0.zw hY
 replace B1 := B1.zw hY
 replace B2 := B2.zw hY
 replace B3 := B3.zw hY
 replace hb := hb.trans (hY.mono hb.size)
 clear hY
 simp only [Exit.then, e5, e0, e1, e2, e3, e4, e6, e7]
 clear e5 e0 e1 e2 e3 e4 e6 e7
 have B4 := hk1_5
 clear hk1_5
 have zk1_5_0 : w.heap.size < k1_5 := by omega
 have zk1_5_1 : w.heap.size + 1 < k1_5 := by omega
 have zk1_5_2 : w.heap.size + 1 + 1 < k1_5 := by omega
 have zk1_5_3 : w.heap.size + 1 + 1 + 1 < k1_5 := by omega
 clear lt_B0 lt_B1 lt_B2 lt_B3
 go_upto_region 6 with (fail)
 clear hz
 go_wp2_with fail
 go_loopw [13] (fun c wr => ∃ (i : Nat) (O : Nat → Nat → Nat), c = .int .i64 (i : Int) ∧ i ≤ A ∧ Hid (O = tmR p m d F G B i) ∧ Below w.heap.size w wr ∧ Blk wr (w.heap.size + 1) 512 26 (fl 64 F) ∧ Blk wr (w.heap.size) 64 24 m ∧ Blk wr (w.heap.size + 1 + 1) 512 26 (fl 64 G) ∧ Blk wr (w.heap.size + 1 + 1 + 1) 512 26 (fl 64 (fun _ _ => 0)) ∧ Blk wr (k1_5) 512 26 (fl 64 O)) (fun c _ => A - (intOf c).toNat)
 case atStart => exact ⟨0, _, rfl, Nat.zero_le _, Lib.hid HZ.out.symm, hb, B1, B0, B2, B3, B4⟩
 case round =>
  clear hb B1 B0 B2 B3 B4
  obtain ⟨i, O, rfl, hiA, hO, hb, B1, B0, B2, B3, B4⟩ := hrel
  by_cases hi : i < A
  · have hiI : (i : Int) ≤ skD F := by have := HA.out; omega
    have hi8 : i < 8 := by omega
    go_wp2_with fail
    go_loopw [14] (fun c wr => ∃ (j : Nat) (O : Nat → Nat → Nat), c = .int .i64 (j : Int) ∧ j ≤ B ∧ Hid (O = tmJ p m d F G i (tmR p m d F G B i) j) ∧ Below w.heap.size w wr ∧ Blk wr (w.heap.size + 1) 512 26 (fl 64 F) ∧ Blk wr (w.heap.size) 64 24 m ∧ Blk wr (w.heap.size + 1 + 1) 512 26 (fl 64 G) ∧ Blk wr (w.heap.size + 1 + 1 + 1) 512 26 (fl 64 (fun _ _ => 0)) ∧ Blk wr (k1_5) 512 26 (fl 64 O)) (fun c _ => B - (intOf c).toNat)
    case atStart => exact ⟨0, O, rfl, Nat.zero_le _, Lib.hid (by rw [HJZ.out, hO.out]), hb, B1, B0, B2, B3, B4⟩
    case round =>
     clear hb B1 B0 B2 B3 B4 hO
     obtain ⟨j, O, rfl, hjB, hO, hb, B1, B0, B2, B3, B4⟩ := hrel
     by_cases hj : j < B
     · have hjI : (j : Int) ≤ skD G := by have := HB.out; omega
       have hj8 : j < 8 := by omega
       obtain ⟨Q, hQ⟩ : ∃ Q, Q = i + j := ⟨_, rfl⟩
       have hQI : (i : Int) + (j : Int) = (Q : Int) := by omega
       have hQ8 : Q < 8 := by omega
       have HQ := Lib.hid hQ
       clear hQ
       have HOL := Lib.hid (show ∀ k, O Q k < p from fun k => by rw [hO.out]; exact HJL.out i j Q k)
       have HK1 := Lib.hid (HFR.out i hi8 j hj8)
       have HK2 := Lib.hid (HMM.out i hi8 j hj8)
       have HK3 := Lib.hid (HSU.out (O Q) (mmP p (F i) (frN p m (G j) (i % d)) m) HOL.out (HML.out i j))
       go_upto_region 12 with (fail)
       have lt_B0 : (w.heap.size) < wr.heap.size := B0.lt
       have lt_B1 : (w.heap.size + 1) < wr.heap.size := B1.lt
       have lt_B2 : (w.heap.size + 1 + 1) < wr.heap.size := B2.lt
       have lt_B3 : (w.heap.size + 1 + 1 + 1) < wr.heap.size := B3.lt
       have lt_B4 : (k1_5) < wr.heap.size := B4.lt
       refine zq Try.mixed (by kernel_rfl) (by kernel_rfl) (fun v => by (simp only [frL, Act.put, pA, pB, pC, Nat.reduceAdd, Nat.zero_add]; exact rfl))
        (fun L v W3 => Below wr.heap.size wr W3 ∧ (L 13 = true → AF (v 13) W3 wr.heap.size 64 24) ∧ (L 14 = true → PF (v 13) W3 wr.heap.size 64 24 (mmP p (F i) (frN p m (G j) (i % d)) m)) ∧ VF L v [some (.int .i64 (p : Int)), some (.int .i64 (i : Int)), some (.pointer (some ⟨w.heap.size + 1, i * 64, none⟩)), some (.agg (zb 64 (F i))), some (.int .i64 (p : Int)), some (.int .i64 (j : Int)), some (.pointer (some ⟨w.heap.size + 1 + 1, j * 64, none⟩)), some (.agg (zb 64 (G j))), some (.int .i64 (i : Int)), some (.agg (zb 64 (m))), some (.agg (zb 64 (frN p m (G j) (i % d)))), some (.agg (zb 64 (m))), some (.agg (zb 64 (mmP p (F i) (frN p m (G j) (i % d)) m))), none, none]) ?_ ?_ ?_
       · intro v hv0
         exact ⟨(Below.refl _ wr).drew, (fun h => by cases h), (fun h => by cases h), VF.start⟩
       · refine (.cons rfl ?_ (.cons rfl ?_ (.cons rfl ?_ (.cons rfl ?_ (.cons rfl ?_ (.cons rfl ?_ (.cons rfl ?_ (.cons rfl ?_ (.cons rfl ?_ (.cons rfl ?_ (.cons rfl ?_ (.cons rfl ?_ (.cons rfl ?_ (.cons rfl ?_ (.cons rfl ?_ (.nil _))))))))))))))))
         all_goals intro L v W3 hd hn ⟨hY, h13, h14, V⟩ K hK
         · go_wp2_with fail
           exact hK _ (.int .i64 (p : Int)) _ (by simp only [Act.put, pA, pB, pC ]) ⟨hY, h13, h14, V.step 0 rfl⟩
         · go_wp2_with fail
           exact hK _ (.int .i64 (i : Int)) _ (by simp only [Act.put, pA, pB, pC ]) ⟨hY, h13, h14, V.step 1 rfl⟩
         · have e1 := V.at (zdq hd 1 rfl) rfl
           go_wp2_with fail
           exact hK _ (.pointer (some ⟨w.heap.size + 1, i * 64, none⟩)) _ (by simp only [Act.put, pA, pB, pC, e1]) ⟨hY, h13, h14, V.step 2 rfl⟩
         · have e2 := V.at (zdq hd 2 rfl) rfl
           refine wp_load_mid 24 _ rfl _ (i * 64) e2 _ _ (((B1.zw hY)).sk (by omega)) Try.underlying24 rfl (by rw [zl]; exact Try.size24) ?_
           exact hK _ _ _ rfl ⟨hY, h13, h14, V.step 3 rfl⟩
         · go_wp2_with fail
           exact hK _ (.int .i64 (p : Int)) _ (by simp only [Act.put, pA, pB, pC ]) ⟨hY, h13, h14, V.step 4 rfl⟩
         · go_wp2_with fail
           exact hK _ (.int .i64 (j : Int)) _ (by simp only [Act.put, pA, pB, pC ]) ⟨hY, h13, h14, V.step 5 rfl⟩
         · have e5 := V.at (zdq hd 5 rfl) rfl
           go_wp2_with fail
           exact hK _ (.pointer (some ⟨w.heap.size + 1 + 1, j * 64, none⟩)) _ (by simp only [Act.put, pA, pB, pC, e5]) ⟨hY, h13, h14, V.step 6 rfl⟩
         · have e6 := V.at (zdq hd 6 rfl) rfl
           refine wp_load_mid 24 _ rfl _ (j * 64) e6 _ _ (((B2.zw hY)).sk (by omega)) Try.underlying24 rfl (by rw [zl]; exact Try.size24) ?_
           exact hK _ _ _ rfl ⟨hY, h13, h14, V.step 7 rfl⟩
         · go_wp2_with fail
           exact hK _ (.int .i64 (i : Int)) _ (by simp only [Act.put, pA, pB, pC ]) ⟨hY, h13, h14, V.step 8 rfl⟩
         · refine zlc (B0.zw hY) Try.underlying24 Try.size24 ?_
           exact hK _ _ _ rfl ⟨hY, h13, h14, V.step 9 rfl⟩
         · have e4 := V.at (zdq hd 4 rfl) rfl
           have e7 := V.at (zdq hd 7 rfl) rfl
           have e8 := V.at (zdq hd 8 rfl) rfl
           have e9 := V.at (zdq hd 9 rfl) rfl
           go_wp2_with (go_at_call 43; refine (HK1.out _).mono ?_; rintro e wy ⟨rfl, hy⟩)
           exact hK _ (.agg (zb 64 (frN p m (G j) (i % d)))) _ (by simp only [Act.put, pA, pB, pC, e4, e7, e8, e9]) ⟨hY.trans (hy.mono hY.size), (fun h => (h13 h).below hy), (fun h => (h14 h).below hy), V.step 10 rfl⟩
         · refine zlc (B0.zw hY) Try.underlying24 Try.size24 ?_
           exact hK _ _ _ rfl ⟨hY, h13, h14, V.step 11 rfl⟩
         · have e0 := V.at (zdq hd 0 rfl) rfl
           have e3 := V.at (zdq hd 3 rfl) rfl
           have e10 := V.at (zdq hd 10 rfl) rfl
           have e11 := V.at (zdq hd 11 rfl) rfl
           go_wp2_with (go_at_call 41; refine (HK2.out _).mono ?_; rintro e wy ⟨rfl, hy⟩)
           exact hK _ (.agg (zb 64 (mmP p (F i) (frN p m (G j) (i % d)) m))) _ (by simp only [Act.put, pA, pB, pC, e0, e3, e10, e11]) ⟨hY.trans (hy.mono hY.size), (fun h => (h13 h).below hy), (fun h => (h14 h).below hy), V.step 12 rfl⟩
         · go_wp2_with fail
           rw [← z64]
           exact hK _ (.pointer (some ⟨W3.heap.size, 0, none⟩)) _ (by simp only [Act.put, pA, pB, pC ]) ⟨hY.alloc hY.size _, (fun _ => (PF.new W3 64 24 _ hY.size).af), (fun h => absurd rfl (hn 14 _ rfl h ⟨13, .data⟩ (by simp) rfl)), V.skip 13 rfl⟩
         have e12 := V.at (zdq hd 12 rfl) rfl
         obtain ⟨gz, b, ea, hN, hk⟩ := (h13 (zdq hd 13 rfl)).out
         refine zsb 24 _ _ rfl b 64 (mmP p (F i) (frN p m (G j) (i % d)) m) ea e12 24 gz hk Try.size24 ?_
         exact hK _ undef _ rfl ⟨zr hY hN _, (fun h => (h13 h).row hk), (fun _ => by rw [show updV v 14 undef 13 = v 13 from rfl, ea]; exact PF.row hk hN _), V.skip 14 rfl⟩
       intro L v W3 hL ⟨hY, h13, h14, V⟩
       obtain ⟨k12_13, e13, hNk12_13, hk12_13⟩ := (h14 (hL 14 (by decide))).out
       have e0 := V.at (hL 0 (by decide)) rfl
       have e1 := V.at (hL 1 (by decide)) rfl
       have e2 := V.at (hL 2 (by decide)) rfl
       have e3 := V.at (hL 3 (by decide)) rfl
       have e4 := V.at (hL 4 (by decide)) rfl
       have e5 := V.at (hL 5 (by decide)) rfl
       have e6 := V.at (hL 6 (by decide)) rfl
       have e7 := V.at (hL 7 (by decide)) rfl
       have e8 := V.at (hL 8 (by decide)) rfl
       have e9 := V.at (hL 9 (by decide)) rfl
       have e10 := V.at (hL 10 (by decide)) rfl
       have e11 := V.at (hL 11 (by decide)) rfl
       have e12 := V.at (hL 12 (by decide)) rfl
       clear hL h13 h14 V
       replace B0 := B0.zw hY
       replace B1 := B1.zw hY
       replace B2 := B2.zw hY
       replace B3 := B3.zw hY
       replace B4 := B4.zw hY
       replace hb := hb.trans (hY.mono hb.size)
       clear hY
       simp only [Exit.then, e13, e0, e1, e2, e3, e4, e5, e6, e7, e8, e9, e10, e11, e12]
       clear e13 e0 e1 e2 e3 e4 e5 e6 e7 e8 e9 e10 e11 e12
       have B5 := hk12_13
       clear hk12_13
       have zk12_13_0 : w.heap.size < k12_13 := by omega
       have zk12_13_1 : w.heap.size + 1 < k12_13 := by omega
       have zk12_13_2 : w.heap.size + 1 + 1 < k12_13 := by omega
       have zk12_13_3 : w.heap.size + 1 + 1 + 1 < k12_13 := by omega
       have zk12_13_4 : k1_5 < k12_13 := by omega
       clear lt_B0 lt_B1 lt_B2 lt_B3 lt_B4
       go_upto_region 13 with (fail)
       have lt_B0 : (w.heap.size) < W3.heap.size := B0.lt
       have lt_B1 : (w.heap.size + 1) < W3.heap.size := B1.lt
       have lt_B2 : (w.heap.size + 1 + 1) < W3.heap.size := B2.lt
       have lt_B3 : (w.heap.size + 1 + 1 + 1) < W3.heap.size := B3.lt
       have lt_B4 : (k1_5) < W3.heap.size := B4.lt
       have lt_B5 : (k12_13) < W3.heap.size := B5.lt
       have hbase : w.heap.size ≤ W3.heap.size := hb.size
       refine zq Try.mixed (by kernel_rfl) (by kernel_rfl) (fun v => by (simp only [frL, Act.put, pA, pB, pC, Nat.reduceAdd, Nat.zero_add]; exact rfl))
        (fun L v W4 => Below w.heap.size w W4 ∧ Kx [k1_5] W3 W4 ∧ (∃ g, Blk W4 (k1_5) 512 26 (g)) ∧ (L 12 = false → Blk W4 (k1_5) 512 26 (fl 64 O)) ∧ (L 12 = true → Blk W4 (k1_5) 512 26 (fl 64 (updR O Q (addK p (O Q) (mmP p (F i) (frN p m (G j) (i % d)) m) 1)))) ∧ VF L v [some (.int .i64 (i : Int)), some (.int .i64 (j : Int)), some (.int .i64 (Q : Int)), some (.int .i64 (p : Int)), some (.int .i64 (i : Int)), some (.int .i64 (j : Int)), some (.int .i64 (Q : Int)), some (.pointer (some ⟨k1_5, Q * 64, none⟩)), some (.agg (zb 64 (O Q))), some (.agg (zb 64 (mmP p (F i) (frN p m (G j) (i % d)) m))), some (.agg (zb 64 (addK p (O Q) (mmP p (F i) (frN p m (G j) (i % d)) m) 1))), some (.pointer (some ⟨k1_5, Q * 64, none⟩)), none]) ?_ ?_ ?_
       · intro v hv0
         exact ⟨hb.drew, Kx.start _ _, ⟨_, B4.drew⟩, (fun _ => B4.drew), (fun h => by cases h), VF.start⟩
       · refine (.cons rfl ?_ (.cons rfl ?_ (.cons rfl ?_ (.cons rfl ?_ (.cons rfl ?_ (.cons rfl ?_ (.cons rfl ?_ (.cons rfl ?_ (.cons rfl ?_ (.cons rfl ?_ (.cons rfl ?_ (.cons rfl ?_ (.cons rfl ?_ (.nil _))))))))))))))
         all_goals intro L v W4 hd hn ⟨hB, hX, x4, q4, n4, V⟩ K hK
         · go_wp2_with fail
           exact hK _ (.int .i64 (i : Int)) _ (by simp only [Act.put, pA, pB, pC ]) ⟨hB, hX, x4, q4, n4, V.step 0 rfl⟩
         · go_wp2_with fail
           exact hK _ (.int .i64 (j : Int)) _ (by simp only [Act.put, pA, pB, pC ]) ⟨hB, hX, x4, q4, n4, V.step 1 rfl⟩
         · have e0 := V.at (zdq hd 0 rfl) rfl
           have e1 := V.at (zdq hd 1 rfl) rfl
           go_wp2_with fail
           exact hK _ (.int .i64 (Q : Int)) _ (by simp only [Act.put, pA, pB, pC, e0, e1]) ⟨hB, hX, x4, q4, n4, V.step 2 rfl⟩
         · go_wp2_with fail
           exact hK _ (.int .i64 (p : Int)) _ (by simp only [Act.put, pA, pB, pC ]) ⟨hB, hX, x4, q4, n4, V.step 3 rfl⟩
         · go_wp2_with fail
           exact hK _ (.int .i64 (i : Int)) _ (by simp only [Act.put, pA, pB, pC ]) ⟨hB, hX, x4, q4, n4, V.step 4 rfl⟩
         · go_wp2_with fail
           exact hK _ (.int .i64 (j : Int)) _ (by simp only [Act.put, pA, pB, pC ]) ⟨hB, hX, x4, q4, n4, V.step 5 rfl⟩
         · have e4 := V.at (zdq hd 4 rfl) rfl
           have e5 := V.at (zdq hd 5 rfl) rfl
           go_wp2_with fail
           exact hK _ (.int .i64 (Q : Int)) _ (by simp only [Act.put, pA, pB, pC, e4, e5]) ⟨hB, hX, x4, q4, n4, V.step 6 rfl⟩
         · have e6 := V.at (zdq hd 6 rfl) rfl
           go_wp2_with fail
           exact hK _ (.pointer (some ⟨k1_5, Q * 64, none⟩)) _ (by simp only [Act.put, pA, pB, pC, e6]) ⟨hB, hX, x4, q4, n4, V.step 7 rfl⟩
         · have e7 := V.at (zdq hd 7 rfl) rfl
           have s4 := q4 (by
            cases hL : L 12 with
            | false => rfl
            | true => exact absurd rfl (hn 12 _ rfl hL ⟨8, .phase⟩ (by simp) rfl))
           refine wp_load_mid 24 _ rfl _ (Q * 64) e7 _ _ ((s4).sk (by omega)) Try.underlying24 rfl (by rw [zl]; exact Try.size24) ?_
           exact hK _ _ _ rfl ⟨hB, hX, x4, q4, n4, V.step 8 rfl⟩
         · refine wp_load_any 24 _ rfl _ rfl 64 24 _ (B5.kx hX (by simp <;> omega)) _ Try.underlying24 rfl Try.size24 ?_
           exact hK _ _ _ rfl ⟨hB, hX, x4, q4, n4, V.step 9 rfl⟩
         · have e3 := V.at (zdq hd 3 rfl) rfl
           have e8 := V.at (zdq hd 8 rfl) rfl
           have e9 := V.at (zdq hd 9 rfl) rfl
           go_wp2_with (go_at_call 45; refine (HK3.out _).mono ?_; rintro e wy ⟨rfl, hy⟩)
           exact hK _ (.agg (zb 64 (addK p (O Q) (mmP p (F i) (frN p m (G j) (i % d)) m) 1))) _ (by simp only [Act.put, pA, pB, pC, e3, e8, e9]) ⟨hB.trans (hy.mono hB.size), hX.below hy, (let ⟨g, h⟩ := x4; ⟨g, h.zw hy⟩), (fun h => (q4 h).below hy (q4 h).lt), (fun h => (n4 h).below hy (n4 h).lt), V.step 10 rfl⟩
         · have e2 := V.at (zdq hd 2 rfl) rfl
           go_wp2_with fail
           exact hK _ (.pointer (some ⟨k1_5, Q * 64, none⟩)) _ (by simp only [Act.put, pA, pB, pC, e2]) ⟨hB, hX, x4, q4, n4, V.step 11 rfl⟩
         have e11 := V.at (zdq hd 11 rfl) rfl
         have e10 := V.at (zdq hd 10 rfl) rfl
         obtain ⟨gz, hk, hg⟩ : ∃ gz, Blk W4 (k1_5) 512 26 (fl 64 gz) ∧ updR gz (Q) (addK p (O Q) (mmP p (F i) (frN p m (G j) (i % d)) m) 1) = updR O (Q) (addK p (O Q) (mmP p (F i) (frN p m (G j) (i % d)) m) 1) := by
          cases hL : L 12 with
          | false => exact ⟨_, q4 hL, rfl⟩
          | true => exact ⟨_, n4 hL, updR_twice _ _ _⟩
         refine wp_store_sk 24 _ _ rfl _ (Q) (addK p (O Q) (mmP p (F i) (frN p m (G j) (i % d)) m) 1) e11 e10 26 gz hk (by omega) Try.size24 ?_
         rw [hg]
         exact hK _ undef _ rfl ⟨zr hB (by omega) _, hX.row (by simp) _, ⟨_, hk.row _⟩, (fun h => absurd h (by simp [setL])), (fun _ => hk.row _), V.skip 12 rfl⟩
       intro L v W4 hL ⟨hB, hX, x4, q4, n4, V⟩
       have r4 := n4 (hL 12 (by decide))
       have e0 := V.at (hL 0 (by decide)) rfl
       have e1 := V.at (hL 1 (by decide)) rfl
       have e2 := V.at (hL 2 (by decide)) rfl
       have e3 := V.at (hL 3 (by decide)) rfl
       have e4 := V.at (hL 4 (by decide)) rfl
       have e5 := V.at (hL 5 (by decide)) rfl
       have e6 := V.at (hL 6 (by decide)) rfl
       have e7 := V.at (hL 7 (by decide)) rfl
       have e8 := V.at (hL 8 (by decide)) rfl
       have e9 := V.at (hL 9 (by decide)) rfl
       have e10 := V.at (hL 10 (by decide)) rfl
       have e11 := V.at (hL 11 (by decide)) rfl
       clear hL x4 q4 n4 V
       replace B0 := B0.kx hX (by simp <;> omega)
       replace B1 := B1.kx hX (by simp <;> omega)
       replace B2 := B2.kx hX (by simp <;> omega)
       replace B3 := B3.kx hX (by simp <;> omega)
       replace B5 := B5.kx hX (by simp <;> omega)
       clear hX
       simp only [Exit.then, e0, e1, e2, e3, e4, e5, e6, e7, e8, e9, e10, e11]
       clear e0 e1 e2 e3 e4 e5 e6 e7 e8 e9 e10 e11
       replace B4 := r4
       clear r4
       replace hb := hB
       clear hB
       clear hbase lt_B0 lt_B1 lt_B2 lt_B3 lt_B4 lt_B5
       go_wp2_with fail
       go_roundw
       case rel => exact ⟨j + 1, _, by go_num, by omega, Lib.hid (by rw [HJS.out, ← hO.out, ← HQ.out]), hb, B1, B0, B2, B3, B4⟩
       case measure => simp [intOf] <;> omega
     have hjI : ¬ (j : Int) ≤ skD G := by have := HB.out; omega
     obtain rfl : j = B := by omega
     go_wp2_with fail
     go_roundw
     case rel => exact ⟨i + 1, O, by go_num, by omega, Lib.hid (by rw [HS.out, hO.out]), hb, B1, B0, B2, B3, B4⟩
     case measure => simp [intOf] <;> omega
  have hiI : ¬ (i : Int) ≤ skD F := by have := HA.out; omega
  obtain rfl : i = A := by omega
  go_upto_region 14 with (fail)
  have lt_B0 := B0.lt
  have lt_B1 := B1.lt
  have lt_B2 := B2.lt
  have lt_B3 := B3.lt
  have lt_B4 := B4.lt
  go_wp2_with (first | rw [← z64] | rw [← zero512] | (refine zla (.tmp 12) B4 Try.underlying26 Try.size26 ?_) | (refine zsr (.tmp 8) (.tmp 68) (fl 64 O) B3 Try.size26 ?_; try simp only [Act.put]; go_wp2_with fail))
  obtain ⟨W3, hwo, hzQ⟩ : ∃ v : World, v = (wr.setRow (w.heap.size + 1 + 1 + 1) (zb 512 (fl 64 O))) ∧ Blk v (w.heap.size) 64 24 (m) ∧ Blk v (w.heap.size + 1) 512 26 (fl 64 F) ∧ Blk v (w.heap.size + 1 + 1) 512 26 (fl 64 G) ∧ Blk v (w.heap.size + 1 + 1 + 1) 512 26 (fl 64 O) ∧ Blk v (k1_5) 512 26 (fl 64 O) ∧ Below w.heap.size w v := ⟨_, rfl, (B0.rowOther (by omega)), (B1.rowOther (by omega)), (B2.rowOther (by omega)), (B3.row (fl 64 O)), (B4.rowOther (by omega)), (zr hb (by omega) _)⟩
  rw [← hwo]
  clear hwo B0 B1 B2 B3 B4 hb
  obtain ⟨B0, B1, B2, B3, B4, hb⟩ := hzQ
  try simp only [Act.put, pA, pB, pC]
  refine bodyPost_ret (zrt rfl _ _ _ 512 _ _ rfl B3 _ Try.underlying26 rfl Try.size26) rfl ⟨by first | (rw [HP.out, ← hO.out]; done) | (rw [HP.out, ← hO.out]; rfl), hb⟩
end Go.Proofs.Ytoncepgcfifgbab
namespace Go.Proofs.Ytoncepgcfifgbab
open Rg
theorem dgz_out {x : Nat → Nat} (h : deg x < 0) : ∀ k, k < 64 → x k = 0 := by
 intro k hk
 rcases deg_spec x with ⟨_, h2⟩ | ⟨d, _, h2, _, _⟩
 · exact h2 k hk
 omega
theorem deg_nonneg {x : Nat → Nat} (h : 0 ≤ deg x) : ∃ k, k < 64 ∧ x k ≠ 0 := by
 rcases deg_spec x with ⟨h2, _⟩ | ⟨d, hd, _, h2, _⟩
 · omega
 exact ⟨d, hd, h2⟩
theorem deg_congr0 {x y : Nat → Nat} (h : ∀ k, k < 64 → x k = y k) (hx : 0 ≤ deg x) : 0 ≤ deg y := by
 by_cases hy : 0 ≤ deg y
 · exact hy
 obtain ⟨k, hk, h2⟩ := deg_nonneg hx
 exact absurd ((h k hk).trans (dgz_out (x := y) (by omega) k hk)) h2
theorem zero_rsd {p : Nat} {m : Nat → Nat} (hp : 0 < p) (h0 : 0 ≤ deg m) : rsd p m (fun _ => 0) := by
 refine ⟨fun _ _ => hp, ?_⟩
 rcases deg_spec (fun _ => 0) with ⟨h, _⟩ | ⟨d, _, _, h, _⟩
 · omega
 exact absurd rfl h
theorem mm_rsd {p : Nat} {m a b : Nat → Nat} (hp : p = 2 ∨ p = 3 ∨ p = 5 ∨ p = 7) (lm : ∀ k, k < 64 → m k < p) (h0 : 0 ≤ deg m) : rsd p m (mmP p a b m) := ⟨fun k hk => mmP_lt (by omega) k (by omega), mmP_deg hp lm h0⟩
section
variable {p : Nat} {m : Nat → Nat} {d : Nat} (hp : p = 2 ∨ p = 3 ∨ p = 5 ∨ p = 7) (lm : ∀ k, k < 64 → m k < p) (hmon : mon m d) (hi : irr p (cut m) d)
include hp lm hmon hi
theorem inv_res {y : Nat → Nat} (hy : rsd p m y) (hy0 : 0 ≤ deg y) : (rs (bzU p y m) * rs y : Res p (lz m)) = e := by
 have hdm := hmon.1
 obtain ⟨a1, ⟨j, hj⟩, a3, a4⟩ := bz_all hp hy.1 lm (.inl hy0)
 obtain ⟨b1, b2⟩ := (a4 _).1 (dv_self (lz (bzD p y m)))
 have e1 : lz (cut m) = lz m := by funext k; unfold lz; rw [cut_cut]
 have hj0 : j = 0 := by
  rcases hi.2.2.2 _ j a1 hj (by rw [e1]; exact b2) with h | h
  · exact h
  have h2 := dv_deg hy.1 hj b1 hy0
  have h3 := hy.2
  omega
 subst hj0
 have h1 := one_of_mon0 hj
 have key : (cl oneS fin_oneS : Res p (lz m)) = cl (az (mz (lz (bzU p y m)) (lz y)) (mz (lz (bzW p y m)) (lz m))) (fin_az (fin_mz (fin_lz _) (fin_lz _)) (fin_mz (fin_lz _) (fin_lz _))) := cl_eq.2 (rm_of_cg (by rw [← h1]; exact a3))
 have hz : (cl (mz (lz (bzW p y m)) (lz m)) (fin_mz (fin_lz _) (fin_lz _)) : Res p (lz m)) = o := cl_eq.2 (rm_zero (fin_lz _))
 have h2 : (cl (az (mz (lz (bzU p y m)) (lz y)) (mz (lz (bzW p y m)) (lz m))) (fin_az (fin_mz (fin_lz _) (fin_lz _)) (fin_mz (fin_lz _) (fin_lz _))) : Res p (lz m)) = rs (bzU p y m) * rs y + cl (mz (lz (bzW p y m)) (lz m)) (fin_mz (fin_lz _) (fin_lz _)) := rfl
 rw [h2, hz, addo] at key
 exact key.symm
theorem quo_spec {x y : Nat → Nat} (hx : rsd p m x) (hy : rsd p m y) (hy0 : 0 ≤ deg y) : ∀ k, k < 64 → mmP p (mmP p x (bzU p y m) m) y m k = x k := by
 have h0 : 0 ≤ deg m := by rw [hmon.1]; omega
 refine rsd_eq hp lm h0 (mm_rsd hp lm h0) hx ?_
 rw [rs_mm hp lm h0, rs_mm hp lm h0, massoc, inv_res hp lm hmon hi hy hy0, mule]
theorem frN_ne {y : Nat → Nat} (h9 : d ≤ 9) (hy : rsd p m y) (hy0 : 0 ≤ deg y) {n : Nat} (hn : n ≤ d) : 0 ≤ deg (frN p m y n) := by
 have h0 : 0 ≤ deg m := by rw [hmon.1]; omega
 have h9' : deg m ≤ 9 := by rw [hmon.1]; omega
 by_cases h : 0 ≤ deg (frN p m y n)
 · exact h
 exfalso
 obtain ⟨a, b⟩ := frN_ok hp lm h0 h9' hy n
 obtain ⟨a2, b2⟩ := frN_ok hp lm h0 h9' hy d
 have hz : (rs (frN p m y n) : Res p (lz m)) = o := by
  rw [← rs_zero]
  exact cl_congr (by
   funext k
   unfold lz cut
   by_cases hk : k < 64
   · rw [if_pos hk, if_pos hk, dgz_out (x := frN p m y n) (by omega) k hk]
   rw [if_neg hk, if_neg hk])
 have hd : (rs (frN p m y d) : Res p (lz m)) = rs y := cl_congr (by
  funext k
  unfold lz cut
  by_cases hk : k < 64
  · rw [if_pos hk, if_pos hk, frN_d hp lm h0 h9' hi hy k hk]
  rw [if_neg hk, if_neg hk])
 have h3 : (rs y : Res p (lz m)) = o := by
  rw [← hd, b2, show d = n + (d - n) by omega, fr_add, ← b, hz, fr_o (by omega)]
 have h4 := rsd_eq hp lm h0 hy (zero_rsd (by omega) h0) (by rw [h3, rs_zero])
 obtain ⟨k, hk, h5⟩ := deg_nonneg hy0
 exact h5 (h4 k hk)
end
theorem tmJ_hi {p : Nat} {m : Nat → Nat} {d : Nat} {F G O : Nat → Nat → Nat} {i : Nat} : ∀ j r, i + j ≤ r → tmJ p m d F G i O j r = O r
 | 0, r, _ => by rw [tmJ_z]
 | j + 1, r, h => by rw [tmJ_s, updR_other (by omega)]; exact tmJ_hi j r (by omega)
theorem tmR_hi {p : Nat} {m : Nat → Nat} {d : Nat} {F G : Nat → Nat → Nat} {n : Nat} : ∀ i r, i + n ≤ r + 1 → tmR p m d F G n i r = fun _ => 0
 | 0, r, _ => by rw [tmR_z]
 | i + 1, r, h => by rw [tmR_s, tmJ_hi n r (by omega)]; exact tmR_hi i r (by omega)
theorem tmR_top {p : Nat} {m : Nat → Nat} {d : Nat} {F G : Nat → Nat → Nat} {a b : Nat} : tmR p m d F G (b + 1) (a + 1) (a + b) = addK p (fun _ => 0) (mmP p (F a) (frN p m (G b) (a % d)) m) 1 := by
 rw [tmR_s, tmJ_s, updR_same, tmJ_hi b (a + b) (Nat.le_refl _), tmR_hi a (a + b) (by omega)]
theorem tmP_top {p : Nat} {m : Nat → Nat} {d : Nat} {F G : Nat → Nat → Nat} {a b : Nat} (hp : 0 < p) (hF : skD F = (a : Int)) (hG : skD G = (b : Int)) : ∀ k, k < 64 → tmP p m d F G (a + b) k = mmP p (F a) (frN p m (G b) (a % d)) m k := by
 intro k hk
 rw [tmP_at (a := a + 1) (b := b + 1) (by omega) (by omega), tmR_top, addK_one]
 show (0 + _) % p = _
 rw [Nat.zero_add, Nat.mod_eq_of_lt (mmP_lt hp k (by omega))]
theorem tmP_hi {p : Nat} {m : Nat → Nat} {d : Nat} {F G : Nat → Nat → Nat} {a b r : Nat} (hF : skD F = (a : Int)) (hG : skD G = (b : Int)) (h : a + b < r) : tmP p m d F G r = fun _ => 0 := by
 rw [tmP_at (a := a + 1) (b := b + 1) (by omega) (by omega)]; exact tmR_hi _ _ (by omega)
theorem skD_lt {F : Nat → Nat → Nat} {n : Nat} (h : ∀ i, n ≤ i → i < 8 → ∀ k, k < 64 → F i k = 0) : skD F < (n : Int) := by
 obtain ⟨b1, b2⟩ := zsd F
 by_cases h2 : skD F < (n : Int)
 · exact h2
 obtain ⟨i, hi⟩ : ∃ i : Nat, skD F = (i : Int) := ⟨(skD F).toNat, by omega⟩
 have h3 := skN_at F 8 i (by unfold skD at hi; exact hi)
 have h4 : eqN 64 (F i) (fun _ => 0) = true := eqN_iff.2 (h i (by omega) (by omega))
 rw [h4] at h3; cases h3
def sng (i : Nat) (a : Nat → Nat) : Nat → Nat → Nat := updR (fun _ _ => 0) i a
theorem sng_deg {i : Nat} {a : Nat → Nat} (hi : i < 8) (ha : 0 ≤ deg a) : skD (sng i a) = (i : Int) := by
 have h1 : skD (sng i a) < ((i + 1 : Nat) : Int) := skD_lt (fun j hj _ k _ => by unfold sng; rw [updR_other (by omega)])
 by_cases h : skD (sng i a) < (i : Int)
 · have h2 := skN_spec (sng i a) 8 i hi (by unfold skD at h; exact h)
   obtain ⟨k, hk, h3⟩ := deg_nonneg ha
   have h4 := eqN_iff.1 h2 k hk
   unfold sng at h4; rw [updR_same] at h4
   exact absurd h4 h3
 omega
end Go.Proofs.Ytoncepgcfifgbab
namespace Go.Proofs.Ytoncepgcfifgbab
open Rg
def rsk (p : Nat) (m : Nat → Nat) (F : Nat → Nat → Nat) : Prop := ∀ i, i < 8 → rsd p m (F i)
def dvA (p : Nat) (m : Nat → Nat) (d : Nat) (F G : Nat → Nat → Nat) : Nat → Nat :=
 mmP p (F (skD F).toNat) (bzU p (frN p m (G (skD G).toNat) (((skD F).toNat - (skD G).toNat) % d)) m) m
def dvT (p : Nat) (m : Nat → Nat) (d : Nat) (F G : Nat → Nat → Nat) : Nat → Nat → Nat := sng ((skD F).toNat - (skD G).toNat) (dvA p m d F G)
def dvF (p : Nat) (m : Nat → Nat) (d : Nat) (F G : Nat → Nat → Nat) : Nat → Nat → Nat := skA p F (tmP p m d (dvT p m d F G) G) (-1)
theorem addK_rsd {p : Nat} {m f g : Nat → Nat} {c : Int} (hp : 0 < p) (h0 : 0 ≤ deg m) (hf : rsd p m f) (hg : rsd p m g) : rsd p m (addK p f g c) := ⟨fun k _ => addK_lt hp k, deg_addK hp h0 hf.2 hg.2⟩
theorem tmJ_rsd {p : Nat} {m : Nat → Nat} {d : Nat} {F G O : Nat → Nat → Nat} {i : Nat} (hp : p = 2 ∨ p = 3 ∨ p = 5 ∨ p = 7) (lm : ∀ k, k < 64 → m k < p) (h0 : 0 ≤ deg m) (hO : ∀ r, rsd p m (O r)) : ∀ j r, rsd p m (tmJ p m d F G i O j r)
 | 0, r => by rw [tmJ_z]; exact hO r
 | j + 1, r => by
  rw [tmJ_s]
  by_cases h : r = i + j
  · subst h; rw [updR_same]; exact addK_rsd (by omega) h0 (tmJ_rsd hp lm h0 hO j _) (mm_rsd hp lm h0)
  rw [updR_other h]; exact tmJ_rsd hp lm h0 hO j r
theorem tmR_rsd {p : Nat} {m : Nat → Nat} {d : Nat} {F G : Nat → Nat → Nat} {n : Nat} (hp : p = 2 ∨ p = 3 ∨ p = 5 ∨ p = 7) (lm : ∀ k, k < 64 → m k < p) (h0 : 0 ≤ deg m) : ∀ i r, rsd p m (tmR p m d F G n i r)
 | 0, r => by rw [tmR_z]; exact zero_rsd (by omega) h0
 | i + 1, r => by rw [tmR_s]; exact tmJ_rsd hp lm h0 (tmR_rsd hp lm h0 i) n r
theorem tmP_rsd {p : Nat} {m : Nat → Nat} {d : Nat} {F G : Nat → Nat → Nat} (hp : p = 2 ∨ p = 3 ∨ p = 5 ∨ p = 7) (lm : ∀ k, k < 64 → m k < p) (h0 : 0 ≤ deg m) (r : Nat) : rsd p m (tmP p m d F G r) := by
 unfold tmP; exact tmR_rsd hp lm h0 _ r
theorem skN_row {F : Nat → Nat → Nat} {n : Nat} (h : skD F = (n : Int)) : n < 8 ∧ 0 ≤ deg (F n) := by
 obtain ⟨b1, b2⟩ := zsd F
 have h1 := skN_at F 8 n (by unfold skD at h; exact h)
 refine ⟨by omega, ?_⟩
 by_cases h2 : 0 ≤ deg (F n)
 · exact h2
 have h3 : eqN 64 (F n) (fun _ => 0) = true := eqN_iff.2 (dgz_out (by omega))
 rw [h3] at h1; cases h1
theorem addK_self {p : Nat} {f g : Nat → Nat} (hp : 0 < p) (h : ∀ k, k < 64 → g k = f k) (hg : ∀ k, k < 64 → g k < p) : ∀ k, k < 64 → addK p f g (-1) k = 0 := by
 intro k hk
 rw [addK_neg hp hg hk, h k hk, Nat.add_comm, Nat.add_sub_cancel, Nat.mod_self]
section
variable {p : Nat} {m : Nat → Nat} {d : Nat} (hp : p = 2 ∨ p = 3 ∨ p = 5 ∨ p = 7) (lm : ∀ k, k < 64 → m k < p) (hmon : mon m d) (hi : irr p (cut m) d) (h9 : d ≤ 9)
include hp lm hmon hi h9
theorem dv_step {F G : Nat → Nat → Nat} (hF : rsk p m F) (hG : rsk p m G) (hG0 : 0 ≤ skD G) (hFG : skD G ≤ skD F) :
 rsd p m (dvA p m d F G) ∧ 0 ≤ deg (dvA p m d F G) ∧ skD (dvT p m d F G) = skD F - skD G ∧ rsk p m (dvT p m d F G) ∧ rsk p m (dvF p m d F G) ∧ skD (dvF p m d F G) < skD F := by
 have h0 : 0 ≤ deg m := by rw [hmon.1]; omega
 have hd1 := hi.1
 obtain ⟨n, hn⟩ : ∃ n : Nat, skD F = (n : Int) := ⟨(skD F).toNat, by omega⟩
 obtain ⟨k, hk⟩ : ∃ k : Nat, skD G = (k : Int) := ⟨(skD G).toNat, by omega⟩
 obtain ⟨n8, hFn⟩ := skN_row hn
 obtain ⟨k8, hGk⟩ := skN_row hk
 have ry := (frN_ok hp lm h0 (by rw [hmon.1]; omega) (hG k k8) ((n - k) % d)).1
 have hy0 : 0 ≤ deg (frN p m (G k) ((n - k) % d)) := frN_ne hp lm hmon hi h9 (hG k k8) hGk (Nat.le_of_lt (Nat.mod_lt _ (by omega)))
 have hA : dvA p m d F G = mmP p (F n) (bzU p (frN p m (G k) ((n - k) % d)) m) m := by unfold dvA; rw [hn, hk]; rfl
 have rA : rsd p m (dvA p m d F G) := by rw [hA]; exact mm_rsd hp lm h0
 have hq : ∀ j, j < 64 → mmP p (dvA p m d F G) (frN p m (G k) ((n - k) % d)) m j = F n j := by rw [hA]; exact quo_spec hp lm hmon hi (hF n n8) ry hy0
 have hA0 : 0 ≤ deg (dvA p m d F G) := by
  by_cases h : 0 ≤ deg (dvA p m d F G)
  · exact h
  exfalso
  obtain ⟨j, hj, h2⟩ := deg_nonneg hFn
  rw [← hq j hj, mm_zero hp lm h0 (dgz_out (by omega)) j hj] at h2
  exact h2 rfl
 have hT : dvT p m d F G = sng (n - k) (dvA p m d F G) := by unfold dvT; rw [hn, hk]; rfl
 have hTd : skD (dvT p m d F G) = ((n - k : Nat) : Int) := by rw [hT]; exact sng_deg (by omega) hA0
 have hTr : ∀ r, rsd p m (dvT p m d F G r) := fun r => by
  rw [hT]; unfold sng
  by_cases h : r = n - k
  · subst h; rw [updR_same]; exact rA
  rw [updR_other h]; exact zero_rsd (by omega) h0
 have hP := fun r => tmP_rsd (d := d) (F := dvT p m d F G) (G := G) hp lm h0 r
 refine ⟨rA, hA0, by rw [hTd, hn, hk]; omega, fun r _ => hTr r, fun r hr => ?_, ?_⟩
 · show rsd p m (skA p F _ (-1) r)
   unfold skA; exact addK_rsd (by omega) h0 (hF r hr) (hP r)
 rw [hn]
 refine skD_lt fun r hr hr8 => ?_
 show ∀ j, j < 64 → skA p F _ (-1) r j = 0
 unfold skA
 by_cases h : r = n
 · subst h
   refine addK_self (by omega) (fun j hj => ?_) (fun j hj => (hP r).1 j hj)
   have h3 := tmP_top (p := p) (m := m) (d := d) (by omega) hTd hk j hj
   rw [show r - k + k = r by omega] at h3
   have h4 : dvT p m d F G (r - k) = dvA p m d F G := by rw [hT]; exact updR_same _ _ _
   rw [h3, h4]; exact hq j hj
 have hz := skN_spec F 8 r hr8 (by unfold skD at hn; omega)
 have h3 := tmP_hi (p := p) (m := m) (d := d) hTd hk (show n - k + k < r by omega)
 refine addK_self (by omega) (fun j hj => ?_) (fun j hj => (hP r).1 j hj)
 rw [h3]; exact (eqN_iff.1 hz j hj).symm
end
end Go.Proofs.Ytoncepgcfifgbab
namespace Go.Proofs.Ytoncepgcfifgbab
open Rg
theorem mmP_congr2 {p : Nat} {m a b b' : Nat → Nat} (hp : p = 2 ∨ p = 3 ∨ p = 5 ∨ p = 7) (lm : ∀ k, k < 64 → m k < p) (h0 : 0 ≤ deg m) (h : ∀ k, k < 64 → b k = b' k) : ∀ k, k < 64 → mmP p a b m k = mmP p a b' m k :=
 rsd_eq hp lm h0 (mm_rsd hp lm h0) (mm_rsd hp lm h0) (by
  have e : (rs b : Res p (lz m)) = rs b' := cl_congr (by
   funext k
   unfold lz cut
   by_cases hk : k < 64
   · rw [if_pos hk, if_pos hk, h k hk]
   rw [if_neg hk, if_neg hk])
  rw [rs_mm hp lm h0, rs_mm hp lm h0, e])
end Go.Proofs.Ytoncepgcfifgbab
namespace Go.Proofs.Ytoncepgcfifgbab
open Rg
def spJ (p : Nat) (m : Nat → Nat) (d : Nat) (F G : Nat → Nat → Nat) (i : Nat) (O : Nat → Nat → Nat) : Nat → (Nat → Nat → Nat)
 | 0 => O
 | j + 1 => if eqN 64 (F i) (fun _ => 0) = true ∨ eqN 64 (G j) (fun _ => 0) = true then spJ p m d F G i O j
  else updR (spJ p m d F G i O j) (i + j) (addK p (spJ p m d F G i O j (i + j)) (mmP p (F i) (frN p m (G j) (i % d)) m) 1)
def spR (p : Nat) (m : Nat → Nat) (d : Nat) (F G : Nat → Nat → Nat) (n : Nat) : Nat → (Nat → Nat → Nat)
 | 0 => fun _ _ => 0
 | i + 1 => spJ p m d F G i (spR p m d F G n i) n
section
variable {p : Nat} {m : Nat → Nat} {d : Nat} {F G : Nat → Nat → Nat}
theorem spJ_z (i : Nat) (O : Nat → Nat → Nat) : spJ p m d F G i O 0 = O := rfl
theorem spJ_skip {i j : Nat} {O : Nat → Nat → Nat} (h : eqN 64 (F i) (fun _ => 0) = true ∨ eqN 64 (G j) (fun _ => 0) = true) : spJ p m d F G i O (j + 1) = spJ p m d F G i O j := by
 rw [spJ, if_pos h]
theorem spJ_s {i j : Nat} {O : Nat → Nat → Nat} (h : eqN 64 (F i) (fun _ => 0) = false) (h2 : eqN 64 (G j) (fun _ => 0) = false) :
 spJ p m d F G i O (j + 1) = updR (spJ p m d F G i O j) (i + j) (addK p (spJ p m d F G i O j (i + j)) (mmP p (F i) (frN p m (G j) (i % d)) m) 1) := by
 rw [spJ, if_neg (by rw [h, h2]; simp)]
theorem spR_z (n : Nat) : spR p m d F G n 0 = fun _ _ => 0 := rfl
theorem spR_s (n i : Nat) : spR p m d F G n (i + 1) = spJ p m d F G i (spR p m d F G n i) n := rfl
theorem spJ_lt {i : Nat} {O : Nat → Nat → Nat} (hp : 0 < p) (hO : ∀ r k, O r k < p) : ∀ j r k, spJ p m d F G i O j r k < p
 | 0, r, k => hO r k
 | j + 1, r, k => by
  by_cases h : eqN 64 (F i) (fun _ => 0) = true ∨ eqN 64 (G j) (fun _ => 0) = true
  · rw [spJ_skip h]; exact spJ_lt hp hO j r k
  rw [spJ, if_neg h]
  unfold updR
  by_cases h : r = i + j
  · rw [if_pos h]; exact addK_lt hp k
  rw [if_neg h]; exact spJ_lt hp hO j r k
theorem spR_lt {n : Nat} (hp : 0 < p) : ∀ i r k, spR p m d F G n i r k < p
 | 0, r, k => hp
 | i + 1, r, k => by rw [spR_s]; exact spJ_lt hp (spR_lt hp i) n r k
theorem spJ_tail {i : Nat} {O : Nat → Nat → Nat} {b : Nat} : ∀ t, (∀ j, b ≤ j → j < b + t → eqN 64 (G j) (fun _ => 0) = true) → spJ p m d F G i O (b + t) = spJ p m d F G i O b
 | 0, _ => rfl
 | t + 1, h => by
  rw [← Nat.add_assoc, spJ_skip (.inr (h (b + t) (by omega) (by omega)))]
  exact spJ_tail t fun j h1 h2 => h j h1 (by omega)
theorem spJ_row {i : Nat} {O : Nat → Nat → Nat} (h : eqN 64 (F i) (fun _ => 0) = true) : ∀ n, spJ p m d F G i O n = O
 | 0 => rfl
 | n + 1 => by rw [spJ_skip (.inl h)]; exact spJ_row h n
theorem spR_cols {b t : Nat} (h : ∀ j, b ≤ j → j < b + t → eqN 64 (G j) (fun _ => 0) = true) : ∀ a, spR p m d F G (b + t) a = spR p m d F G b a
 | 0 => rfl
 | a + 1 => by rw [spR_s, spR_s, spR_cols h a, spJ_tail t h]
theorem spR_rows {a n : Nat} : ∀ t, (∀ i, a ≤ i → i < a + t → eqN 64 (F i) (fun _ => 0) = true) → spR p m d F G n (a + t) = spR p m d F G n a
 | 0, _ => rfl
 | t + 1, h => by
  rw [← Nat.add_assoc, spR_s, spJ_row (h (a + t) (by omega) (by omega))]
  exact spR_rows t fun j h1 h2 => h j h1 (by omega)
theorem mm_zeroR {a b : Nat → Nat} (hp : p = 2 ∨ p = 3 ∨ p = 5 ∨ p = 7) (lm : ∀ k, k < 64 → m k < p) (h0 : 0 ≤ deg m) (hb : ∀ k, k < 64 → b k = 0) : ∀ k, k < 64 → mmP p a b m k = 0 := by
 refine rsd_eq (y := fun _ => 0) hp lm h0 (mm_rsd hp lm h0) (zero_rsd (by omega) h0) ?_
 have e : (rs b : Res p (lz m)) = rs (fun _ => 0) := cl_congr (by
  funext k
  unfold lz cut
  by_cases h : k < 64
  · rw [if_pos h, if_pos h, hb k h]
  rw [if_neg h, if_neg h])
 rw [rs_mm hp lm h0, e, rs_zero, mulo]
theorem rsd_zero {x : Nat → Nat} (hp : 0 < p) (h0 : 0 ≤ deg m) (hx : ∀ k, k < 64 → x k = 0) : rsd p m x :=
 ⟨fun k hk => by rw [hx k hk]; exact hp, by have := (zero_rsd (m := m) hp h0).2; rwa [deg_congr hx]⟩
theorem frN_zeroR {x : Nat → Nat} (hp : p = 2 ∨ p = 3 ∨ p = 5 ∨ p = 7) (lm : ∀ k, k < 64 → m k < p) (h0 : 0 ≤ deg m) (h9 : deg m ≤ 9) (hx : ∀ k, k < 64 → x k = 0) (n : Nat) : ∀ k, k < 64 → frN p m x n k = 0 := by
 have hr := rsd_zero (p := p) (x := x) (by omega) h0 hx
 have h := frN_ok hp lm h0 h9 hr n
 refine rsd_eq (y := fun _ => 0) hp lm h0 h.1 (zero_rsd (by omega) h0) ?_
 have e : (rs x : Res p (lz m)) = rs (fun _ => 0) := cl_congr (by
  funext k
  unfold lz cut
  by_cases h : k < 64
  · rw [if_pos h, if_pos h, hx k h]
  rw [if_neg h, if_neg h])
 rw [h.2, e, rs_zero, fr_o (by omega)]
theorem addK_at1 {f g f' g' : Nat → Nat} {c : Int} {k : Nat} (hf : f k = f' k) (hg : g k = g' k) : addK p f g c k = addK p f' g' c k := by
 unfold addK; rw [hf, hg]
theorem spJ_tm (hp : p = 2 ∨ p = 3 ∨ p = 5 ∨ p = 7) (lm : ∀ k, k < 64 → m k < p) (h0 : 0 ≤ deg m) (h9 : deg m ≤ 9) {i : Nat} {O O' : Nat → Nat → Nat} (hO : ∀ r k, k < 64 → O r k = O' r k) (hl : ∀ r k, O' r k < p) :
 ∀ j r k, k < 64 → spJ p m d F G i O j r k = tmJ p m d F G i O' j r k
 | 0, r, k, hk => by rw [spJ_z, tmJ_z]; exact hO r k hk
 | j + 1, r, k, hk => by
  have ih := spJ_tm hp lm h0 h9 (i := i) hO hl j
  rw [tmJ_s]
  by_cases h : eqN 64 (F i) (fun _ => 0) = true ∨ eqN 64 (G j) (fun _ => 0) = true
  · rw [spJ_skip h, ih r k hk]
    unfold updR
    by_cases e : r = i + j
    · rw [if_pos e, e]
      refine (addK_zero (fun k _ => tmJ_lt (by omega) hl j _ k) ?_ k hk).symm
      rcases h with h | h
      · exact mm_zero hp lm h0 (eqN_iff.1 h)
      exact mm_zeroR hp lm h0 (frN_zeroR hp lm h0 h9 (eqN_iff.1 h) _)
    rw [if_neg e]
  have h1 : eqN 64 (F i) (fun _ => 0) = false := by cases h3 : eqN 64 (F i) (fun _ => 0) with | false => rfl | true => exact absurd (.inl h3) h
  have h2 : eqN 64 (G j) (fun _ => 0) = false := by cases h3 : eqN 64 (G j) (fun _ => 0) with | false => rfl | true => exact absurd (.inr h3) h
  rw [spJ_s h1 h2]
  unfold updR
  by_cases e : r = i + j
  · rw [if_pos e, if_pos e]; exact addK_at1 (ih _ k hk) rfl
  rw [if_neg e, if_neg e]; exact ih r k hk
theorem spR_tm (hp : p = 2 ∨ p = 3 ∨ p = 5 ∨ p = 7) (lm : ∀ k, k < 64 → m k < p) (h0 : 0 ≤ deg m) (h9 : deg m ≤ 9) (n : Nat) : ∀ a r k, k < 64 → spR p m d F G n a r k = tmR p m d F G n a r k
 | 0, r, k, _ => by rw [spR_z, tmR_z]
 | a + 1, r, k, hk => by
  rw [spR_s, tmR_s]
  exact spJ_tm hp lm h0 h9 (fun r k hk => spR_tm hp lm h0 h9 n a r k hk) (fun r k => tmR_lt (by omega) a r k) n r k hk
theorem spR_tmP (hp : p = 2 ∨ p = 3 ∨ p = 5 ∨ p = 7) (lm : ∀ k, k < 64 → m k < p) (h0 : 0 ≤ deg m) (h9 : deg m ≤ 9) (r k : Nat) (hk : k < 64) : spR p m d F G 8 8 r k = tmP p m d F G r k := by
 obtain ⟨fb1, fb2⟩ := zsd F
 obtain ⟨gb1, gb2⟩ := zsd G
 obtain ⟨a, ha⟩ : ∃ a : Nat, skD F = (a : Int) - 1 := ⟨(skD F + 1).toNat, by omega⟩
 obtain ⟨b, hb⟩ : ∃ b : Nat, skD G = (b : Int) - 1 := ⟨(skD G + 1).toNat, by omega⟩
 rw [tmP_at ha hb, ← spR_tm hp lm h0 h9 b a r k hk]
 have ea : (8 : Nat) = a + (8 - a) := by omega
 have eb : (8 : Nat) = b + (8 - b) := by omega
 have hF : ∀ i, a ≤ i → i < a + (8 - a) → eqN 64 (F i) (fun _ => 0) = true := fun i h1 h2 => skN_spec F 8 i (by omega) (by have : skN F 8 = skD F := rfl; omega)
 have hG : ∀ i, b ≤ i → i < b + (8 - b) → eqN 64 (G i) (fun _ => 0) = true := fun i h1 h2 => skN_spec G 8 i (by omega) (by have : skN G 8 = skD G := rfl; omega)
 have e1 : spR p m d F G 8 8 = spR p m d F G 8 a := by conv => lhs; arg 7; rw [ea]
                                                       exact spR_rows _ hF
 have e2 : spR p m d F G 8 a = spR p m d F G b a := by conv => lhs; arg 6; rw [eb]
                                                       exact spR_cols hG a
 rw [e1, e2]
end
attribute [irreducible] spJ spR
end Go.Proofs.Ytoncepgcfifgbab
namespace Go.Proofs.Ytoncepgcfifgbab
open Go Go.RowKit
def SlR (w : World) (a : Option Addr) (A : Nat) (F : Nat → Nat → Nat) : Prop :=
 A = 0 ∨ ∃ b n t, a = some ⟨b, 0, none⟩ ∧ A ≤ n ∧ Blk w b (n * 64) t (fl 64 F)
theorem SlR.has {w : World} {a : Option Addr} {A : Nat} {F : Nat → Nat → Nat} (h : SlR w a A F) (hA : 0 < A) : ∃ b n t, a = some ⟨b, 0, none⟩ ∧ A ≤ n ∧ Blk w b (n * 64) t (fl 64 F) := by
 rcases h with h | h
 · omega
 exact h
theorem SlR.of {w : World} {b n A : Nat} {t : TypeId} {F : Nat → Nat → Nat} (h : Blk w b (n * 64) t (fl 64 F)) (hA : A ≤ n) : SlR w (some ⟨b, 0, none⟩) A F := .inr ⟨b, n, t, rfl, hA, h⟩
theorem SlR.of8 {w : World} {b : Nat} {t : TypeId} {F : Nat → Nat → Nat} (h : Blk w b 512 t (fl 64 F)) : SlR w (some ⟨b, 0, none⟩) 8 F := .of (n := 8) h (Nat.le_refl _)
theorem SlR.nil (w : World) (F : Nat → Nat → Nat) : SlR w none 0 F := .inl rfl
theorem SlR.below {w w' : World} {a : Option Addr} {A : Nat} {F : Nat → Nat → Nat} (h : SlR w a A F) (hb : Below w.heap.size w w') : SlR w' a A F := by
 rcases h with h | ⟨b, n, t, e, hA, h⟩
 · exact .inl h
 exact .inr ⟨b, n, t, e, hA, h.zw hb⟩
theorem bcells_made (n : Nat) : madeCells (zb 64 fun _ => 0) (n * 64) = zb (n * 64) (fl 64 fun _ _ => 0) := by
 rw [fl_zero]
 apply Array.ext
 · rw [size_madeCells, zbs]
 intro i h1 h2
 rw [zbs] at h2
 have e := bcells_get (n := n * 64) (f := fun _ => 0) (i := i) h2
 rw [Array.getElem?_eq_getElem (by rw [zbs]; exact h2)] at e
 injection e with e
 rw [e]
 have hm : i % 64 < 64 := Nat.mod_lt _ (by decide)
 have e2 := bcells_get (n := 64) (f := fun _ => 0) (i := i % 64) hm
 unfold madeCells
 simp only [Array.getElem_map, Array.getElem_range, zbs]
 rw [getElem!_def, e2]
section
variable {P : Program}
theorem wpList_make_rows (w : World) {ops : Array Oper} {rest : List Oper} {o : Oper} {a : Act} {Q : Exit → Act → World → Prop} (hg : o.guard = none) (t : TypeId) (l c : Operand) (hop : o.op = .makeSlice t l c)
 (e : TypeId) (ht : P.underlying t = some (.slice e)) (hinfo : (P.info? e).map (fun i => (i.zero.map (·.cells), i.size, i.bytes)) = some (some (zb 64 fun _ => 0), 64, 64)) (n : Nat) (hn : n ≤ 100000)
 (hl : a.eval l = .int .i64 (n : Int)) (hc : a.eval c = .int .i64 (n : Int))
 (hK : wpList P ops Q rest (a.put o.dst (.slice (some ⟨w.heap.size, 0, none⟩) n n)) (w.alloc (.cells (zb (n * 64) (fl 64 fun _ _ => 0)) e))) :
 wpList P ops Q (o :: rest) a w := by
 refine wpList_plain hg fun K hK' => ?_
 obtain ⟨i, hi, hzz⟩ := Option.map_eq_some_iff.1 hinfo
 simp only [Prod.mk.injEq] at hzz
 obtain ⟨hz0, hs, hb⟩ := hzz
 obtain ⟨z, hz, hzc⟩ := Option.map_eq_some_iff.1 hz0
 have hrun := run_make (P := P) w t e i z ht hi hz .i64 .i64 n n (by omega) (Int.le_refl _) (by rw [hb]; omega) (by omega)
 rw [Int.toNat_natCast, hs, hzc, bcells_made] at hrun
 unfold Oper.wp
 simp [execOp, hop, hl, hc, hrun, Result.andThen]
 exact hK' _ _ hK
theorem run_copy_rows (w : World) (dT sT ty elem : TypeId) (b dLen dCap : Nat) (a : Addr) (sLen sCap : Nat) (cs : List Value)
 (hu : P.underlying dT = some (.slice elem)) (hs : (P.info? elem).map (·.size) = some 64) (hn : cs.length = Nat.min sLen dLen * 64)
 (hsrc : ∀ j v, cs[j]? = some v → w.cell? (a.add j) = some v) (hc : ∀ j, j < cs.length → (w.cell? ⟨b, 0 + j, none⟩).isSome = true) (hf : ∀ j, j < cs.length → w.frozen? ⟨b, 0 + j, none⟩ = false) (h1 : ∀ v ∈ cs, v.oneCell' = true) :
 (Builtin.copy_ #[dT, sT] ty #[.slice (some ⟨b, 0, none⟩) dLen dCap, .slice (some a) sLen sCap]).run P w = .ok (goInt (Nat.min sLen dLen)) (w.setCells b 0 cs) := by
 have hl := run_loadCells_list (P := P) w a cs hsrc
 have hst := run_storeCells_cells (P := P) b 0 cs 0 w (by simpa using hc) (by simpa using hf) h1
 cases hq : P.info? elem with
 | none => simp [hq] at hs
 | some i =>
  have hi : i.size = 64 := by simpa [hq] using hs
  simp [Builtin.copy_, run_underlying hu, Builtin.lenOf, Builtin.firstCells, sizeOf, typeInfo, hq, hi, ← hn, hl, hst]
end
theorem copied_rows {F G : Nat → Nat → Nat} {n k : Nat} (hk : Nat.min n k * 64 ≤ k * 64) (hG : ∀ i, i < k → n ≤ i → ∀ j, j < 64 → F i j = G i j) : ∀ x, x < k * 64 → sub (fl 64 F) 0 (Nat.min n k * 64) (fl 64 G) x = fl 64 G x := by
 intro x hx
 unfold sub
 by_cases h : 0 ≤ x ∧ x < 0 + Nat.min n k * 64
 · rw [if_pos h, Nat.sub_zero]
 rw [if_neg h]
 unfold fl
 have hd : x / 64 < k := Nat.div_lt_of_lt_mul (by rw [Nat.mul_comm]; exact hx)
 have hnk : Nat.min n k ≤ x / 64 := by
  rw [Nat.le_div_iff_mul_le (by decide)]
  omega
 refine hG _ hd ?_ _ (Nat.mod_lt _ (by decide))
 have : Nat.min n k = n ∨ Nat.min n k = k := by
  rcases Nat.le_total n k with h | h
  · left; exact Nat.min_eq_left h
  right; exact Nat.min_eq_right h
 omega
section
variable {P : Program}
theorem wp_copy_rows {o : Oper} {a : Act} {w : World} {K : Act → World → Prop} {Q : Exit → Act → World → Prop} (x y : Operand) (t u : TypeId)
 (ho : o.op = .call { callee := .builtin .copy, args := #[x, y], argTypes := #[t, u] }) (e : TypeId) (hu : P.underlying t = some (.slice e)) (hs : (P.info? e).map (·.size) = some 64)
 (b c k dc n sc N : Nat) (T T' : TypeId) (Z R : Nat → Nat → Nat) (hx : a.eval x = .slice (some ⟨b, 0, none⟩) k dc) (hy : a.eval y = .slice (some ⟨c, 0, none⟩) n sc)
 (hb : Blk w b (k * 64) T (fl 64 Z)) (hc : Blk w c (N * 64) T' (fl 64 R)) (hn : n ≤ N) (hz : ∀ i, i < k → n ≤ i → ∀ j, j < 64 → Z i j = R i j)
 (h : K (a.put o.dst (goInt (Nat.min n k))) (w.setRow b (zb (k * 64) (fl 64 R)))) : o.wp P a w K Q := by
 have m1 : Nat.min n k ≤ n := Nat.min_le_left _ _
 have m2 : Nat.min n k ≤ k := Nat.min_le_right _ _
 have hl : (bl (Nat.min n k * 64) (fl 64 R)).length = Nat.min n k * 64 := zl _ _
 have hr := run_copy_rows (P := P) w t u o.type e b k dc ⟨c, 0, none⟩ n sc (bl (Nat.min n k * 64) (fl 64 R)) hu hs hl
  (fun j v hv => by
   have := hc.range_at (o := 0) (m := Nat.min n k * 64) (g := fl 64 R) (by omega) (fun j _ => by rw [Nat.zero_add]) j v hv
   have e : (⟨c, 0, none⟩ : Addr).add j = ⟨c, 0 + j, none⟩ := by unfold Addr.add; split <;> simp_all
   rw [e]; exact this)
  (fun j hj => by rw [hl] at hj; rw [hb.cell (i := 0 + j) (by omega)]; rfl) (fun j _ => hb.frozen _)
  (fun v hv => by
   unfold bl at hv
   obtain ⟨i, _, rfl⟩ := List.mem_map.1 hv
   rfl)
 rw [hb.setCells (by omega), zbc (copied_rows (n := n) (k := k) (F := Z) (G := R) (by omega) hz)] at hr
 unfold Oper.wp
 simp only [execOp, ho, resolve, invoke, builtin, Sem.run_bind, Sem.run_pure, Result.andThen_ok, List.map_toArray, List.map_cons, List.map_nil, hx, hy, hr]
 exact h
end
def slLen : Value → Nat
 | .slice _ n _ => n
 | _ => 0
theorem Try.made24 : (Try.prog.info? 24).map (fun i => (i.zero.map (·.cells), i.size, i.bytes)) = some (some (zb 64 fun _ => 0), 64, 64) := by simp only [zb, bl]; kernel_rfl
attribute [irreducible] SlR
end Go.Proofs.Ytoncepgcfifgbab
