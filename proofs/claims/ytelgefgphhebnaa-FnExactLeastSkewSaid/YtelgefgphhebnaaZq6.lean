/-
  What the rows of this claim rest on: arrays of bytes, walks of the functions, plain mathematics.
-/
import Derived.Test.YtelgefgphhebnaaZq5
import Derived.Handy
import Derived.Laws.MakeOwn
import Derived.OpenShut
import Derived.ProofKit
import Derived.Deep.Slices
import Derived.Carry
section
namespace Go.Proofs.Ytelgefgphhebnaa
open Go Go.RowKit
set_option linter.unusedVariables false
set_option linter.unusedSimpArgs false
attribute [local irreducible] deg addK okA flV
/-- a residue -/
noncomputable def rsB (p : Int) (m x : Nat → Nat) : Bool := okA p x && decide (deg x < deg m)
theorem rsB_1 {p : Int} {m x : Nat → Nat} (h : okA p x = false) : rsB p m x = false := by unfold rsB; rw [h]; rfl
theorem rsB_2 {p : Int} {m x : Nat → Nat} (h : okA p x = true) (h2 : deg x < deg m) : rsB p m x = true := by unfold rsB; rw [h]; simpa using h2
theorem rsB_3 {p : Int} {m x : Nat → Nat} (h : okA p x = true) (h2 : ¬ deg x < deg m) : rsB p m x = false := by unfold rsB; rw [h]; simpa using h2
attribute [irreducible] rsB
set_option maxRecDepth 100000 in
set_option maxHeartbeats 1600000 in
theorem l03Residue_any (p : Int) (m x : Nat → Nat) (hm : byte m) (hx : byte x) (w : World) :
 Calls Try.prog 95 #[.int .i64 p, .agg (zb 64 m), .agg (zb 64 x)] w fun e w' => e = .returned (.bool (rsB p m x)) ∧ Below w.heap.size w w' := by
 go_enter Try.func95, Try.ntmps95
 go_upto_region 1 with (fail)
 obtain ⟨W1, hwo⟩ : ∃ v : World, v = ((w.alloc (.cells (zb 64 (m)) 28)).alloc (.cells (zb 64 (x)) 28)) := ⟨_, rfl⟩
 have B0 : Blk W1 (w.heap.size) 64 28 (m) := by subst hwo; have := ((Blk.new w 64 28 (m)).alloc (.cells (zb 64 (x)) 28)); simpa using this
 have B1 : Blk W1 (w.heap.size + 1) 64 28 (x) := by subst hwo; have := (Blk.new (w.alloc (.cells (zb 64 (m)) 28)) 64 28 (x)); simpa using this
 have hb : Below w.heap.size w W1 := by subst hwo; exact (((Below.refl _ _).alloc (Nat.le_refl _) _).alloc (by simp) _)
 rw [← hwo]
 clear hwo
 cases ho : okA p x with
 | false =>
  have HV := Lib.hid (rsB_1 (m := m) ho)
  have HOK := Lib.hid (fun W => l01Is_any p x hx W)
  rw [ho] at HOK
  have HDG := Lib.hid (fun f W => l01Deg_any f W)
  clear ho
  have lt_B0 : (w.heap.size) < W1.heap.size := B0.lt
  have lt_B1 : (w.heap.size + 1) < W1.heap.size := B1.lt
  have hbase : w.heap.size ≤ W1.heap.size := hb.size
  refine wp_region_stepsG Try.mixed (by kernel_rfl) (by kernel_rfl) (fun v => by (simp only [frL, Act.put, pA, pB, pC, Nat.reduceAdd, Nat.zero_add]; exact rfl))
   (fun L v W2 => Below w.heap.size w W2 ∧ W1.heap.size ≤ W2.heap.size ∧ Blk W2 (w.heap.size) 64 28 (m) ∧ Blk W2 (w.heap.size + 1) 64 28 (x) ∧ VF L v [some (.int .i64 p), some (.agg (zb 64 (x))), some (.bool false), some (.bool false), some undef, some undef, some undef, some undef, some undef, some (.bool false), some (.bool false)]) ?_ ?_ ?_
  · intro v hv0
    exact ⟨hb.drew, Nat.le_refl _, B0.drew, B1.drew, VF.start⟩
  · refine (.cons ?_ (.cons ?_ (.cons ?_ (.cons ?_ (.cons ?_ (.cons ?_ (.cons ?_ (.cons ?_ (.cons ?_ (.cons ?_ (.cons ?_ (.nil _))))))))))))
    · intro L v W2 hd hn ⟨hB, hz, s0, s1, V⟩ K hK
      rw [if_pos (by simp [Region.wanted])]
      go_wp2_with fail
      exact hK _ (.int .i64 p) _ (by simp only [Act.put, pA, pB, pC ]) ⟨hB, hz, s0, s1, V.step 0 rfl⟩
    · intro L v W2 hd hn ⟨hB, hz, s0, s1, V⟩ K hK
      rw [if_pos (by simp [Region.wanted])]
      refine zlc s1 Try.underlying28 Try.size28 ?_
      exact hK _ _ _ rfl ⟨hB, hz, s0, s1, V.step 1 rfl⟩
    · intro L v W2 hd hn ⟨hB, hz, s0, s1, V⟩ K hK
      have e0 := V.at (zdq hd 0 rfl) rfl
      have e1 := V.at (zdq hd 1 rfl) rfl
      rw [if_pos (by simp [Region.wanted])]
      go_wp2_with (go_at_call 133; refine (HOK.out _).mono ?_; rintro e wy ⟨rfl, hy⟩)
      exact hK _ (.bool false) _ (by simp only [Act.put, pA, pB, pC, e0, e1]) ⟨hB.trans (hy.mono hB.size), (Nat.le_trans hz hy.size), s0.zw hy, s1.zw hy, V.step 2 rfl⟩
    · intro L v W2 hd hn ⟨hB, hz, s0, s1, V⟩ K hK
      have e2 := V.at (zdq hd 2 rfl) rfl
      rw [if_pos (by simp [Region.wanted])]
      go_wp2_with fail
      exact hK _ (.bool false) _ (by simp only [Act.put, pA, pB, pC, e2]) ⟨hB, hz, s0, s1, V.step 3 rfl⟩
    · intro L v W2 hd hn ⟨hB, hz, s0, s1, V⟩ K hK
      have e3 := V.at (zdq hd 3 rfl) rfl
      rw [if_neg (by simp [Region.wanted, yielded, e3])]
      exact hK _ undef _ rfl ⟨hB, hz, s0, s1, V.step 4 rfl⟩
    · intro L v W2 hd hn ⟨hB, hz, s0, s1, V⟩ K hK
      have e4 := V.at (zdq hd 4 rfl) rfl
      have e3 := V.at (zdq hd 3 rfl) rfl
      rw [if_neg (by simp [Region.wanted, yielded, e3])]
      exact hK _ undef _ rfl ⟨hB, hz, s0, s1, V.step 5 rfl⟩
    · intro L v W2 hd hn ⟨hB, hz, s0, s1, V⟩ K hK
      have e3 := V.at (zdq hd 3 rfl) rfl
      rw [if_neg (by simp [Region.wanted, yielded, e3])]
      exact hK _ undef _ rfl ⟨hB, hz, s0, s1, V.step 6 rfl⟩
    · intro L v W2 hd hn ⟨hB, hz, s0, s1, V⟩ K hK
      have e6 := V.at (zdq hd 6 rfl) rfl
      have e3 := V.at (zdq hd 3 rfl) rfl
      rw [if_neg (by simp [Region.wanted, yielded, e3])]
      exact hK _ undef _ rfl ⟨hB, hz, s0, s1, V.step 7 rfl⟩
    · intro L v W2 hd hn ⟨hB, hz, s0, s1, V⟩ K hK
      have e5 := V.at (zdq hd 5 rfl) rfl
      have e7 := V.at (zdq hd 7 rfl) rfl
      have e3 := V.at (zdq hd 3 rfl) rfl
      rw [if_neg (by simp [Region.wanted, yielded, e3])]
      exact hK _ undef _ rfl ⟨hB, hz, s0, s1, V.step 8 rfl⟩
    · intro L v W2 hd hn ⟨hB, hz, s0, s1, V⟩ K hK
      have e3 := V.at (zdq hd 3 rfl) rfl
      have e8 := V.at (zdq hd 8 rfl) rfl
      rw [if_pos (by simp [Region.wanted])]
      go_wp2_with fail
      exact hK _ (.bool false) _ (by simp only [Act.put, pA, pB, pC, e3, e8]) ⟨hB, hz, s0, s1, V.step 9 rfl⟩
    · intro L v W2 hd hn ⟨hB, hz, s0, s1, V⟩ K hK
      have e9 := V.at (zdq hd 9 rfl) rfl
      rw [if_pos (by simp [Region.wanted])]
      go_wp2_with fail
      exact hK _ (.bool false) _ (by simp only [Act.put, pA, pB, pC, e9]) ⟨hB, hz, s0, s1, V.step 10 rfl⟩
  · intro L v W2 hL ⟨hB, hz, s0, s1, V⟩
    have e0 := V.at (hL 0 (by decide)) rfl
    have e1 := V.at (hL 1 (by decide)) rfl
    have e2 := V.at (hL 2 (by decide)) rfl
    have e3 := V.at (hL 3 (by decide)) rfl
    have e4 := V.at (hL 4 (by decide)) rfl
    have e5 := V.at (hL 5 (by decide)) rfl
    have e6 := V.at (hL 6 (by decide)) rfl
    have e7 := V.at (hL 7 (by decide)) rfl
    have e8 := V.at (hL 8 (by decide)) rfl
    have e9 := V.at (hL 9 (by decide)) rfl
    have e10 := V.at (hL 10 (by decide)) rfl
    clear hL V
    simp only [Exit.then, e0, e1, e2, e3, e4, e5, e6, e7, e8, e9, e10]
    clear e0 e1 e2 e3 e4 e5 e6 e7 e8 e9 e10
    replace B0 := s0
    clear s0
    replace B1 := s1
    clear s1
    replace hb := hB
    clear hB
    clear hbase hz lt_B0 lt_B1
    go_wp2_with fail
    go_ret
    exact ⟨by rw [HV.out]; rfl, hb⟩
 | true =>
  by_cases hlt : deg x < deg m
  · skip
    have HV := Lib.hid (rsB_2 ho hlt)
    have HOK := Lib.hid (fun W => l01Is_any p x hx W)
    rw [ho] at HOK
    have HDG := Lib.hid (fun f W => l01Deg_any f W)
    clear ho
    have lt_B0 : (w.heap.size) < W1.heap.size := B0.lt
    have lt_B1 : (w.heap.size + 1) < W1.heap.size := B1.lt
    have hbase : w.heap.size ≤ W1.heap.size := hb.size
    refine wp_region_stepsG Try.mixed (by kernel_rfl) (by kernel_rfl) (fun v => by (simp only [frL, Act.put, pA, pB, pC, Nat.reduceAdd, Nat.zero_add]; exact rfl))
     (fun L v W2 => Below w.heap.size w W2 ∧ W1.heap.size ≤ W2.heap.size ∧ Blk W2 (w.heap.size) 64 28 (m) ∧ Blk W2 (w.heap.size + 1) 64 28 (x) ∧ VF L v [some (.int .i64 p), some (.agg (zb 64 (x))), some (.bool true), some (.bool true), some (.agg (zb 64 (x))), some (.int .i64 (deg x)), some (.agg (zb 64 (m))), some (.int .i64 (deg m)), some (.bool true), some (.bool true), some (.bool true)]) ?_ ?_ ?_
    · intro v hv0
      exact ⟨hb.drew, Nat.le_refl _, B0.drew, B1.drew, VF.start⟩
    · refine (.cons ?_ (.cons ?_ (.cons ?_ (.cons ?_ (.cons ?_ (.cons ?_ (.cons ?_ (.cons ?_ (.cons ?_ (.cons ?_ (.cons ?_ (.nil _))))))))))))
      · intro L v W2 hd hn ⟨hB, hz, s0, s1, V⟩ K hK
        rw [if_pos (by simp [Region.wanted])]
        go_wp2_with fail
        exact hK _ (.int .i64 p) _ (by simp only [Act.put, pA, pB, pC ]) ⟨hB, hz, s0, s1, V.step 0 rfl⟩
      · intro L v W2 hd hn ⟨hB, hz, s0, s1, V⟩ K hK
        rw [if_pos (by simp [Region.wanted])]
        refine zlc s1 Try.underlying28 Try.size28 ?_
        exact hK _ _ _ rfl ⟨hB, hz, s0, s1, V.step 1 rfl⟩
      · intro L v W2 hd hn ⟨hB, hz, s0, s1, V⟩ K hK
        have e0 := V.at (zdq hd 0 rfl) rfl
        have e1 := V.at (zdq hd 1 rfl) rfl
        rw [if_pos (by simp [Region.wanted])]
        go_wp2_with (go_at_call 133; refine (HOK.out _).mono ?_; rintro e wy ⟨rfl, hy⟩)
        exact hK _ (.bool true) _ (by simp only [Act.put, pA, pB, pC, e0, e1]) ⟨hB.trans (hy.mono hB.size), (Nat.le_trans hz hy.size), s0.zw hy, s1.zw hy, V.step 2 rfl⟩
      · intro L v W2 hd hn ⟨hB, hz, s0, s1, V⟩ K hK
        have e2 := V.at (zdq hd 2 rfl) rfl
        rw [if_pos (by simp [Region.wanted])]
        go_wp2_with fail
        exact hK _ (.bool true) _ (by simp only [Act.put, pA, pB, pC, e2]) ⟨hB, hz, s0, s1, V.step 3 rfl⟩
      · intro L v W2 hd hn ⟨hB, hz, s0, s1, V⟩ K hK
        have e3 := V.at (zdq hd 3 rfl) rfl
        rw [if_pos (by simp [Region.wanted, yielded, e3])]
        refine zlc s1 Try.underlying28 Try.size28 ?_
        exact hK _ _ _ rfl ⟨hB, hz, s0, s1, V.step 4 rfl⟩
      · intro L v W2 hd hn ⟨hB, hz, s0, s1, V⟩ K hK
        have e4 := V.at (zdq hd 4 rfl) rfl
        have e3 := V.at (zdq hd 3 rfl) rfl
        rw [if_pos (by simp [Region.wanted, yielded, e3])]
        go_wp2_with (go_at_call 106; refine (HDG.out _ _).mono ?_; rintro e wy ⟨rfl, hy⟩)
        exact hK _ (.int .i64 (deg x)) _ (by simp only [Act.put, pA, pB, pC, e4, e3]) ⟨hB.trans (hy.mono hB.size), (Nat.le_trans hz hy.size), s0.zw hy, s1.zw hy, V.step 5 rfl⟩
      · intro L v W2 hd hn ⟨hB, hz, s0, s1, V⟩ K hK
        have e3 := V.at (zdq hd 3 rfl) rfl
        rw [if_pos (by simp [Region.wanted, yielded, e3])]
        refine zlc s0 Try.underlying28 Try.size28 ?_
        exact hK _ _ _ rfl ⟨hB, hz, s0, s1, V.step 6 rfl⟩
      · intro L v W2 hd hn ⟨hB, hz, s0, s1, V⟩ K hK
        have e6 := V.at (zdq hd 6 rfl) rfl
        have e3 := V.at (zdq hd 3 rfl) rfl
        rw [if_pos (by simp [Region.wanted, yielded, e3])]
        go_wp2_with (go_at_call 106; refine (HDG.out _ _).mono ?_; rintro e wy ⟨rfl, hy⟩)
        exact hK _ (.int .i64 (deg m)) _ (by simp only [Act.put, pA, pB, pC, e6, e3]) ⟨hB.trans (hy.mono hB.size), (Nat.le_trans hz hy.size), s0.zw hy, s1.zw hy, V.step 7 rfl⟩
      · intro L v W2 hd hn ⟨hB, hz, s0, s1, V⟩ K hK
        have e5 := V.at (zdq hd 5 rfl) rfl
        have e7 := V.at (zdq hd 7 rfl) rfl
        have e3 := V.at (zdq hd 3 rfl) rfl
        rw [if_pos (by simp [Region.wanted, yielded, e3])]
        go_wp2_with fail
        exact hK _ (.bool true) _ (by simp only [Act.put, pA, pB, pC, e5, e7, e3]) ⟨hB, hz, s0, s1, V.step 8 rfl⟩
      · intro L v W2 hd hn ⟨hB, hz, s0, s1, V⟩ K hK
        have e3 := V.at (zdq hd 3 rfl) rfl
        have e8 := V.at (zdq hd 8 rfl) rfl
        rw [if_pos (by simp [Region.wanted])]
        go_wp2_with fail
        exact hK _ (.bool true) _ (by simp only [Act.put, pA, pB, pC, e3, e8]) ⟨hB, hz, s0, s1, V.step 9 rfl⟩
      · intro L v W2 hd hn ⟨hB, hz, s0, s1, V⟩ K hK
        have e9 := V.at (zdq hd 9 rfl) rfl
        rw [if_pos (by simp [Region.wanted])]
        go_wp2_with fail
        exact hK _ (.bool true) _ (by simp only [Act.put, pA, pB, pC, e9]) ⟨hB, hz, s0, s1, V.step 10 rfl⟩
    · intro L v W2 hL ⟨hB, hz, s0, s1, V⟩
      have e0 := V.at (hL 0 (by decide)) rfl
      have e1 := V.at (hL 1 (by decide)) rfl
      have e2 := V.at (hL 2 (by decide)) rfl
      have e3 := V.at (hL 3 (by decide)) rfl
      have e4 := V.at (hL 4 (by decide)) rfl
      have e5 := V.at (hL 5 (by decide)) rfl
      have e6 := V.at (hL 6 (by decide)) rfl
      have e7 := V.at (hL 7 (by decide)) rfl
      have e8 := V.at (hL 8 (by decide)) rfl
      have e9 := V.at (hL 9 (by decide)) rfl
      have e10 := V.at (hL 10 (by decide)) rfl
      clear hL V
      simp only [Exit.then, e0, e1, e2, e3, e4, e5, e6, e7, e8, e9, e10]
      clear e0 e1 e2 e3 e4 e5 e6 e7 e8 e9 e10
      replace B0 := s0
      clear s0
      replace B1 := s1
      clear s1
      replace hb := hB
      clear hB
      clear hbase hz lt_B0 lt_B1
      go_wp2_with fail
      go_ret
      exact ⟨by rw [HV.out]; rfl, hb⟩
  · skip
    have HV := Lib.hid (rsB_3 ho hlt)
    have HOK := Lib.hid (fun W => l01Is_any p x hx W)
    rw [ho] at HOK
    have HDG := Lib.hid (fun f W => l01Deg_any f W)
    clear ho
    have lt_B0 : (w.heap.size) < W1.heap.size := B0.lt
    have lt_B1 : (w.heap.size + 1) < W1.heap.size := B1.lt
    have hbase : w.heap.size ≤ W1.heap.size := hb.size
    refine wp_region_stepsG Try.mixed (by kernel_rfl) (by kernel_rfl) (fun v => by (simp only [frL, Act.put, pA, pB, pC, Nat.reduceAdd, Nat.zero_add]; exact rfl))
     (fun L v W2 => Below w.heap.size w W2 ∧ W1.heap.size ≤ W2.heap.size ∧ Blk W2 (w.heap.size) 64 28 (m) ∧ Blk W2 (w.heap.size + 1) 64 28 (x) ∧ VF L v [some (.int .i64 p), some (.agg (zb 64 (x))), some (.bool true), some (.bool true), some (.agg (zb 64 (x))), some (.int .i64 (deg x)), some (.agg (zb 64 (m))), some (.int .i64 (deg m)), some (.bool false), some (.bool false), some (.bool false)]) ?_ ?_ ?_
    · intro v hv0
      exact ⟨hb.drew, Nat.le_refl _, B0.drew, B1.drew, VF.start⟩
    · refine (.cons ?_ (.cons ?_ (.cons ?_ (.cons ?_ (.cons ?_ (.cons ?_ (.cons ?_ (.cons ?_ (.cons ?_ (.cons ?_ (.cons ?_ (.nil _))))))))))))
      · intro L v W2 hd hn ⟨hB, hz, s0, s1, V⟩ K hK
        rw [if_pos (by simp [Region.wanted])]
        go_wp2_with fail
        exact hK _ (.int .i64 p) _ (by simp only [Act.put, pA, pB, pC ]) ⟨hB, hz, s0, s1, V.step 0 rfl⟩
      · intro L v W2 hd hn ⟨hB, hz, s0, s1, V⟩ K hK
        rw [if_pos (by simp [Region.wanted])]
        refine zlc s1 Try.underlying28 Try.size28 ?_
        exact hK _ _ _ rfl ⟨hB, hz, s0, s1, V.step 1 rfl⟩
      · intro L v W2 hd hn ⟨hB, hz, s0, s1, V⟩ K hK
        have e0 := V.at (zdq hd 0 rfl) rfl
        have e1 := V.at (zdq hd 1 rfl) rfl
        rw [if_pos (by simp [Region.wanted])]
        go_wp2_with (go_at_call 133; refine (HOK.out _).mono ?_; rintro e wy ⟨rfl, hy⟩)
        exact hK _ (.bool true) _ (by simp only [Act.put, pA, pB, pC, e0, e1]) ⟨hB.trans (hy.mono hB.size), (Nat.le_trans hz hy.size), s0.zw hy, s1.zw hy, V.step 2 rfl⟩
      · intro L v W2 hd hn ⟨hB, hz, s0, s1, V⟩ K hK
        have e2 := V.at (zdq hd 2 rfl) rfl
        rw [if_pos (by simp [Region.wanted])]
        go_wp2_with fail
        exact hK _ (.bool true) _ (by simp only [Act.put, pA, pB, pC, e2]) ⟨hB, hz, s0, s1, V.step 3 rfl⟩
      · intro L v W2 hd hn ⟨hB, hz, s0, s1, V⟩ K hK
        have e3 := V.at (zdq hd 3 rfl) rfl
        rw [if_pos (by simp [Region.wanted, yielded, e3])]
        refine zlc s1 Try.underlying28 Try.size28 ?_
        exact hK _ _ _ rfl ⟨hB, hz, s0, s1, V.step 4 rfl⟩
      · intro L v W2 hd hn ⟨hB, hz, s0, s1, V⟩ K hK
        have e4 := V.at (zdq hd 4 rfl) rfl
        have e3 := V.at (zdq hd 3 rfl) rfl
        rw [if_pos (by simp [Region.wanted, yielded, e3])]
        go_wp2_with (go_at_call 106; refine (HDG.out _ _).mono ?_; rintro e wy ⟨rfl, hy⟩)
        exact hK _ (.int .i64 (deg x)) _ (by simp only [Act.put, pA, pB, pC, e4, e3]) ⟨hB.trans (hy.mono hB.size), (Nat.le_trans hz hy.size), s0.zw hy, s1.zw hy, V.step 5 rfl⟩
      · intro L v W2 hd hn ⟨hB, hz, s0, s1, V⟩ K hK
        have e3 := V.at (zdq hd 3 rfl) rfl
        rw [if_pos (by simp [Region.wanted, yielded, e3])]
        refine zlc s0 Try.underlying28 Try.size28 ?_
        exact hK _ _ _ rfl ⟨hB, hz, s0, s1, V.step 6 rfl⟩
      · intro L v W2 hd hn ⟨hB, hz, s0, s1, V⟩ K hK
        have e6 := V.at (zdq hd 6 rfl) rfl
        have e3 := V.at (zdq hd 3 rfl) rfl
        rw [if_pos (by simp [Region.wanted, yielded, e3])]
        go_wp2_with (go_at_call 106; refine (HDG.out _ _).mono ?_; rintro e wy ⟨rfl, hy⟩)
        exact hK _ (.int .i64 (deg m)) _ (by simp only [Act.put, pA, pB, pC, e6, e3]) ⟨hB.trans (hy.mono hB.size), (Nat.le_trans hz hy.size), s0.zw hy, s1.zw hy, V.step 7 rfl⟩
      · intro L v W2 hd hn ⟨hB, hz, s0, s1, V⟩ K hK
        have e5 := V.at (zdq hd 5 rfl) rfl
        have e7 := V.at (zdq hd 7 rfl) rfl
        have e3 := V.at (zdq hd 3 rfl) rfl
        rw [if_pos (by simp [Region.wanted, yielded, e3])]
        go_wp2_with fail
        exact hK _ (.bool false) _ (by simp only [Act.put, pA, pB, pC, e5, e7, e3]) ⟨hB, hz, s0, s1, V.step 8 rfl⟩
      · intro L v W2 hd hn ⟨hB, hz, s0, s1, V⟩ K hK
        have e3 := V.at (zdq hd 3 rfl) rfl
        have e8 := V.at (zdq hd 8 rfl) rfl
        rw [if_pos (by simp [Region.wanted])]
        go_wp2_with fail
        exact hK _ (.bool false) _ (by simp only [Act.put, pA, pB, pC, e3, e8]) ⟨hB, hz, s0, s1, V.step 9 rfl⟩
      · intro L v W2 hd hn ⟨hB, hz, s0, s1, V⟩ K hK
        have e9 := V.at (zdq hd 9 rfl) rfl
        rw [if_pos (by simp [Region.wanted])]
        go_wp2_with fail
        exact hK _ (.bool false) _ (by simp only [Act.put, pA, pB, pC, e9]) ⟨hB, hz, s0, s1, V.step 10 rfl⟩
    · intro L v W2 hL ⟨hB, hz, s0, s1, V⟩
      have e0 := V.at (hL 0 (by decide)) rfl
      have e1 := V.at (hL 1 (by decide)) rfl
      have e2 := V.at (hL 2 (by decide)) rfl
      have e3 := V.at (hL 3 (by decide)) rfl
      have e4 := V.at (hL 4 (by decide)) rfl
      have e5 := V.at (hL 5 (by decide)) rfl
      have e6 := V.at (hL 6 (by decide)) rfl
      have e7 := V.at (hL 7 (by decide)) rfl
      have e8 := V.at (hL 8 (by decide)) rfl
      have e9 := V.at (hL 9 (by decide)) rfl
      have e10 := V.at (hL 10 (by decide)) rfl
      clear hL V
      simp only [Exit.then, e0, e1, e2, e3, e4, e5, e6, e7, e8, e9, e10]
      clear e0 e1 e2 e3 e4 e5 e6 e7 e8 e9 e10
      replace B0 := s0
      clear s0
      replace B1 := s1
      clear s1
      replace hb := hB
      clear hB
      clear hbase hz lt_B0 lt_B1
      go_wp2_with fail
      go_ret
      exact ⟨by rw [HV.out]; rfl, hb⟩
set_option maxRecDepth 100000 in
set_option maxHeartbeats 1600000 in
theorem isResidue_any (p : Int) (m x : Nat → Nat) (hm : byte m) (hx : byte x) (w : World) :
 Calls Try.prog 99 #[.agg (fdC p m).toArray, .agg (zb 64 x)] w fun e w' => e = .returned (.bool (rsB p m x)) ∧ Below w.heap.size w w' := by
 go_enter Try.func99, Try.ntmps99
 go_upto_region 1 with (fail)
 obtain ⟨W1, hwo⟩ : ∃ v : World, v = ((w.alloc (.cells (fdC p m).toArray 70)).alloc (.cells (zb 64 (x)) 28)) := ⟨_, rfl⟩
 have B0 : Row W1 (w.heap.size) 70 (fdC p m).toArray := by subst hwo; have := ((Row.new w 70 (fdC p m).toArray).alloc (.cells (zb 64 (x)) 28)); simpa using this
 have B1 : Blk W1 (w.heap.size + 1) 64 28 (x) := by subst hwo; have := (Blk.new (w.alloc (.cells (fdC p m).toArray 70)) 64 28 (x)); simpa using this
 have hb : Below w.heap.size w W1 := by subst hwo; exact (((Below.refl _ _).alloc (Nat.le_refl _) _).alloc (by simp) _)
 rw [← hwo]
 clear hwo
 cases ho : okA p x with
 | false =>
  have HV := Lib.hid (rsB_1 (m := m) ho)
  have HOK := Lib.hid (fun W => IsPoly_any p x hx W)
  rw [ho] at HOK
  have HDG := Lib.hid (fun f W => degree_any f W)
  clear ho
  have lt_B0 : (w.heap.size) < W1.heap.size := B0.lt
  have lt_B1 : (w.heap.size + 1) < W1.heap.size := B1.lt
  have hbase : w.heap.size ≤ W1.heap.size := hb.size
  refine wp_region_stepsG Try.mixed (by kernel_rfl) (by kernel_rfl) (fun v => by (simp only [frL, Act.put, pA, pB, pC, Nat.reduceAdd, Nat.zero_add]; exact rfl))
   (fun L v W2 => Below w.heap.size w W2 ∧ W1.heap.size ≤ W2.heap.size ∧ Row W2 (w.heap.size) 70 (fdC p m).toArray ∧ Blk W2 (w.heap.size + 1) 64 28 (x) ∧ VF L v [some (.pointer (some ⟨w.heap.size, 0, none⟩)), some (.int .i64 p), some (.agg (zb 64 (x))), some (.bool false), some (.bool false), some undef, some undef, some undef, some undef, some undef, some undef, some (.bool false), some (.bool false)]) ?_ ?_ ?_
  · intro v hv0
    exact ⟨hb.drew, Nat.le_refl _, B0.drew, B1.drew, VF.start⟩
  · refine (.cons ?_ (.cons ?_ (.cons ?_ (.cons ?_ (.cons ?_ (.cons ?_ (.cons ?_ (.cons ?_ (.cons ?_ (.cons ?_ (.cons ?_ (.cons ?_ (.cons ?_ (.nil _))))))))))))))
    · intro L v W2 hd hn ⟨hB, hz, s0, s1, V⟩ K hK
      rw [if_pos (by simp [Region.wanted])]
      go_wp2_with fail
      exact hK _ (.pointer (some ⟨w.heap.size, 0, none⟩)) _ (by simp only [Act.put, pA, pB, pC ]) ⟨hB, hz, s0, s1, V.step 0 rfl⟩
    · intro L v W2 hd hn ⟨hB, hz, s0, s1, V⟩ K hK
      have e0 := V.at (zdq hd 0 rfl) rfl
      rw [if_pos (by simp [Region.wanted])]
      have cc := s0.cell (i := 0) (v := .int .i64 p) (fdC_at p m)
      go_wp2_with fail
      exact hK _ (.int .i64 p) _ (by simp only [Act.put, pA, pB, pC, e0]) ⟨hB, hz, s0, s1, V.step 1 rfl⟩
    · intro L v W2 hd hn ⟨hB, hz, s0, s1, V⟩ K hK
      rw [if_pos (by simp [Region.wanted])]
      refine zlc s1 Try.underlying28 Try.size28 ?_
      exact hK _ _ _ rfl ⟨hB, hz, s0, s1, V.step 2 rfl⟩
    · intro L v W2 hd hn ⟨hB, hz, s0, s1, V⟩ K hK
      have e1 := V.at (zdq hd 1 rfl) rfl
      have e2 := V.at (zdq hd 2 rfl) rfl
      rw [if_pos (by simp [Region.wanted])]
      go_wp2_with (go_at_call 136; refine (HOK.out _).mono ?_; rintro e wy ⟨rfl, hy⟩)
      exact hK _ (.bool false) _ (by simp only [Act.put, pA, pB, pC, e1, e2]) ⟨hB.trans (hy.mono hB.size), (Nat.le_trans hz hy.size), s0.zw hy, s1.zw hy, V.step 3 rfl⟩
    · intro L v W2 hd hn ⟨hB, hz, s0, s1, V⟩ K hK
      have e3 := V.at (zdq hd 3 rfl) rfl
      rw [if_pos (by simp [Region.wanted])]
      go_wp2_with fail
      exact hK _ (.bool false) _ (by simp only [Act.put, pA, pB, pC, e3]) ⟨hB, hz, s0, s1, V.step 4 rfl⟩
    · intro L v W2 hd hn ⟨hB, hz, s0, s1, V⟩ K hK
      have e4 := V.at (zdq hd 4 rfl) rfl
      rw [if_neg (by simp [Region.wanted, yielded, e4])]
      exact hK _ undef _ rfl ⟨hB, hz, s0, s1, V.step 5 rfl⟩
    · intro L v W2 hd hn ⟨hB, hz, s0, s1, V⟩ K hK
      have e5 := V.at (zdq hd 5 rfl) rfl
      have e4 := V.at (zdq hd 4 rfl) rfl
      rw [if_neg (by simp [Region.wanted, yielded, e4])]
      exact hK _ undef _ rfl ⟨hB, hz, s0, s1, V.step 6 rfl⟩
    · intro L v W2 hd hn ⟨hB, hz, s0, s1, V⟩ K hK
      have e4 := V.at (zdq hd 4 rfl) rfl
      rw [if_neg (by simp [Region.wanted, yielded, e4])]
      exact hK _ undef _ rfl ⟨hB, hz, s0, s1, V.step 7 rfl⟩
    · intro L v W2 hd hn ⟨hB, hz, s0, s1, V⟩ K hK
      have e7 := V.at (zdq hd 7 rfl) rfl
      have e4 := V.at (zdq hd 4 rfl) rfl
      rw [if_neg (by simp [Region.wanted, yielded, e4])]
      exact hK _ undef _ rfl ⟨hB, hz, s0, s1, V.step 8 rfl⟩
    · intro L v W2 hd hn ⟨hB, hz, s0, s1, V⟩ K hK
      have e8 := V.at (zdq hd 8 rfl) rfl
      have e4 := V.at (zdq hd 4 rfl) rfl
      rw [if_neg (by simp [Region.wanted, yielded, e4])]
      exact hK _ undef _ rfl ⟨hB, hz, s0, s1, V.step 9 rfl⟩
    · intro L v W2 hd hn ⟨hB, hz, s0, s1, V⟩ K hK
      have e6 := V.at (zdq hd 6 rfl) rfl
      have e9 := V.at (zdq hd 9 rfl) rfl
      have e4 := V.at (zdq hd 4 rfl) rfl
      rw [if_neg (by simp [Region.wanted, yielded, e4])]
      exact hK _ undef _ rfl ⟨hB, hz, s0, s1, V.step 10 rfl⟩
    · intro L v W2 hd hn ⟨hB, hz, s0, s1, V⟩ K hK
      have e4 := V.at (zdq hd 4 rfl) rfl
      have e10 := V.at (zdq hd 10 rfl) rfl
      rw [if_pos (by simp [Region.wanted])]
      go_wp2_with fail
      exact hK _ (.bool false) _ (by simp only [Act.put, pA, pB, pC, e4, e10]) ⟨hB, hz, s0, s1, V.step 11 rfl⟩
    · intro L v W2 hd hn ⟨hB, hz, s0, s1, V⟩ K hK
      have e11 := V.at (zdq hd 11 rfl) rfl
      rw [if_pos (by simp [Region.wanted])]
      go_wp2_with fail
      exact hK _ (.bool false) _ (by simp only [Act.put, pA, pB, pC, e11]) ⟨hB, hz, s0, s1, V.step 12 rfl⟩
  · intro L v W2 hL ⟨hB, hz, s0, s1, V⟩
    have e0 := V.at (hL 0 (by decide)) rfl
    have e1 := V.at (hL 1 (by decide)) rfl
    have e2 := V.at (hL 2 (by decide)) rfl
    have e3 := V.at (hL 3 (by decide)) rfl
    have e4 := V.at (hL 4 (by decide)) rfl
    have e5 := V.at (hL 5 (by decide)) rfl
    have e6 := V.at (hL 6 (by decide)) rfl
    have e7 := V.at (hL 7 (by decide)) rfl
    have e8 := V.at (hL 8 (by decide)) rfl
    have e9 := V.at (hL 9 (by decide)) rfl
    have e10 := V.at (hL 10 (by decide)) rfl
    have e11 := V.at (hL 11 (by decide)) rfl
    have e12 := V.at (hL 12 (by decide)) rfl
    clear hL V
    simp only [Exit.then, e0, e1, e2, e3, e4, e5, e6, e7, e8, e9, e10, e11, e12]
    clear e0 e1 e2 e3 e4 e5 e6 e7 e8 e9 e10 e11 e12
    replace B0 := s0
    clear s0
    replace B1 := s1
    clear s1
    replace hb := hB
    clear hB
    clear hbase hz lt_B0 lt_B1
    go_wp2_with fail
    go_ret
    exact ⟨by rw [HV.out]; rfl, hb⟩
 | true =>
  by_cases hlt : deg x < deg m
  · skip
    have HV := Lib.hid (rsB_2 ho hlt)
    have HOK := Lib.hid (fun W => IsPoly_any p x hx W)
    rw [ho] at HOK
    have HDG := Lib.hid (fun f W => degree_any f W)
    clear ho
    have lt_B0 : (w.heap.size) < W1.heap.size := B0.lt
    have lt_B1 : (w.heap.size + 1) < W1.heap.size := B1.lt
    have hbase : w.heap.size ≤ W1.heap.size := hb.size
    refine wp_region_stepsG Try.mixed (by kernel_rfl) (by kernel_rfl) (fun v => by (simp only [frL, Act.put, pA, pB, pC, Nat.reduceAdd, Nat.zero_add]; exact rfl))
     (fun L v W2 => Below w.heap.size w W2 ∧ W1.heap.size ≤ W2.heap.size ∧ Row W2 (w.heap.size) 70 (fdC p m).toArray ∧ Blk W2 (w.heap.size + 1) 64 28 (x) ∧ VF L v [some (.pointer (some ⟨w.heap.size, 0, none⟩)), some (.int .i64 p), some (.agg (zb 64 (x))), some (.bool true), some (.bool true), some (.agg (zb 64 (x))), some (.int .i64 (deg x)), some (.pointer (some ⟨w.heap.size, 1, none⟩)), some (.agg (zb 64 (m))), some (.int .i64 (deg m)), some (.bool true), some (.bool true), some (.bool true)]) ?_ ?_ ?_
    · intro v hv0
      exact ⟨hb.drew, Nat.le_refl _, B0.drew, B1.drew, VF.start⟩
    · refine (.cons ?_ (.cons ?_ (.cons ?_ (.cons ?_ (.cons ?_ (.cons ?_ (.cons ?_ (.cons ?_ (.cons ?_ (.cons ?_ (.cons ?_ (.cons ?_ (.cons ?_ (.nil _))))))))))))))
      · intro L v W2 hd hn ⟨hB, hz, s0, s1, V⟩ K hK
        rw [if_pos (by simp [Region.wanted])]
        go_wp2_with fail
        exact hK _ (.pointer (some ⟨w.heap.size, 0, none⟩)) _ (by simp only [Act.put, pA, pB, pC ]) ⟨hB, hz, s0, s1, V.step 0 rfl⟩
      · intro L v W2 hd hn ⟨hB, hz, s0, s1, V⟩ K hK
        have e0 := V.at (zdq hd 0 rfl) rfl
        rw [if_pos (by simp [Region.wanted])]
        have cc := s0.cell (i := 0) (v := .int .i64 p) (fdC_at p m)
        go_wp2_with fail
        exact hK _ (.int .i64 p) _ (by simp only [Act.put, pA, pB, pC, e0]) ⟨hB, hz, s0, s1, V.step 1 rfl⟩
      · intro L v W2 hd hn ⟨hB, hz, s0, s1, V⟩ K hK
        rw [if_pos (by simp [Region.wanted])]
        refine zlc s1 Try.underlying28 Try.size28 ?_
        exact hK _ _ _ rfl ⟨hB, hz, s0, s1, V.step 2 rfl⟩
      · intro L v W2 hd hn ⟨hB, hz, s0, s1, V⟩ K hK
        have e1 := V.at (zdq hd 1 rfl) rfl
        have e2 := V.at (zdq hd 2 rfl) rfl
        rw [if_pos (by simp [Region.wanted])]
        go_wp2_with (go_at_call 136; refine (HOK.out _).mono ?_; rintro e wy ⟨rfl, hy⟩)
        exact hK _ (.bool true) _ (by simp only [Act.put, pA, pB, pC, e1, e2]) ⟨hB.trans (hy.mono hB.size), (Nat.le_trans hz hy.size), s0.zw hy, s1.zw hy, V.step 3 rfl⟩
      · intro L v W2 hd hn ⟨hB, hz, s0, s1, V⟩ K hK
        have e3 := V.at (zdq hd 3 rfl) rfl
        rw [if_pos (by simp [Region.wanted])]
        go_wp2_with fail
        exact hK _ (.bool true) _ (by simp only [Act.put, pA, pB, pC, e3]) ⟨hB, hz, s0, s1, V.step 4 rfl⟩
      · intro L v W2 hd hn ⟨hB, hz, s0, s1, V⟩ K hK
        have e4 := V.at (zdq hd 4 rfl) rfl
        rw [if_pos (by simp [Region.wanted, yielded, e4])]
        refine zlc s1 Try.underlying28 Try.size28 ?_
        exact hK _ _ _ rfl ⟨hB, hz, s0, s1, V.step 5 rfl⟩
      · intro L v W2 hd hn ⟨hB, hz, s0, s1, V⟩ K hK
        have e5 := V.at (zdq hd 5 rfl) rfl
        have e4 := V.at (zdq hd 4 rfl) rfl
        rw [if_pos (by simp [Region.wanted, yielded, e4])]
        go_wp2_with (go_at_call 77; refine (HDG.out _ _).mono ?_; rintro e wy ⟨rfl, hy⟩)
        exact hK _ (.int .i64 (deg x)) _ (by simp only [Act.put, pA, pB, pC, e5, e4]) ⟨hB.trans (hy.mono hB.size), (Nat.le_trans hz hy.size), s0.zw hy, s1.zw hy, V.step 6 rfl⟩
      · intro L v W2 hd hn ⟨hB, hz, s0, s1, V⟩ K hK
        have e4 := V.at (zdq hd 4 rfl) rfl
        rw [if_pos (by simp [Region.wanted, yielded, e4])]
        go_wp2_with fail
        exact hK _ (.pointer (some ⟨w.heap.size, 1, none⟩)) _ (by simp only [Act.put, pA, pB, pC, e4]) ⟨hB, hz, s0, s1, V.step 7 rfl⟩
      · intro L v W2 hd hn ⟨hB, hz, s0, s1, V⟩ K hK
        have e7 := V.at (zdq hd 7 rfl) rfl
        have e4 := V.at (zdq hd 4 rfl) rfl
        rw [if_pos (by simp [Region.wanted, yielded, e4])]
        refine wp_load_mid 28 _ rfl _ 1 e7 _ _ (s0.fd) Try.underlying28 rfl (by rw [zl]; exact Try.size28) ?_
        exact hK _ _ _ rfl ⟨hB, hz, s0, s1, V.step 8 rfl⟩
      · intro L v W2 hd hn ⟨hB, hz, s0, s1, V⟩ K hK
        have e8 := V.at (zdq hd 8 rfl) rfl
        have e4 := V.at (zdq hd 4 rfl) rfl
        rw [if_pos (by simp [Region.wanted, yielded, e4])]
        go_wp2_with (go_at_call 77; refine (HDG.out _ _).mono ?_; rintro e wy ⟨rfl, hy⟩)
        exact hK _ (.int .i64 (deg m)) _ (by simp only [Act.put, pA, pB, pC, e8, e4]) ⟨hB.trans (hy.mono hB.size), (Nat.le_trans hz hy.size), s0.zw hy, s1.zw hy, V.step 9 rfl⟩
      · intro L v W2 hd hn ⟨hB, hz, s0, s1, V⟩ K hK
        have e6 := V.at (zdq hd 6 rfl) rfl
        have e9 := V.at (zdq hd 9 rfl) rfl
        have e4 := V.at (zdq hd 4 rfl) rfl
        rw [if_pos (by simp [Region.wanted, yielded, e4])]
        go_wp2_with fail
        exact hK _ (.bool true) _ (by simp only [Act.put, pA, pB, pC, e6, e9, e4]) ⟨hB, hz, s0, s1, V.step 10 rfl⟩
      · intro L v W2 hd hn ⟨hB, hz, s0, s1, V⟩ K hK
        have e4 := V.at (zdq hd 4 rfl) rfl
        have e10 := V.at (zdq hd 10 rfl) rfl
        rw [if_pos (by simp [Region.wanted])]
        go_wp2_with fail
        exact hK _ (.bool true) _ (by simp only [Act.put, pA, pB, pC, e4, e10]) ⟨hB, hz, s0, s1, V.step 11 rfl⟩
      · intro L v W2 hd hn ⟨hB, hz, s0, s1, V⟩ K hK
        have e11 := V.at (zdq hd 11 rfl) rfl
        rw [if_pos (by simp [Region.wanted])]
        go_wp2_with fail
        exact hK _ (.bool true) _ (by simp only [Act.put, pA, pB, pC, e11]) ⟨hB, hz, s0, s1, V.step 12 rfl⟩
    · intro L v W2 hL ⟨hB, hz, s0, s1, V⟩
      have e0 := V.at (hL 0 (by decide)) rfl
      have e1 := V.at (hL 1 (by decide)) rfl
      have e2 := V.at (hL 2 (by decide)) rfl
      have e3 := V.at (hL 3 (by decide)) rfl
      have e4 := V.at (hL 4 (by decide)) rfl
      have e5 := V.at (hL 5 (by decide)) rfl
      have e6 := V.at (hL 6 (by decide)) rfl
      have e7 := V.at (hL 7 (by decide)) rfl
      have e8 := V.at (hL 8 (by decide)) rfl
      have e9 := V.at (hL 9 (by decide)) rfl
      have e10 := V.at (hL 10 (by decide)) rfl
      have e11 := V.at (hL 11 (by decide)) rfl
      have e12 := V.at (hL 12 (by decide)) rfl
      clear hL V
      simp only [Exit.then, e0, e1, e2, e3, e4, e5, e6, e7, e8, e9, e10, e11, e12]
      clear e0 e1 e2 e3 e4 e5 e6 e7 e8 e9 e10 e11 e12
      replace B0 := s0
      clear s0
      replace B1 := s1
      clear s1
      replace hb := hB
      clear hB
      clear hbase hz lt_B0 lt_B1
      go_wp2_with fail
      go_ret
      exact ⟨by rw [HV.out]; rfl, hb⟩
  · skip
    have HV := Lib.hid (rsB_3 ho hlt)
    have HOK := Lib.hid (fun W => IsPoly_any p x hx W)
    rw [ho] at HOK
    have HDG := Lib.hid (fun f W => degree_any f W)
    clear ho
    have lt_B0 : (w.heap.size) < W1.heap.size := B0.lt
    have lt_B1 : (w.heap.size + 1) < W1.heap.size := B1.lt
    have hbase : w.heap.size ≤ W1.heap.size := hb.size
    refine wp_region_stepsG Try.mixed (by kernel_rfl) (by kernel_rfl) (fun v => by (simp only [frL, Act.put, pA, pB, pC, Nat.reduceAdd, Nat.zero_add]; exact rfl))
     (fun L v W2 => Below w.heap.size w W2 ∧ W1.heap.size ≤ W2.heap.size ∧ Row W2 (w.heap.size) 70 (fdC p m).toArray ∧ Blk W2 (w.heap.size + 1) 64 28 (x) ∧ VF L v [some (.pointer (some ⟨w.heap.size, 0, none⟩)), some (.int .i64 p), some (.agg (zb 64 (x))), some (.bool true), some (.bool true), some (.agg (zb 64 (x))), some (.int .i64 (deg x)), some (.pointer (some ⟨w.heap.size, 1, none⟩)), some (.agg (zb 64 (m))), some (.int .i64 (deg m)), some (.bool false), some (.bool false), some (.bool false)]) ?_ ?_ ?_
    · intro v hv0
      exact ⟨hb.drew, Nat.le_refl _, B0.drew, B1.drew, VF.start⟩
    · refine (.cons ?_ (.cons ?_ (.cons ?_ (.cons ?_ (.cons ?_ (.cons ?_ (.cons ?_ (.cons ?_ (.cons ?_ (.cons ?_ (.cons ?_ (.cons ?_ (.cons ?_ (.nil _))))))))))))))
      · intro L v W2 hd hn ⟨hB, hz, s0, s1, V⟩ K hK
        rw [if_pos (by simp [Region.wanted])]
        go_wp2_with fail
        exact hK _ (.pointer (some ⟨w.heap.size, 0, none⟩)) _ (by simp only [Act.put, pA, pB, pC ]) ⟨hB, hz, s0, s1, V.step 0 rfl⟩
      · intro L v W2 hd hn ⟨hB, hz, s0, s1, V⟩ K hK
        have e0 := V.at (zdq hd 0 rfl) rfl
        rw [if_pos (by simp [Region.wanted])]
        have cc := s0.cell (i := 0) (v := .int .i64 p) (fdC_at p m)
        go_wp2_with fail
        exact hK _ (.int .i64 p) _ (by simp only [Act.put, pA, pB, pC, e0]) ⟨hB, hz, s0, s1, V.step 1 rfl⟩
      · intro L v W2 hd hn ⟨hB, hz, s0, s1, V⟩ K hK
        rw [if_pos (by simp [Region.wanted])]
        refine zlc s1 Try.underlying28 Try.size28 ?_
        exact hK _ _ _ rfl ⟨hB, hz, s0, s1, V.step 2 rfl⟩
      · intro L v W2 hd hn ⟨hB, hz, s0, s1, V⟩ K hK
        have e1 := V.at (zdq hd 1 rfl) rfl
        have e2 := V.at (zdq hd 2 rfl) rfl
        rw [if_pos (by simp [Region.wanted])]
        go_wp2_with (go_at_call 136; refine (HOK.out _).mono ?_; rintro e wy ⟨rfl, hy⟩)
        exact hK _ (.bool true) _ (by simp only [Act.put, pA, pB, pC, e1, e2]) ⟨hB.trans (hy.mono hB.size), (Nat.le_trans hz hy.size), s0.zw hy, s1.zw hy, V.step 3 rfl⟩
      · intro L v W2 hd hn ⟨hB, hz, s0, s1, V⟩ K hK
        have e3 := V.at (zdq hd 3 rfl) rfl
        rw [if_pos (by simp [Region.wanted])]
        go_wp2_with fail
        exact hK _ (.bool true) _ (by simp only [Act.put, pA, pB, pC, e3]) ⟨hB, hz, s0, s1, V.step 4 rfl⟩
      · intro L v W2 hd hn ⟨hB, hz, s0, s1, V⟩ K hK
        have e4 := V.at (zdq hd 4 rfl) rfl
        rw [if_pos (by simp [Region.wanted, yielded, e4])]
        refine zlc s1 Try.underlying28 Try.size28 ?_
        exact hK _ _ _ rfl ⟨hB, hz, s0, s1, V.step 5 rfl⟩
      · intro L v W2 hd hn ⟨hB, hz, s0, s1, V⟩ K hK
        have e5 := V.at (zdq hd 5 rfl) rfl
        have e4 := V.at (zdq hd 4 rfl) rfl
        rw [if_pos (by simp [Region.wanted, yielded, e4])]
        go_wp2_with (go_at_call 77; refine (HDG.out _ _).mono ?_; rintro e wy ⟨rfl, hy⟩)
        exact hK _ (.int .i64 (deg x)) _ (by simp only [Act.put, pA, pB, pC, e5, e4]) ⟨hB.trans (hy.mono hB.size), (Nat.le_trans hz hy.size), s0.zw hy, s1.zw hy, V.step 6 rfl⟩
      · intro L v W2 hd hn ⟨hB, hz, s0, s1, V⟩ K hK
        have e4 := V.at (zdq hd 4 rfl) rfl
        rw [if_pos (by simp [Region.wanted, yielded, e4])]
        go_wp2_with fail
        exact hK _ (.pointer (some ⟨w.heap.size, 1, none⟩)) _ (by simp only [Act.put, pA, pB, pC, e4]) ⟨hB, hz, s0, s1, V.step 7 rfl⟩
      · intro L v W2 hd hn ⟨hB, hz, s0, s1, V⟩ K hK
        have e7 := V.at (zdq hd 7 rfl) rfl
        have e4 := V.at (zdq hd 4 rfl) rfl
        rw [if_pos (by simp [Region.wanted, yielded, e4])]
        refine wp_load_mid 28 _ rfl _ 1 e7 _ _ (s0.fd) Try.underlying28 rfl (by rw [zl]; exact Try.size28) ?_
        exact hK _ _ _ rfl ⟨hB, hz, s0, s1, V.step 8 rfl⟩
      · intro L v W2 hd hn ⟨hB, hz, s0, s1, V⟩ K hK
        have e8 := V.at (zdq hd 8 rfl) rfl
        have e4 := V.at (zdq hd 4 rfl) rfl
        rw [if_pos (by simp [Region.wanted, yielded, e4])]
        go_wp2_with (go_at_call 77; refine (HDG.out _ _).mono ?_; rintro e wy ⟨rfl, hy⟩)
        exact hK _ (.int .i64 (deg m)) _ (by simp only [Act.put, pA, pB, pC, e8, e4]) ⟨hB.trans (hy.mono hB.size), (Nat.le_trans hz hy.size), s0.zw hy, s1.zw hy, V.step 9 rfl⟩
      · intro L v W2 hd hn ⟨hB, hz, s0, s1, V⟩ K hK
        have e6 := V.at (zdq hd 6 rfl) rfl
        have e9 := V.at (zdq hd 9 rfl) rfl
        have e4 := V.at (zdq hd 4 rfl) rfl
        rw [if_pos (by simp [Region.wanted, yielded, e4])]
        go_wp2_with fail
        exact hK _ (.bool false) _ (by simp only [Act.put, pA, pB, pC, e6, e9, e4]) ⟨hB, hz, s0, s1, V.step 10 rfl⟩
      · intro L v W2 hd hn ⟨hB, hz, s0, s1, V⟩ K hK
        have e4 := V.at (zdq hd 4 rfl) rfl
        have e10 := V.at (zdq hd 10 rfl) rfl
        rw [if_pos (by simp [Region.wanted])]
        go_wp2_with fail
        exact hK _ (.bool false) _ (by simp only [Act.put, pA, pB, pC, e4, e10]) ⟨hB, hz, s0, s1, V.step 11 rfl⟩
      · intro L v W2 hd hn ⟨hB, hz, s0, s1, V⟩ K hK
        have e11 := V.at (zdq hd 11 rfl) rfl
        rw [if_pos (by simp [Region.wanted])]
        go_wp2_with fail
        exact hK _ (.bool false) _ (by simp only [Act.put, pA, pB, pC, e11]) ⟨hB, hz, s0, s1, V.step 12 rfl⟩
    · intro L v W2 hL ⟨hB, hz, s0, s1, V⟩
      have e0 := V.at (hL 0 (by decide)) rfl
      have e1 := V.at (hL 1 (by decide)) rfl
      have e2 := V.at (hL 2 (by decide)) rfl
      have e3 := V.at (hL 3 (by decide)) rfl
      have e4 := V.at (hL 4 (by decide)) rfl
      have e5 := V.at (hL 5 (by decide)) rfl
      have e6 := V.at (hL 6 (by decide)) rfl
      have e7 := V.at (hL 7 (by decide)) rfl
      have e8 := V.at (hL 8 (by decide)) rfl
      have e9 := V.at (hL 9 (by decide)) rfl
      have e10 := V.at (hL 10 (by decide)) rfl
      have e11 := V.at (hL 11 (by decide)) rfl
      have e12 := V.at (hL 12 (by decide)) rfl
      clear hL V
      simp only [Exit.then, e0, e1, e2, e3, e4, e5, e6, e7, e8, e9, e10, e11, e12]
      clear e0 e1 e2 e3 e4 e5 e6 e7 e8 e9 e10 e11 e12
      replace B0 := s0
      clear s0
      replace B1 := s1
      clear s1
      replace hb := hB
      clear hB
      clear hbase hz lt_B0 lt_B1
      go_wp2_with fail
      go_ret
      exact ⟨by rw [HV.out]; rfl, hb⟩
end Go.Proofs.Ytelgefgphhebnaa
end
section
namespace Go.Proofs.Ytelgefgphhebnaa
open Go Go.RowKit
set_option linter.unusedVariables false
section
variable {P : Program}
theorem wp_load_rowc {o : Oper} {a : Act} {w : World} {K : Act → World → Prop} {Q : Exit → Act → World → Prop} (ty : TypeId) (x : Operand) (ho : o.op = .load ty x)
 (b i : Nat) (hx : a.eval x = .pointer (some ⟨b, i, none⟩)) (t : TypeId) (cs : Array Value) (hb : Row w b t cs) (v : Value) (hi : cs[i]? = some v) (d : TypeDesc)
 (hu : P.underlying ty = some d) (hd : (match d with | .struct _ | .array _ _ => true | _ => false) = false) (h : K (a.put o.dst v) w) : o.wp P a w K Q := by
 have hc := hb.cell hi
 have hagg : (isAgg ty).run P w = .ok false w := by
  unfold isAgg
  rw [Sem.run_bind, run_underlying hu w]
  cases d <;> simp_all
 unfold Oper.wp execOp
 simp only [ho, hx, Instr.loadAt, Instr.sureAddr, Sem.run_bind, Sem.run_pure, Result.andThen_ok, loadVar, hagg, Bool.false_eq_true, if_false, Sem.run_ite, run_load, hc]
 exact h
theorem wpList_load_rowc {ops : Array Oper} {rest : List Oper} {o : Oper} {a : Act} {w : World} {Q : Exit → Act → World → Prop} (hgd : o.guard = none) (ty : TypeId) (x : Operand) (ho : o.op = .load ty x)
 (b i : Nat) (hx : a.eval x = .pointer (some ⟨b, i, none⟩)) (t : TypeId) (cs : Array Value) (hb : Row w b t cs) (v : Value) (hi : cs[i]? = some v) (d : TypeDesc)
 (hu : P.underlying ty = some d) (hd : (match d with | .struct _ | .array _ _ => true | _ => false) = false) (h : wpList P ops Q rest (a.put o.dst v) w) : wpList P ops Q (o :: rest) a w :=
 wpList_plain hgd fun _ hK => wp_load_rowc ty x ho b i hx t cs hb v hi d hu hd (hK _ _ h)
end
end Go.Proofs.Ytelgefgphhebnaa
end
section
namespace Go.Proofs.Ytelgefgphhebnaa
open Go Go.RowKit
set_option linter.unusedVariables false
/-- the address of a slice whose first A rows are F -/
def SlR (w : World) (a : Option Addr) (A : Nat) (F : Nat → Nat → Nat) : Prop :=
 A = 0 ∨ ∃ b n t, a = some ⟨b, 0, none⟩ ∧ A ≤ n ∧ Blk w b (n * 64) t (fl 64 F)
theorem SlR.has {w : World} {a : Option Addr} {A : Nat} {F : Nat → Nat → Nat} (h : SlR w a A F) (hA : 0 < A) : ∃ b n t, a = some ⟨b, 0, none⟩ ∧ A ≤ n ∧ Blk w b (n * 64) t (fl 64 F) := by
 rcases h with h | h
 · omega
 · exact h
theorem SlR.of {w : World} {b n A : Nat} {t : TypeId} {F : Nat → Nat → Nat} (h : Blk w b (n * 64) t (fl 64 F)) (hA : A ≤ n) : SlR w (some ⟨b, 0, none⟩) A F := .inr ⟨b, n, t, rfl, hA, h⟩
theorem SlR.of8 {w : World} {b : Nat} {t : TypeId} {F : Nat → Nat → Nat} (h : Blk w b 512 t (fl 64 F)) : SlR w (some ⟨b, 0, none⟩) 8 F := .of (n := 8) h (Nat.le_refl _)
theorem SlR.nil (w : World) (F : Nat → Nat → Nat) : SlR w none 0 F := .inl rfl
theorem SlR.below {w w' : World} {a : Option Addr} {A : Nat} {F : Nat → Nat → Nat} (h : SlR w a A F) (hb : Below w.heap.size w w') : SlR w' a A F := by
 rcases h with h | ⟨b, n, t, e, hA, h⟩
 · exact .inl h
 · exact .inr ⟨b, n, t, e, hA, h.zw hb⟩
theorem bcells_made (n : Nat) : madeCells (zb 64 fun _ => 0) (n * 64) = zb (n * 64) (fl 64 fun _ _ => 0) := by
 rw [fl_zero]
 apply Array.ext
 · rw [size_madeCells, zbs]
 · intro i h1 h2
   rw [zbs] at h2
   have e := bcells_get (n := n * 64) (f := fun _ => 0) (i := i) h2
   rw [Array.getElem?_eq_getElem (by rw [zbs]; exact h2)] at e
   injection e with e
   rw [e]
   have hm : i % 64 < 64 := Nat.mod_lt _ (by decide)
   have e2 := bcells_get (n := 64) (f := fun _ => 0) (i := i % 64) hm
   unfold madeCells
   simp only [Array.getElem_map, Array.getElem_range, zbs]
   rw [getElem!_def, e2]
section
variable {P : Program}
theorem wpList_make_rows (w : World) {ops : Array Oper} {rest : List Oper} {o : Oper} {a : Act} {Q : Exit → Act → World → Prop} (hg : o.guard = none) (t : TypeId) (l c : Operand) (hop : o.op = .makeSlice t l c)
 (e : TypeId) (ht : P.underlying t = some (.slice e)) (hinfo : (P.info? e).map (fun i => (i.zero.map (·.cells), i.size, i.bytes)) = some (some (zb 64 fun _ => 0), 64, 64)) (n : Nat) (hn : n ≤ 100000)
 (hl : a.eval l = .int .i64 (n : Int)) (hc : a.eval c = .int .i64 (n : Int))
 (hK : wpList P ops Q rest (a.put o.dst (.slice (some ⟨w.heap.size, 0, none⟩) n n)) (w.alloc (.cells (zb (n * 64) (fl 64 fun _ _ => 0)) e))) :
 wpList P ops Q (o :: rest) a w := by
 refine wpList_plain hg fun K hK' => ?_
 obtain ⟨i, hi, hzz⟩ := Option.map_eq_some_iff.1 hinfo
 simp only [Prod.mk.injEq] at hzz
 obtain ⟨hz0, hs, hb⟩ := hzz
 obtain ⟨z, hz, hzc⟩ := Option.map_eq_some_iff.1 hz0
 have hrun := run_make (P := P) w t e i z ht hi hz .i64 .i64 n n (by omega) (Int.le_refl _) (by rw [hb]; omega) (by omega)
 rw [Int.toNat_natCast, hs, hzc, bcells_made] at hrun
 unfold Oper.wp
 simp [execOp, hop, hl, hc, hrun, Result.andThen]
 exact hK' _ _ hK
/-- rows that are copied: all is read before anything is written -/
theorem run_copy_rows (w : World) (dT sT ty elem : TypeId) (b dLen dCap : Nat) (a : Addr) (sLen sCap : Nat) (cs : List Value)
 (hu : P.underlying dT = some (.slice elem)) (hs : (P.info? elem).map (·.size) = some 64) (hn : cs.length = Nat.min sLen dLen * 64)
 (hsrc : ∀ j v, cs[j]? = some v → w.cell? (a.add j) = some v) (hc : ∀ j, j < cs.length → (w.cell? ⟨b, 0 + j, none⟩).isSome = true) (hf : ∀ j, j < cs.length → w.frozen? ⟨b, 0 + j, none⟩ = false) (h1 : ∀ v ∈ cs, v.oneCell' = true) :
 (Builtin.copy_ #[dT, sT] ty #[.slice (some ⟨b, 0, none⟩) dLen dCap, .slice (some a) sLen sCap]).run P w = .ok (goInt (Nat.min sLen dLen)) (w.setCells b 0 cs) := by
 have hl := run_loadCells_list (P := P) w a cs hsrc
 have hst := run_storeCells_cells (P := P) b 0 cs 0 w (by simpa using hc) (by simpa using hf) h1
 cases hq : P.info? elem with
 | none => simp [hq] at hs
 | some i =>
  have hi : i.size = 64 := by simpa [hq] using hs
  simp [Builtin.copy_, run_underlying hu, Builtin.lenOf, Builtin.firstCells, sizeOf, typeInfo, hq, hi, ← hn, hl, hst]
end
/-- the rows of the one below n, those of the other from n on -/
theorem copied_rows {F G : Nat → Nat → Nat} {n k : Nat} (hk : Nat.min n k * 64 ≤ k * 64) (hG : ∀ i, i < k → n ≤ i → ∀ j, j < 64 → F i j = G i j) : ∀ x, x < k * 64 → sub (fl 64 F) 0 (Nat.min n k * 64) (fl 64 G) x = fl 64 G x := by
 intro x hx
 unfold sub
 by_cases h : 0 ≤ x ∧ x < 0 + Nat.min n k * 64
 · rw [if_pos h, Nat.sub_zero]
 · rw [if_neg h]
   unfold fl
   have hd : x / 64 < k := Nat.div_lt_of_lt_mul (by rw [Nat.mul_comm]; exact hx)
   have hnk : Nat.min n k ≤ x / 64 := by
    rw [Nat.le_div_iff_mul_le (by decide)]
    omega
   refine hG _ hd ?_ _ (Nat.mod_lt _ (by decide))
   have : Nat.min n k = n ∨ Nat.min n k = k := by
    rcases Nat.le_total n k with h | h
    · left; exact Nat.min_eq_left h
    · right; exact Nat.min_eq_right h
   omega
section
variable {P : Program}
theorem wp_copy_rows {o : Oper} {a : Act} {w : World} {K : Act → World → Prop} {Q : Exit → Act → World → Prop} (x y : Operand) (t u : TypeId)
 (ho : o.op = .call { callee := .builtin .copy, args := #[x, y], argTypes := #[t, u] }) (e : TypeId) (hu : P.underlying t = some (.slice e)) (hs : (P.info? e).map (·.size) = some 64)
 (b c k dc n sc N : Nat) (T T' : TypeId) (Z R : Nat → Nat → Nat) (hx : a.eval x = .slice (some ⟨b, 0, none⟩) k dc) (hy : a.eval y = .slice (some ⟨c, 0, none⟩) n sc)
 (hb : Blk w b (k * 64) T (fl 64 Z)) (hc : Blk w c (N * 64) T' (fl 64 R)) (hn : n ≤ N) (hz : ∀ i, i < k → n ≤ i → ∀ j, j < 64 → Z i j = R i j)
 (h : K (a.put o.dst (goInt (Nat.min n k))) (w.setRow b (zb (k * 64) (fl 64 R)))) : o.wp P a w K Q := by
 have m1 : Nat.min n k ≤ n := Nat.min_le_left _ _
 have m2 : Nat.min n k ≤ k := Nat.min_le_right _ _
 have hl : (bl (Nat.min n k * 64) (fl 64 R)).length = Nat.min n k * 64 := zl _ _
 have hr := run_copy_rows (P := P) w t u o.type e b k dc ⟨c, 0, none⟩ n sc (bl (Nat.min n k * 64) (fl 64 R)) hu hs hl
  (fun j v hv => by
   have := hc.range_at (o := 0) (m := Nat.min n k * 64) (g := fl 64 R) (by omega) (fun j _ => by rw [Nat.zero_add]) j v hv
   have e : (⟨c, 0, none⟩ : Addr).add j = ⟨c, 0 + j, none⟩ := by unfold Addr.add; split <;> simp_all
   rw [e]; exact this)
  (fun j hj => by rw [hl] at hj; rw [hb.cell (i := 0 + j) (by omega)]; rfl) (fun j _ => hb.frozen _)
  (fun v hv => by
   unfold bl at hv
   obtain ⟨i, _, rfl⟩ := List.mem_map.1 hv
   rfl)
 rw [hb.setCells (by omega), zbc (copied_rows (n := n) (k := k) (F := Z) (G := R) (by omega) hz)] at hr
 unfold Oper.wp
 simp only [execOp, ho, resolve, invoke, builtin, Sem.run_bind, Sem.run_pure, Result.andThen_ok, List.map_toArray, List.map_cons, List.map_nil, hx, hy, hr]
 exact h
end
def slLen : Value → Nat
 | .slice _ n _ => n
 | _ => 0
theorem Try.made28 : (Try.prog.info? 28).map (fun i => (i.zero.map (·.cells), i.size, i.bytes)) = some (some (zb 64 fun _ => 0), 64, 64) := by simp only [zb, bl]; kernel_rfl
attribute [irreducible] SlR
end Go.Proofs.Ytelgefgphhebnaa
end
section
namespace Go.Proofs.Ytelgefgphhebnaa
open Go.ChangeShapes Go.WideShapes Go.ChangeAt Go.RowKit
section
variable {H : Type} {enc : TypeId × Value → H} {P : Program}
theorem trod_int_to {e : TypeId} {k : IntKind} (he : P.underlying e = some (.int k)) {w : World} (w' : World) {b : Nat} (b' : Nat) {s : Nat → Bool} (s' : Nat → Bool) {h : Bool} (h' : Bool) {m : Nat} {c : List Value} {x : DataW H × List MemPlace}
 (hx : DataW.trod enc P w b s h m e c = some x) : DataW.trod enc P w' b' s' h' m e c = some x := by
 cases m with
 | zero => simp [DataW.trod] at hx
 | succ m =>
  obtain ⟨n, rfl, rfl, hw⟩ := DataW.trod_int he hx
  unfold DataW.trod
  rw [he]
  simp [hw]
theorem trod_int_same {e : TypeId} {k : IntKind} (he : P.underlying e = some (.int k)) (w w' : World) (b b' : Nat) (s s' : Nat → Bool) (h h' : Bool) (m : Nat) (c : List Value) :
 DataW.trod enc P w b s h m e c = DataW.trod enc P w' b' s' h' m e c := by
 cases h1 : DataW.trod enc P w b s h m e c with
 | some x => rw [trod_int_to he w' b' s' h' h1]
 | none =>
  cases h2 : DataW.trod enc P w' b' s' h' m e c with
  | none => rfl
  | some x => rw [trod_int_to he w b s h h2] at h1; cases h1
theorem open_barr {t e : TypeId} {n : Nat} {w : World} {r : Reach} {b0 base : Nat} {spare : Nat → Bool} {held : Bool} {v : Value} {d : DataW H} {p : List MemPlace}
 (ht : P.underlying t = some (.array n e)) (he : P.underlying e = some (.int .u8)) (hC : P.cellsOf t = n) (hCe : P.cellsOf e = 1)
 (hv : Value.okWide P w r b0 t v) (h : DataW.Trod enc P w base spare held t v d p) :
 ∃ f : Nat → Nat, byte f ∧ v = .agg (zb n f) ∧ p = [] ∧ ∀ (w' : World) (base' : Nat) (spare' : Nat → Bool) (held' : Bool), DataW.Trod enc P w' base' spare' held' t v d [] := by
 unfold Value.okWide at hv
 rw [ht] at hv
 obtain ⟨cs, rfl, hsz, _⟩ := hv
 obtain ⟨fuel, hf⟩ := h
 obtain ⟨xs, m, hm, hx, hlen, hxl, hel⟩ := DataW.trod_array ht hf
 subst hm
 have hcs : cs.size = n := by rw [hsz, hC]
 have each : ∀ i, i < n → ∃ k : Nat, k < 256 ∧ cs[i]? = some (.int .u8 (k : Int)) ∧ xs[i]? = some (.lit (.int .u8 (k : Int)), []) := by
  intro i hi
  have h1 := hel i hi
  have hxi : xs[i]? = some (xs[i]'(by omega)) := List.getElem?_eq_getElem (by omega)
  rw [hxi, hCe] at h1
  obtain ⟨z, hz1, hz2, hz3⟩ := DataW.trod_int he h1
  have hb := bounds_u8 hz3
  obtain ⟨k, rfl⟩ := Int.eq_ofNat_of_zero_le hb.1
  refine ⟨k, by omega, ?_, by rw [hxi, hz2]⟩
  have h2 : ((cs.toList.drop (i * 1)).take 1)[0]? = some (.int .u8 (k : Int)) := by
   have h3 : (Value.agg cs).cells.toList = cs.toList := rfl
   rw [← h3, hz1]; rfl
  simpa using h2
 refine ⟨fun i => match cs[i]? with | some (.int _ z) => if i < n then z.toNat else 0 | _ => 0, ?_, ?_, ?_, ?_⟩
 · intro i
   by_cases hi : i < n
   · obtain ⟨k, hk, hc, _⟩ := each i hi
     simp only [hc, hi, if_true, Int.toNat_natCast]
     exact hk
   · have : cs[i]? = none := Array.getElem?_eq_none (by omega)
     simp [this]
 · congr 1
   apply Array.ext_getElem?
   intro i
   by_cases hi : i < n
   · obtain ⟨k, hk, hc, _⟩ := each i hi
     rw [bcells_get hi]
     simp only [hc, hi, if_true, Int.toNat_natCast]
   · rw [Array.getElem?_eq_none (by omega), Array.getElem?_eq_none (by rw [zbs]; omega)]
 · have hp : p = xs.flatMap (·.2) := by simpa using congrArg Prod.snd hx
   rw [hp]
   rw [List.flatMap_eq_nil_iff]
   intro x hxm
   obtain ⟨i, hi⟩ := List.getElem?_of_mem hxm
   have hin : i < n := by rw [← hxl]; exact (List.getElem?_eq_some_iff.1 hi).1
   obtain ⟨k, _, _, h2⟩ := each i hin
   rw [hi] at h2
   injection h2 with h2
   rw [h2]
 · intro w' base' spare' held'
   refine ⟨m + 1, ?_⟩
   have e1 : DataW.trod enc P w' base' spare' held' (m + 1) t (Value.agg cs).cells.toList = DataW.trod enc P w base spare held (m + 1) t (Value.agg cs).cells.toList := by
    unfold DataW.trod
    rw [ht]
    simp only [trod_int_same he w' w base' base spare' spare held' held m]
   rw [e1, hf]
   have hp : p = xs.flatMap (·.2) := by simpa using congrArg Prod.snd hx
   have : p = [] := by
    rw [hp, List.flatMap_eq_nil_iff]
    intro x hxm
    obtain ⟨i, hi⟩ := List.getElem?_of_mem hxm
    have hin : i < n := by rw [← hxl]; exact (List.getElem?_eq_some_iff.1 hi).1
    obtain ⟨k, _, _, h2⟩ := each i hin
    rw [hi] at h2
    injection h2 with h2
    rw [h2]
   rw [this]
end
end Go.Proofs.Ytelgefgphhebnaa
end
section
namespace Go.Proofs.Ytelgefgphhebnaa
open Go Go.RowKit Go.ChangeShapes Go.WideShapes Go.ChangeAt
set_option linter.unusedVariables false
/-- an argument's list: n rows of bytes, somewhere -/
def Lst (w : World) (a : Option Addr) (n : Nat) (X : Nat → Nat → Nat) : Prop :=
 n = 0 ∨ ∃ b off, a = some ⟨b, off, none⟩ ∧ b < w.heap.size ∧ ∀ i, i < n → w.rangeAt b (off + i * 64) (bl 64 (X i))
theorem Lst.has {w : World} {a : Option Addr} {n : Nat} {X : Nat → Nat → Nat} (h : Lst w a n X) (hn : 0 < n) : ∃ b off, a = some ⟨b, off, none⟩ ∧ b < w.heap.size ∧ ∀ i, i < n → w.rangeAt b (off + i * 64) (bl 64 (X i)) := by
 rcases h with h | h
 · omega
 · exact h
theorem Lst.below {w w' : World} {a : Option Addr} {n : Nat} {X : Nat → Nat → Nat} (h : Lst w a n X) (hb : Below w.heap.size w w') : Lst w' a n X := by
 rcases h with h | ⟨b, off, e, hl, h⟩
 · exact .inl h
 · refine .inr ⟨b, off, e, Nat.lt_of_lt_of_le hl hb.size, fun i hi j v hj => ?_⟩
   rw [← h i hi j v hj]
   exact World.cell?_of_block (hb.block b hl)
theorem cell_lt {w : World} {b off : Nat} {u : Value} (h : w.cell? ⟨b, off, none⟩ = some u) : b < w.heap.size := by
 apply Classical.byContradiction
 intro hn
 have : w.heap[b]? = none := Array.getElem?_eq_none (by omega)
 simp [World.cell?, this] at h
section
variable {H : Type} {enc : TypeId × Value → H} {P : Program}
theorem open_cells {t e : TypeId} {n : Nat} {w : World} {base : Nat} {spare : Nat → Bool} {held : Bool} {fuel : Nat} {cs : List Value} {x : DataW H × List MemPlace}
 (ht : P.underlying t = some (.array n e)) (he : P.underlying e = some (.int .u8)) (hC : P.cellsOf t = n) (hCe : P.cellsOf e = 1) (h : DataW.trod enc P w base spare held fuel t cs = some x) :
 ∃ f : Nat → Nat, byte f ∧ cs = bl n f := by
 obtain ⟨xs, m, hm, hx, hlen, hxl, hel⟩ := DataW.trod_array ht h
 have hcs : cs.length = n := by rw [hlen, hC]
 have each : ∀ i, i < n → ∃ k : Nat, k < 256 ∧ cs[i]? = some (.int .u8 (k : Int)) := by
  intro i hi
  have h1 := hel i hi
  have hxi : xs[i]? = some (xs[i]'(by omega)) := List.getElem?_eq_getElem (by omega)
  rw [hxi, hCe] at h1
  obtain ⟨z, hz1, hz2, hz3⟩ := DataW.trod_int he h1
  have hb := bounds_u8 hz3
  obtain ⟨k, rfl⟩ := Int.eq_ofNat_of_zero_le hb.1
  refine ⟨k, by omega, ?_⟩
  have h2 : ((cs.drop (i * 1)).take 1)[0]? = some (.int .u8 (k : Int)) := by rw [hz1]; rfl
  simpa using h2
 refine ⟨fun i => match cs[i]? with | some (.int _ z) => if i < n then z.toNat else 0 | _ => 0, ?_, ?_⟩
 · intro i
   by_cases hi : i < n
   · obtain ⟨k, hk, hc⟩ := each i hi
     simp only [hc, hi, if_true, Int.toNat_natCast]
     exact hk
   · have : cs[i]? = none := List.getElem?_eq_none (by omega)
     simp [this]
 · apply List.ext_getElem?
   intro i
   by_cases hi : i < n
   · obtain ⟨k, hk, hc⟩ := each i hi
     unfold bl
     rw [List.getElem?_map, List.getElem?_range hi]
     simp only [Option.map_some, hc, hi, if_true, Int.toNat_natCast]
   · rw [List.getElem?_eq_none (by omega), List.getElem?_eq_none (by rw [zl]; omega)]
/-- the argument, opened -/
theorem open_polyS {t e u : TypeId} {w : World} {v : Value} {d : DataW H} {p : List MemPlace} {r : Reach} {b0 : Nat} (hv : Value.okWide P w r b0 t v)
 (ht : P.underlying t = some (.slice e)) (he : P.underlying e = some (.array 64 u)) (hu : P.underlying u = some (.int .u8)) (hCe : P.cellsOf e = 64) (hCu : P.cellsOf u = 1) (h : DataW.Trod enc P w 0 (fun _ => true) true t v d p) :
 ∃ (a : Option Addr) (n cap : Nat) (X : Nat → Nat → Nat), v = .slice a n cap ∧ n ≤ maxLen ∧ (∀ i, byte (X i)) ∧ Lst w a n X := by
 obtain ⟨a0, l0, c0, rfl⟩ := okWide_slice ht hv
 obtain ⟨fuel, hf⟩ := h
 rcases Go.Deep.open_slice ht hf with ⟨hv, _⟩ | ⟨a, len, cap, m, n, D, Pl, hv, hb, hl, hm, hmm, hx, hcell⟩
 · have : Value.slice a0 l0 c0 = .slice none 0 0 := by simpa [Value.cells] using hv
   exact ⟨none, 0, 0, fun _ _ => 0, this, Nat.zero_le _, fun _ _ => Nat.zero_lt_succ _, .inl rfl⟩
 · have hv2 : Value.slice a0 l0 c0 = .slice (some a) len cap := by simpa [Value.cells] using hv
   have hm2 : m = cap := by simpa using hmm
   obtain ⟨X, hX⟩ := Go.Deep.choose_lt (α := Nat → Nat) (n := len) (p := fun i f => byte f ∧ w.cells? 0 (a.add (i * 64)) 64 = some (bl 64 f)) (fun i hi => by
    obtain ⟨cs', h1, h2⟩ := hcell i (by omega)
    obtain ⟨f, hf1, hf2⟩ := open_cells he hu hCe hCu h2
    rw [hCe] at h1
    exact ⟨f, hf1, by rw [h1, hf2]⟩)
   refine ⟨some a, len, cap, fun i j => if i < len then X i j else 0, hv2, Nat.le_trans hl hm, fun i j => ?_, ?_⟩
   · by_cases hi : i < len
     · simp only [hi, if_true]; exact (hX i hi).1 j
     · simp only [hi, if_false]; decide
   · by_cases h0 : len = 0
     · exact .inl h0
     · have key : ∀ i, i < len → ∀ j, j < 64 → w.cell? (a.add (i * 64 + j)) = (bl 64 (X i))[j]? := by
        intro i hi j hj
        have := (World.cells?_some (hX i hi).2).2.2 j hj
        rw [Go.Deep.add_add] at this
        exact this
       have k0 := key 0 (by omega) 0 (by decide)
       obtain ⟨b, off, spot⟩ := a
       have hc0 : ∃ u, w.cell? ((⟨b, off, spot⟩ : Addr).add 0) = some u := by
        rw [show (0 : Nat) * 64 + 0 = 0 from rfl] at k0
        exact ⟨_, by rw [k0]; exact List.getElem?_eq_getElem (by rw [zl]; decide)⟩
       obtain ⟨u0, hu0⟩ := hc0
       have hspot : spot = none := by simpa [Addr.add] using World.cell?_spot hu0
       subst hspot
       have hbl : b < w.heap.size := by
        have h3 : w.cell? ⟨b, off, none⟩ = some u0 := by simpa [Addr.add] using hu0
        exact cell_lt h3
       refine .inr ⟨b, off, rfl, hbl, fun i hi j v hj => ?_⟩
       have hj64 : j < 64 := by have := (List.getElem?_eq_some_iff.1 hj).1; rw [zl] at this; exact this
       simp only [hi, if_true] at hj
       rw [Nat.add_assoc, ← Go.WideShapes.add_plain, key i hi j hj64]
       exact hj
end
section
variable {H : Type} {enc : TypeId × Value → H} {P : Program}
/-- the row's last step where the call has only made new memory; arguments that lead into old memory -/
theorem post_of_belowL {f : Func} {s : ChangeSpec} {apart fresh handsOn : Bool} {W W' : World} {args : Array Value} {v : Value} {ds gs : List (DataW H)} {before pa pv : List MemPlace}
 (hW : DataW.Whole enc P f.params.toList s.vars apart W args.toList ds gs before)
 (hres : ∀ (b : Nat) (sp : Nat → Bool) (hd : Bool), DataW.TrodAll enc P W' b sp hd f.resultTypes.toList (v.resultList f.resultTypes.size) (s.fn H (ds ++ gs)).results [])
 (hargs : DataW.TrodAll enc P W' 0 (fun b => decide (b < W.heap.size)) true f.params.toList args.toList (s.fn H (ds ++ gs)).args pa)
 (hvars : DataW.TrodVars enc P W' (fun b => decide (b < W.heap.size)) s.vars (s.fn H (ds ++ gs)).vars pv)
 (hps : before = pa ++ pv) (hb : Below W.heap.size W W') : s.post enc P f apart fresh handsOn false W args v W' := by
 refine ⟨ds, gs, before, [], pa, pv, hW, hres _ _ _, hargs, hvars, ?_, fun h => by cases h⟩
 refine World.keptBut_mono (fun p hp => ⟨hp, .inr ?_⟩) (hb.frame (· ∈ before))
 rw [hps, List.mem_append] at hp
 exact hp
end
/-- rows that are made at once, as a list -/
theorem slL_ofBlk {w : World} {b n base : Nat} {F : Nat → Nat → Nat} (h : Blk w b (n * 64) 28 (fl 64 F)) (hb : base ≤ b) (hn : n ≤ maxLen) :
 SlL w base 28 64 (.slice (some ⟨b, 0, none⟩) n n) (plR ((List.range n).map F)) := by
 have hlen : (plR ((List.range n).map F)).length = n := by rw [plR_len]; simp
 have hall : ∀ c ∈ plR ((List.range n).map F), c.length = 64 := by
  intro c hc
  unfold plR at hc
  obtain ⟨f, _, rfl⟩ := List.mem_map.1 hc
  exact zl _ _
 have hfl : (plR ((List.range n).map F)).flatten = bl (n * 64) (fl 64 F) := by
  apply List.ext_getElem?
  intro k
  by_cases hk : k < n * 64
  · have hd : k / 64 < n := Nat.div_lt_of_lt_mul (by rw [Nat.mul_comm]; exact hk)
    have hm : k % 64 < 64 := Nat.mod_lt _ (by decide)
    have h1 : (plR ((List.range n).map F))[k / 64]? = some (bl 64 (F (k / 64))) := by
     unfold plR
     rw [List.getElem?_map, List.getElem?_map, List.getElem?_range hd]; rfl
    have h2 : (bl 64 (F (k / 64)))[k % 64]? = some (.int .u8 (F (k / 64) (k % 64) : Int)) := by
     unfold bl
     rw [List.getElem?_map, List.getElem?_range hm]; rfl
    have h3 := flat_at (plR ((List.range n).map F)) 64 (k / 64) _ (k % 64) _ hall h1 h2
    rw [show k / 64 * 64 + k % 64 = k by omega] at h3
    rw [h3]
    unfold bl fl
    rw [List.getElem?_map, List.getElem?_range hk]; rfl
  · have hlf : (plR ((List.range n).map F)).flatten.length = n * 64 := by
     rw [List.length_flatten, show (plR ((List.range n).map F)).map List.length = List.replicate n 64 from List.eq_replicate_iff.2 ⟨by rw [List.length_map, hlen], fun x hx => by obtain ⟨c, hc, rfl⟩ := List.mem_map.1 hx; exact hall c hc⟩, List.sum_replicate_nat]
    rw [List.getElem?_eq_none (l := (plR ((List.range n).map F)).flatten) (by omega), List.getElem?_eq_none (by rw [zl]; omega)]
 unfold SlL
 refine ⟨Nat.le_trans hb (Nat.le_of_lt h.lt), hall, ?_⟩
 unfold Blk at h
 refine ⟨?_, .inr ⟨b, n, zb (n * 64) (fl 64 F), by rw [hlen], hb, h, by rw [hlen]; exact Nat.le_refl _, hn, zbs _ _, ?_⟩⟩
 · rw [hfl, zl, hlen]
 · rw [hlen, hfl, show (zb (n * 64) (fl 64 F)).toList = bl (n * 64) (fl 64 F) from rfl]
   exact List.take_of_length_le (by rw [zl]; exact Nat.le_refl _)
section
variable {P : Program}
theorem wpList_make_rowsB (w : World) {ops : Array Oper} {rest : List Oper} {o : Oper} {a : Act} {Q : Exit → Act → World → Prop} (hg : o.guard = none) (t : TypeId) (l c : Operand) (hop : o.op = .makeSlice t l c)
 (e : TypeId) (ht : P.underlying t = some (.slice e)) (hinfo : (P.info? e).map (fun i => (i.zero.map (·.cells), i.size, i.bytes)) = some (some (zb 64 fun _ => 0), 64, 64)) (n : Nat) (hn : (n : Int) ≤ 1048576)
 (hl : a.eval l = .int .i64 (n : Int)) (hc : a.eval c = .int .i64 (n : Int))
 (hK : wpList P ops Q rest (a.put o.dst (.slice (some ⟨w.heap.size, 0, none⟩) n n)) (w.alloc (.cells (zb (n * 64) (fl 64 fun _ _ => 0)) e))) :
 wpList P ops Q (o :: rest) a w := by
 refine wpList_plain hg fun K hK' => ?_
 obtain ⟨i, hi, hzz⟩ := Option.map_eq_some_iff.1 hinfo
 simp only [Prod.mk.injEq] at hzz
 obtain ⟨hz0, hs, hb⟩ := hzz
 obtain ⟨z, hz, hzc⟩ := Option.map_eq_some_iff.1 hz0
 have hrun := run_make (P := P) w t e i z ht hi hz .i64 .i64 n n (by omega) (Int.le_refl _) (by rw [hb]; omega) (by omega)
 rw [Int.toNat_natCast, hs, hzc, bcells_made] at hrun
 unfold Oper.wp
 simp [execOp, hop, hl, hc, hrun, Result.andThen]
 exact hK' _ _ hK
end
attribute [irreducible] Lst
end Go.Proofs.Ytelgefgphhebnaa
end
section
namespace Go.Proofs.Ytelgefgphhebnaa
open Rg
set_option linter.unusedVariables false
/-- a residue -/
def rsd (p : Nat) (m x : Nat → Nat) : Prop := (∀ k, k < 64 → x k < p) ∧ deg x < deg m
/-- the Frobenius -/
def frI (p : Nat) (m x : Nat → Nat) : Nat → Nat := resP p (strP p x) m
/-- taken n times -/
def frN (p : Nat) (m x : Nat → Nat) : Nat → (Nat → Nat)
 | 0 => x
 | n + 1 => frI p m (frN p m x n)
theorem frN_z (p : Nat) (m x : Nat → Nat) : frN p m x 0 = x := rfl
theorem frN_s (p : Nat) (m x : Nat → Nat) (n : Nat) : frN p m x (n + 1) = frI p m (frN p m x n) := rfl
theorem frN_add (p : Nat) (m x : Nat → Nat) (a : Nat) : ∀ b, frN p m (frN p m x a) b = frN p m x (a + b)
 | 0 => rfl
 | b + 1 => by rw [frN_s, frN_add p m x a b, ← Nat.add_assoc, frN_s]
theorem rsd_eq {p : Nat} {m x y : Nat → Nat} (hp : p = 2 ∨ p = 3 ∨ p = 5 ∨ p = 7) (lm : ∀ k, k < 64 → m k < p) (h0 : 0 ≤ deg m) (hx : rsd p m x) (hy : rsd p m y) (h : (rs x : Res p (lz m)) = rs y) : ∀ k, k < 64 → x k = y k :=
 res_sameN hp hx.1 hy.1 lm h0 hx.2 hy.2 (cl_eq.1 h)
section
variable {p : Nat} {m : Nat → Nat} (hp : p = 2 ∨ p = 3 ∨ p = 5 ∨ p = 7) (lm : ∀ k, k < 64 → m k < p) (h0 : 0 ≤ deg m) (h9 : deg m ≤ 9)
include hp lm h0 h9
theorem frI_ok {x : Nat → Nat} (h : rsd p m x) : rsd p m (frI p m x) ∧ (rs (frI p m x) : Res p (lz m)) = pw (rs x) p := by
 have p0 : 0 < p := by omega
 have hd : deg x * (p : Int) ≤ 63 := by
  have := h.2
  rcases hp with rfl | rfl | rfl | rfl <;> omega
 have hl := strP_lt (q := p) p0 (by omega) h.1
 unfold frI
 exact ⟨⟨resP_lt p0 hl, (resP_deg hp hl lm h0).1⟩, by rw [rs_res hp hl lm h0, rs_str hp hd]⟩
theorem frN_ok {x : Nat → Nat} (h : rsd p m x) : ∀ n, rsd p m (frN p m x n) ∧ (rs (frN p m x n) : Res p (lz m)) = fr' p n (rs x)
 | 0 => ⟨h, (fr_z p _).symm⟩
 | n + 1 => by
  obtain ⟨a, b⟩ := frN_ok h n
  obtain ⟨c, e⟩ := frI_ok hp lm h0 h9 a
  rw [frN_s]
  exact ⟨c, by rw [e, b, fr_s]⟩
theorem frI_pm {x : Nat → Nat} (h : rsd p m x) : ∀ k, k < 64 → pmP p x p m k = frI p m x k := by
 obtain ⟨a, b⟩ := frI_ok hp lm h0 h9 h
 obtain ⟨c, e, _⟩ := pmP_spec (k := p) hp h.1 lm h0 (by omega)
 exact rsd_eq hp lm h0 ⟨c, e⟩ a (by rw [b, rs_pm hp h.1 lm h0 (by omega)])
theorem frN_d {x : Nat → Nat} {d : Nat} (hi : irr p (cut m) d) (h : rsd p m x) : ∀ k, k < 64 → frN p m x d k = x k := by
 obtain ⟨a, b⟩ := frN_ok hp lm h0 h9 h d
 refine rsd_eq hp lm h0 a h ?_
 have e1 : lz (cut m) = lz m := by funext k; unfold lz; rw [cut_cut]
 have h1 := (irr_T hp hi).1
 rw [e1] at h1
 have ht : fr' p d (tt : Res p (lz m)) = tt := by
  unfold fr'
  show pw (cl TS fin_TS : Res p (lz m)) (p ^ d) = cl TS fin_TS
  rw [pw_cl]
  exact cl_eq.2 h1
 rw [b, rs_list x, fr_pe hp res_char, ht]
/-- as often as the number tells, modulo d -/
theorem frN_next {x : Nat → Nat} {d : Nat} (hi : irr p (cut m) d) (hd : 1 ≤ d) (h : rsd p m x) (i : Nat) : ∀ k, k < 64 → frN p m (frN p m x (i % d)) (1 % d) k = frN p m x ((i + 1) % d) k := by
 intro k hk
 rw [frN_add]
 by_cases h1 : d = 1
 · subst h1; rw [Nat.mod_one, Nat.mod_one, Nat.mod_one]
 · rw [Nat.mod_eq_of_lt (show 1 < d by omega)]
   by_cases h2 : i % d + 1 < d
   · rw [show (i + 1) % d = i % d + 1 by rw [Nat.add_mod, Nat.mod_eq_of_lt (show 1 < d by omega), Nat.mod_eq_of_lt h2]]
   · have h3 : i % d + 1 = d := by have := Nat.mod_lt i (show 0 < d by omega); omega
     rw [h3, show (i + 1) % d = 0 by rw [Nat.add_mod, Nat.mod_eq_of_lt (show 1 < d by omega), h3, Nat.mod_self], frN_z]
     exact frN_d hp lm h0 h9 hi h k hk
end
end Go.Proofs.Ytelgefgphhebnaa
end
section
namespace Go.Proofs.Ytelgefgphhebnaa
open Rg
set_option linter.unusedVariables false
theorem mm_zero {p : Nat} {m a b : Nat → Nat} (hp : p = 2 ∨ p = 3 ∨ p = 5 ∨ p = 7) (lm : ∀ k, k < 64 → m k < p) (h0 : 0 ≤ deg m) (ha : ∀ k, k < 64 → a k = 0) : ∀ k, k < 64 → mmP p a b m k = 0 := by
 have hz : deg (fun _ => 0 : Nat → Nat) < 0 := by
  rcases deg_spec (fun _ => 0) with ⟨h, _⟩ | ⟨d, _, _, h, _⟩
  · omega
  · exact absurd rfl h
 refine rsd_eq (y := fun _ => 0) hp lm h0 ⟨fun k hk => mmP_lt (by omega) k (by omega), mmP_deg hp lm h0⟩ ⟨fun k _ => by show 0 < p; omega, by omega⟩ ?_
 have e : (rs a : Res p (lz m)) = rs (fun _ => 0) := cl_congr (by
  funext k
  unfold lz cut
  by_cases h : k < 64
  · rw [if_pos h, if_pos h, ha k h]
  · rw [if_neg h, if_neg h])
 rw [rs_mm hp lm h0, e, rs_zero, omul]
theorem addK_zero {p : Nat} {f g : Nat → Nat} (hf : ∀ k, k < 64 → f k < p) (hg : ∀ k, k < 64 → g k = 0) : ∀ k, k < 64 → addK p f g 1 k = f k := by
 intro k hk
 rw [addK_one]
 show (f k + g k) % p = f k
 rw [hg k hk, Nat.add_zero, Nat.mod_eq_of_lt (hf k hk)]
/-- the value, summed up below i -/
def vlR (p : Nat) (m : Nat → Nat) (d : Nat) (F : Nat → Nat → Nat) (x : Nat → Nat) : Nat → (Nat → Nat)
 | 0 => fun _ => 0
 | i + 1 => addK p (vlR p m d F x i) (mmP p (F i) (frN p m x (i % d)) m) 1
theorem vlR_z (p : Nat) (m : Nat → Nat) (d : Nat) (F : Nat → Nat → Nat) (x : Nat → Nat) : vlR p m d F x 0 = fun _ => 0 := rfl
theorem vlR_s (p : Nat) (m : Nat → Nat) (d : Nat) (F : Nat → Nat → Nat) (x : Nat → Nat) (i : Nat) : vlR p m d F x (i + 1) = addK p (vlR p m d F x i) (mmP p (F i) (frN p m x (i % d)) m) 1 := rfl
theorem vlR_lt {p : Nat} {m : Nat → Nat} {d : Nat} {F : Nat → Nat → Nat} {x : Nat → Nat} (hp : 0 < p) : ∀ i k, vlR p m d F x i k < p
 | 0, k => hp
 | i + 1, k => addK_lt hp k
theorem vlR_skip {p : Nat} {m : Nat → Nat} {d : Nat} {F : Nat → Nat → Nat} {x : Nat → Nat} {i : Nat} (hp : p = 2 ∨ p = 3 ∨ p = 5 ∨ p = 7) (lm : ∀ k, k < 64 → m k < p) (h0 : 0 ≤ deg m) (h : eqN 64 (F i) (fun _ => 0) = true) : ∀ k, k < 64 → vlR p m d F x i k = vlR p m d F x (i + 1) k := by
 intro k hk
 rw [vlR_s]
 exact (addK_zero (fun k _ => vlR_lt (by omega) i k) (mm_zero hp lm h0 (eqN_iff.1 h)) k hk).symm
theorem vlR_tail {p : Nat} {m : Nat → Nat} {d : Nat} {F : Nat → Nat → Nat} {x : Nat → Nat} (hp : p = 2 ∨ p = 3 ∨ p = 5 ∨ p = 7) (lm : ∀ k, k < 64 → m k < p) (h0 : 0 ≤ deg m) {n : Nat} (hn : skD F = (n : Int) - 1) : ∀ j, n + j ≤ 8 → ∀ k, k < 64 → vlR p m d F x n k = vlR p m d F x (n + j) k
 | 0, _, k, _ => rfl
 | j + 1, h, k, hk => by
  rw [vlR_tail hp lm h0 hn j (by omega) k hk]
  exact vlR_skip hp lm h0 (skN_spec F 8 (n + j) (by omega) (by have : skN F 8 = skD F := rfl; omega)) k hk
/-- one row of the product -/
def tmJ (p : Nat) (m : Nat → Nat) (d : Nat) (F G : Nat → Nat → Nat) (i : Nat) (O : Nat → Nat → Nat) : Nat → (Nat → Nat → Nat)
 | 0 => O
 | j + 1 => updR (tmJ p m d F G i O j) (i + j) (addK p (tmJ p m d F G i O j (i + j)) (mmP p (F i) (frN p m (G j) (i % d)) m) 1)
/-- the rows below i -/
def tmR (p : Nat) (m : Nat → Nat) (d : Nat) (F G : Nat → Nat → Nat) (n : Nat) : Nat → (Nat → Nat → Nat)
 | 0 => fun _ _ => 0
 | i + 1 => tmJ p m d F G i (tmR p m d F G n i) n
def tmP (p : Nat) (m : Nat → Nat) (d : Nat) (F G : Nat → Nat → Nat) : Nat → Nat → Nat := tmR p m d F G (skD G + 1).toNat (skD F + 1).toNat
theorem tmJ_z (p : Nat) (m : Nat → Nat) (d : Nat) (F G : Nat → Nat → Nat) (i : Nat) (O : Nat → Nat → Nat) : tmJ p m d F G i O 0 = O := rfl
theorem tmJ_s (p : Nat) (m : Nat → Nat) (d : Nat) (F G : Nat → Nat → Nat) (i : Nat) (O : Nat → Nat → Nat) (j : Nat) :
 tmJ p m d F G i O (j + 1) = updR (tmJ p m d F G i O j) (i + j) (addK p (tmJ p m d F G i O j (i + j)) (mmP p (F i) (frN p m (G j) (i % d)) m) 1) := rfl
theorem tmR_z (p : Nat) (m : Nat → Nat) (d : Nat) (F G : Nat → Nat → Nat) (n : Nat) : tmR p m d F G n 0 = fun _ _ => 0 := rfl
theorem tmR_s (p : Nat) (m : Nat → Nat) (d : Nat) (F G : Nat → Nat → Nat) (n i : Nat) : tmR p m d F G n (i + 1) = tmJ p m d F G i (tmR p m d F G n i) n := rfl
theorem tmR_0 (p : Nat) (m : Nat → Nat) (d : Nat) (F G : Nat → Nat → Nat) : ∀ i, tmR p m d F G 0 i = fun _ _ => 0
 | 0 => rfl
 | i + 1 => by rw [tmR_s, tmJ_z, tmR_0]
theorem tmJ_lt {p : Nat} {m : Nat → Nat} {d : Nat} {F G : Nat → Nat → Nat} {i : Nat} {O : Nat → Nat → Nat} (hp : 0 < p) (hO : ∀ r k, O r k < p) : ∀ j r k, tmJ p m d F G i O j r k < p
 | 0, r, k => hO r k
 | j + 1, r, k => by
  rw [tmJ_s]
  unfold updR
  by_cases h : r = i + j
  · rw [if_pos h]; exact addK_lt hp k
  · rw [if_neg h]; exact tmJ_lt hp hO j r k
theorem tmR_lt {p : Nat} {m : Nat → Nat} {d : Nat} {F G : Nat → Nat → Nat} {n : Nat} (hp : 0 < p) : ∀ i r k, tmR p m d F G n i r k < p
 | 0, r, k => hp
 | i + 1, r, k => by rw [tmR_s]; exact tmJ_lt hp (tmR_lt hp i) n r k
theorem tmP_at {p : Nat} {m : Nat → Nat} {d : Nat} {F G : Nat → Nat → Nat} {a b : Nat} (hF : skD F = (a : Int) - 1) (hG : skD G = (b : Int) - 1) : tmP p m d F G = tmR p m d F G b a := by
 unfold tmP; rw [hF, hG]; congr 1 <;> omega
theorem tmP_zero {p : Nat} {m : Nat → Nat} {d : Nat} {F G : Nat → Nat → Nat} (h : skD F < 0 ∨ skD G < 0) : tmP p m d F G = fun _ _ => 0 := by
 unfold tmP
 have hb := zsd F
 have hb2 := zsd G
 rcases h with h | h
 · rw [show (skD F + 1).toNat = 0 by omega]; rfl
 · rw [show (skD G + 1).toNat = 0 by omega]; exact tmR_0 _ _ _ _ _ _
attribute [irreducible] vlR tmJ tmR tmP
end Go.Proofs.Ytelgefgphhebnaa
end
section
namespace Go.Proofs.Ytelgefgphhebnaa
open Rg
set_option linter.unusedVariables false
theorem dgz_out {x : Nat → Nat} (h : deg x < 0) : ∀ k, k < 64 → x k = 0 := by
 intro k hk
 rcases deg_spec x with ⟨_, h2⟩ | ⟨d, _, h2, _, _⟩
 · exact h2 k hk
 · omega
theorem deg_nonneg {x : Nat → Nat} (h : 0 ≤ deg x) : ∃ k, k < 64 ∧ x k ≠ 0 := by
 rcases deg_spec x with ⟨h2, _⟩ | ⟨d, hd, _, h2, _⟩
 · omega
 · exact ⟨d, hd, h2⟩
theorem deg_congr0 {x y : Nat → Nat} (h : ∀ k, k < 64 → x k = y k) (hx : 0 ≤ deg x) : 0 ≤ deg y := by
 by_cases hy : 0 ≤ deg y
 · exact hy
 · obtain ⟨k, hk, h2⟩ := deg_nonneg hx
   exact absurd ((h k hk).trans (dgz_out (x := y) (by omega) k hk)) h2
theorem zero_rsd {p : Nat} {m : Nat → Nat} (hp : 0 < p) (h0 : 0 ≤ deg m) : rsd p m (fun _ => 0) := by
 refine ⟨fun _ _ => hp, ?_⟩
 rcases deg_spec (fun _ => 0) with ⟨h, _⟩ | ⟨d, _, _, h, _⟩
 · omega
 · exact absurd rfl h
theorem mm_rsd {p : Nat} {m a b : Nat → Nat} (hp : p = 2 ∨ p = 3 ∨ p = 5 ∨ p = 7) (lm : ∀ k, k < 64 → m k < p) (h0 : 0 ≤ deg m) : rsd p m (mmP p a b m) := ⟨fun k hk => mmP_lt (by omega) k (by omega), mmP_deg hp lm h0⟩
section
variable {p : Nat} {m : Nat → Nat} {d : Nat} (hp : p = 2 ∨ p = 3 ∨ p = 5 ∨ p = 7) (lm : ∀ k, k < 64 → m k < p) (hmon : mon m d) (hi : irr p (cut m) d)
include hp lm hmon hi
theorem inv_res {y : Nat → Nat} (hy : rsd p m y) (hy0 : 0 ≤ deg y) : (rs (bzU p y m) * rs y : Res p (lz m)) = e := by
 have hdm := hmon.1
 obtain ⟨a1, ⟨j, hj⟩, a3, a4⟩ := bz_all hp hy.1 lm (.inl hy0)
 obtain ⟨b1, b2⟩ := (a4 _).1 (dv_self (lz (bzD p y m)))
 have e1 : lz (cut m) = lz m := by funext k; unfold lz; rw [cut_cut]
 have hj0 : j = 0 := by
  rcases hi.2.2.2 _ j a1 hj (by rw [e1]; exact b2) with h | h
  · exact h
  · have h2 := dv_deg hy.1 hj b1 hy0
    have h3 := hy.2
    omega
 subst hj0
 have h1 := one_of_mon0 hj
 have key : (cl oneS fin_oneS : Res p (lz m)) = cl (az (mz (lz (bzU p y m)) (lz y)) (mz (lz (bzW p y m)) (lz m))) (fin_az (fin_mz (fin_lz _) (fin_lz _)) (fin_mz (fin_lz _) (fin_lz _))) := cl_eq.2 (rm_of_cg (by rw [← h1]; exact a3))
 have hz : (cl (mz (lz (bzW p y m)) (lz m)) (fin_mz (fin_lz _) (fin_lz _)) : Res p (lz m)) = o := cl_eq.2 (rm_zero (fin_lz _))
 have h2 : (cl (az (mz (lz (bzU p y m)) (lz y)) (mz (lz (bzW p y m)) (lz m))) (fin_az (fin_mz (fin_lz _) (fin_lz _)) (fin_mz (fin_lz _) (fin_lz _))) : Res p (lz m)) = rs (bzU p y m) * rs y + cl (mz (lz (bzW p y m)) (lz m)) (fin_mz (fin_lz _) (fin_lz _)) := rfl
 rw [h2, hz, addo] at key
 exact key.symm
theorem frN_ne {y : Nat → Nat} (h9 : d ≤ 9) (hy : rsd p m y) (hy0 : 0 ≤ deg y) {n : Nat} (hn : n ≤ d) : 0 ≤ deg (frN p m y n) := by
 have h0 : 0 ≤ deg m := by rw [hmon.1]; omega
 have h9' : deg m ≤ 9 := by rw [hmon.1]; omega
 by_cases h : 0 ≤ deg (frN p m y n)
 · exact h
 · exfalso
   obtain ⟨a, b⟩ := frN_ok hp lm h0 h9' hy n
   obtain ⟨a2, b2⟩ := frN_ok hp lm h0 h9' hy d
   have hz : (rs (frN p m y n) : Res p (lz m)) = o := by
    rw [← rs_zero]
    exact cl_congr (by
     funext k
     unfold lz cut
     by_cases hk : k < 64
     · rw [if_pos hk, if_pos hk, dgz_out (x := frN p m y n) (by omega) k hk]
     · rw [if_neg hk, if_neg hk])
   have hd : (rs (frN p m y d) : Res p (lz m)) = rs y := cl_congr (by
    funext k
    unfold lz cut
    by_cases hk : k < 64
    · rw [if_pos hk, if_pos hk, frN_d hp lm h0 h9' hi hy k hk]
    · rw [if_neg hk, if_neg hk])
   have h3 : (rs y : Res p (lz m)) = o := by
    rw [← hd, b2, show d = n + (d - n) by omega, fr_add, ← b, hz, fr_o (by omega)]
   have h4 := rsd_eq hp lm h0 hy (zero_rsd (by omega) h0) (by rw [h3, rs_zero])
   obtain ⟨k, hk, h5⟩ := deg_nonneg hy0
   exact h5 (h4 k hk)
end
theorem tmJ_hi {p : Nat} {m : Nat → Nat} {d : Nat} {F G O : Nat → Nat → Nat} {i : Nat} : ∀ j r, i + j ≤ r → tmJ p m d F G i O j r = O r
 | 0, r, _ => by rw [tmJ_z]
 | j + 1, r, h => by rw [tmJ_s, updR_other (by omega)]; exact tmJ_hi j r (by omega)
theorem tmR_hi {p : Nat} {m : Nat → Nat} {d : Nat} {F G : Nat → Nat → Nat} {n : Nat} : ∀ i r, i + n ≤ r + 1 → tmR p m d F G n i r = fun _ => 0
 | 0, r, _ => by rw [tmR_z]
 | i + 1, r, h => by rw [tmR_s, tmJ_hi n r (by omega)]; exact tmR_hi i r (by omega)
theorem tmR_top {p : Nat} {m : Nat → Nat} {d : Nat} {F G : Nat → Nat → Nat} {a b : Nat} : tmR p m d F G (b + 1) (a + 1) (a + b) = addK p (fun _ => 0) (mmP p (F a) (frN p m (G b) (a % d)) m) 1 := by
 rw [tmR_s, tmJ_s, updR_same, tmJ_hi b (a + b) (Nat.le_refl _), tmR_hi a (a + b) (by omega)]
/-- the top row of a product -/
theorem tmP_top {p : Nat} {m : Nat → Nat} {d : Nat} {F G : Nat → Nat → Nat} {a b : Nat} (hp : 0 < p) (hF : skD F = (a : Int)) (hG : skD G = (b : Int)) : ∀ k, k < 64 → tmP p m d F G (a + b) k = mmP p (F a) (frN p m (G b) (a % d)) m k := by
 intro k hk
 rw [tmP_at (a := a + 1) (b := b + 1) (by omega) (by omega), tmR_top, addK_one]
 show (0 + _) % p = _
 rw [Nat.zero_add, Nat.mod_eq_of_lt (mmP_lt hp k (by omega))]
theorem tmP_hi {p : Nat} {m : Nat → Nat} {d : Nat} {F G : Nat → Nat → Nat} {a b r : Nat} (hF : skD F = (a : Int)) (hG : skD G = (b : Int)) (h : a + b < r) : tmP p m d F G r = fun _ => 0 := by
 rw [tmP_at (a := a + 1) (b := b + 1) (by omega) (by omega)]; exact tmR_hi _ _ (by omega)
theorem skD_lt {F : Nat → Nat → Nat} {n : Nat} (h : ∀ i, n ≤ i → i < 8 → ∀ k, k < 64 → F i k = 0) : skD F < (n : Int) := by
 obtain ⟨b1, b2⟩ := zsd F
 by_cases h2 : skD F < (n : Int)
 · exact h2
 · obtain ⟨i, hi⟩ : ∃ i : Nat, skD F = (i : Int) := ⟨(skD F).toNat, by omega⟩
   have h3 := skN_at F 8 i (by unfold skD at hi; exact hi)
   have h4 : eqN 64 (F i) (fun _ => 0) = true := eqN_iff.2 (h i (by omega) (by omega))
   rw [h4] at h3; cases h3
/-- one coefficient -/
def sng (i : Nat) (a : Nat → Nat) : Nat → Nat → Nat := updR (fun _ _ => 0) i a
theorem sng_deg {i : Nat} {a : Nat → Nat} (hi : i < 8) (ha : 0 ≤ deg a) : skD (sng i a) = (i : Int) := by
 have h1 : skD (sng i a) < ((i + 1 : Nat) : Int) := skD_lt (fun j hj _ k _ => by unfold sng; rw [updR_other (by omega)])
 by_cases h : skD (sng i a) < (i : Int)
 · have h2 := skN_spec (sng i a) 8 i hi (by unfold skD at h; exact h)
   obtain ⟨k, hk, h3⟩ := deg_nonneg ha
   have h4 := eqN_iff.1 h2 k hk
   unfold sng at h4; rw [updR_same] at h4
   exact absurd h4 h3
 · omega
end Go.Proofs.Ytelgefgphhebnaa
end
section
namespace Go.Proofs.Ytelgefgphhebnaa
open Rg
set_option linter.unusedVariables false
/-- rows that are residues -/
def rsk (p : Nat) (m : Nat → Nat) (F : Nat → Nat → Nat) : Prop := ∀ i, i < 8 → rsd p m (F i)
/-- the next leading coefficient of a quotient -/
def dvA (p : Nat) (m : Nat → Nat) (d : Nat) (F G : Nat → Nat → Nat) : Nat → Nat :=
 mmP p (F (skD F).toNat) (bzU p (frN p m (G (skD G).toNat) (((skD F).toNat - (skD G).toNat) % d)) m) m
/-- the term of the quotient -/
def dvT (p : Nat) (m : Nat → Nat) (d : Nat) (F G : Nat → Nat → Nat) : Nat → Nat → Nat := sng ((skD F).toNat - (skD G).toNat) (dvA p m d F G)
/-- what is left -/
def dvF (p : Nat) (m : Nat → Nat) (d : Nat) (F G : Nat → Nat → Nat) : Nat → Nat → Nat := skA p F (tmP p m d (dvT p m d F G) G) (-1)
theorem addK_rsd {p : Nat} {m f g : Nat → Nat} {c : Int} (hp : 0 < p) (h0 : 0 ≤ deg m) (hf : rsd p m f) (hg : rsd p m g) : rsd p m (addK p f g c) := ⟨fun k _ => addK_lt hp k, deg_addK hp h0 hf.2 hg.2⟩
theorem tmJ_rsd {p : Nat} {m : Nat → Nat} {d : Nat} {F G O : Nat → Nat → Nat} {i : Nat} (hp : p = 2 ∨ p = 3 ∨ p = 5 ∨ p = 7) (lm : ∀ k, k < 64 → m k < p) (h0 : 0 ≤ deg m) (hO : ∀ r, rsd p m (O r)) : ∀ j r, rsd p m (tmJ p m d F G i O j r)
 | 0, r => by rw [tmJ_z]; exact hO r
 | j + 1, r => by
  rw [tmJ_s]
  by_cases h : r = i + j
  · subst h; rw [updR_same]; exact addK_rsd (by omega) h0 (tmJ_rsd hp lm h0 hO j _) (mm_rsd hp lm h0)
  · rw [updR_other h]; exact tmJ_rsd hp lm h0 hO j r
theorem tmR_rsd {p : Nat} {m : Nat → Nat} {d : Nat} {F G : Nat → Nat → Nat} {n : Nat} (hp : p = 2 ∨ p = 3 ∨ p = 5 ∨ p = 7) (lm : ∀ k, k < 64 → m k < p) (h0 : 0 ≤ deg m) : ∀ i r, rsd p m (tmR p m d F G n i r)
 | 0, r => by rw [tmR_z]; exact zero_rsd (by omega) h0
 | i + 1, r => by rw [tmR_s]; exact tmJ_rsd hp lm h0 (tmR_rsd hp lm h0 i) n r
theorem tmP_rsd {p : Nat} {m : Nat → Nat} {d : Nat} {F G : Nat → Nat → Nat} (hp : p = 2 ∨ p = 3 ∨ p = 5 ∨ p = 7) (lm : ∀ k, k < 64 → m k < p) (h0 : 0 ≤ deg m) (r : Nat) : rsd p m (tmP p m d F G r) := by
 unfold tmP; exact tmR_rsd hp lm h0 _ r
theorem skN_row {F : Nat → Nat → Nat} {n : Nat} (h : skD F = (n : Int)) : n < 8 ∧ 0 ≤ deg (F n) := by
 obtain ⟨b1, b2⟩ := zsd F
 have h1 := skN_at F 8 n (by unfold skD at h; exact h)
 refine ⟨by omega, ?_⟩
 by_cases h2 : 0 ≤ deg (F n)
 · exact h2
 · have h3 : eqN 64 (F n) (fun _ => 0) = true := eqN_iff.2 (dgz_out (by omega))
   rw [h3] at h1; cases h1
end Go.Proofs.Ytelgefgphhebnaa
end
section
namespace Go.Proofs.Ytelgefgphhebnaa
open Rg
set_option linter.unusedVariables false
/-- one row of the product -/
def spJ (p : Nat) (m : Nat → Nat) (d : Nat) (F G : Nat → Nat → Nat) (i : Nat) (O : Nat → Nat → Nat) : Nat → (Nat → Nat → Nat)
 | 0 => O
 | j + 1 => if eqN 64 (F i) (fun _ => 0) = true ∨ eqN 64 (G j) (fun _ => 0) = true then spJ p m d F G i O j
  else updR (spJ p m d F G i O j) (i + j) (addK p (spJ p m d F G i O j (i + j)) (mmP p (F i) (frN p m (G j) (i % d)) m) 1)
/-- the rows below i -/
def spR (p : Nat) (m : Nat → Nat) (d : Nat) (F G : Nat → Nat → Nat) (n : Nat) : Nat → (Nat → Nat → Nat)
 | 0 => fun _ _ => 0
 | i + 1 => spJ p m d F G i (spR p m d F G n i) n
section
variable {p : Nat} {m : Nat → Nat} {d : Nat} {F G : Nat → Nat → Nat}
theorem spJ_z (i : Nat) (O : Nat → Nat → Nat) : spJ p m d F G i O 0 = O := rfl
theorem spJ_skip {i j : Nat} {O : Nat → Nat → Nat} (h : eqN 64 (F i) (fun _ => 0) = true ∨ eqN 64 (G j) (fun _ => 0) = true) : spJ p m d F G i O (j + 1) = spJ p m d F G i O j := by
 rw [spJ, if_pos h]
theorem spJ_s {i j : Nat} {O : Nat → Nat → Nat} (h : eqN 64 (F i) (fun _ => 0) = false) (h2 : eqN 64 (G j) (fun _ => 0) = false) :
 spJ p m d F G i O (j + 1) = updR (spJ p m d F G i O j) (i + j) (addK p (spJ p m d F G i O j (i + j)) (mmP p (F i) (frN p m (G j) (i % d)) m) 1) := by
 rw [spJ, if_neg (by rw [h, h2]; simp)]
theorem spR_z (n : Nat) : spR p m d F G n 0 = fun _ _ => 0 := rfl
theorem spR_s (n i : Nat) : spR p m d F G n (i + 1) = spJ p m d F G i (spR p m d F G n i) n := rfl
theorem spJ_lt {i : Nat} {O : Nat → Nat → Nat} (hp : 0 < p) (hO : ∀ r k, O r k < p) : ∀ j r k, spJ p m d F G i O j r k < p
 | 0, r, k => hO r k
 | j + 1, r, k => by
  by_cases h : eqN 64 (F i) (fun _ => 0) = true ∨ eqN 64 (G j) (fun _ => 0) = true
  · rw [spJ_skip h]; exact spJ_lt hp hO j r k
  · rw [spJ, if_neg h]
    unfold updR
    by_cases h : r = i + j
    · rw [if_pos h]; exact addK_lt hp k
    · rw [if_neg h]; exact spJ_lt hp hO j r k
theorem spR_lt {n : Nat} (hp : 0 < p) : ∀ i r k, spR p m d F G n i r k < p
 | 0, r, k => hp
 | i + 1, r, k => by rw [spR_s]; exact spJ_lt hp (spR_lt hp i) n r k
/-- zeros behind change nothing -/
theorem spJ_tail {i : Nat} {O : Nat → Nat → Nat} {b : Nat} : ∀ t, (∀ j, b ≤ j → j < b + t → eqN 64 (G j) (fun _ => 0) = true) → spJ p m d F G i O (b + t) = spJ p m d F G i O b
 | 0, _ => rfl
 | t + 1, h => by
  rw [← Nat.add_assoc, spJ_skip (.inr (h (b + t) (by omega) (by omega)))]
  exact spJ_tail t fun j h1 h2 => h j h1 (by omega)
theorem spJ_row {i : Nat} {O : Nat → Nat → Nat} (h : eqN 64 (F i) (fun _ => 0) = true) : ∀ n, spJ p m d F G i O n = O
 | 0 => rfl
 | n + 1 => by rw [spJ_skip (.inl h)]; exact spJ_row h n
theorem spR_cols {b t : Nat} (h : ∀ j, b ≤ j → j < b + t → eqN 64 (G j) (fun _ => 0) = true) : ∀ a, spR p m d F G (b + t) a = spR p m d F G b a
 | 0 => rfl
 | a + 1 => by rw [spR_s, spR_s, spR_cols h a, spJ_tail t h]
theorem spR_rows {a n : Nat} : ∀ t, (∀ i, a ≤ i → i < a + t → eqN 64 (F i) (fun _ => 0) = true) → spR p m d F G n (a + t) = spR p m d F G n a
 | 0, _ => rfl
 | t + 1, h => by
  rw [← Nat.add_assoc, spR_s, spJ_row (h (a + t) (by omega) (by omega))]
  exact spR_rows t fun j h1 h2 => h j h1 (by omega)
/-- products with a factor 0 -/
theorem mm_zeroR {a b : Nat → Nat} (hp : p = 2 ∨ p = 3 ∨ p = 5 ∨ p = 7) (lm : ∀ k, k < 64 → m k < p) (h0 : 0 ≤ deg m) (hb : ∀ k, k < 64 → b k = 0) : ∀ k, k < 64 → mmP p a b m k = 0 := by
 refine rsd_eq (y := fun _ => 0) hp lm h0 (mm_rsd hp lm h0) (zero_rsd (by omega) h0) ?_
 have e : (rs b : Res p (lz m)) = rs (fun _ => 0) := cl_congr (by
  funext k
  unfold lz cut
  by_cases h : k < 64
  · rw [if_pos h, if_pos h, hb k h]
  · rw [if_neg h, if_neg h])
 rw [rs_mm hp lm h0, e, rs_zero, mulo]
theorem rsd_zero {x : Nat → Nat} (hp : 0 < p) (h0 : 0 ≤ deg m) (hx : ∀ k, k < 64 → x k = 0) : rsd p m x :=
 ⟨fun k hk => by rw [hx k hk]; exact hp, by have := (zero_rsd (m := m) hp h0).2; rwa [deg_congr hx]⟩
theorem frN_zeroR {x : Nat → Nat} (hp : p = 2 ∨ p = 3 ∨ p = 5 ∨ p = 7) (lm : ∀ k, k < 64 → m k < p) (h0 : 0 ≤ deg m) (h9 : deg m ≤ 9) (hx : ∀ k, k < 64 → x k = 0) (n : Nat) : ∀ k, k < 64 → frN p m x n k = 0 := by
 have hr := rsd_zero (p := p) (x := x) (by omega) h0 hx
 have h := frN_ok hp lm h0 h9 hr n
 refine rsd_eq (y := fun _ => 0) hp lm h0 h.1 (zero_rsd (by omega) h0) ?_
 have e : (rs x : Res p (lz m)) = rs (fun _ => 0) := cl_congr (by
  funext k
  unfold lz cut
  by_cases h : k < 64
  · rw [if_pos h, if_pos h, hx k h]
  · rw [if_neg h, if_neg h])
 rw [h.2, e, rs_zero, fr_o (by omega)]
theorem addK_at1 {f g f' g' : Nat → Nat} {c : Int} {k : Nat} (hf : f k = f' k) (hg : g k = g' k) : addK p f g c k = addK p f' g' c k := by
 unfold addK; rw [hf, hg]
theorem spJ_tm (hp : p = 2 ∨ p = 3 ∨ p = 5 ∨ p = 7) (lm : ∀ k, k < 64 → m k < p) (h0 : 0 ≤ deg m) (h9 : deg m ≤ 9) {i : Nat} {O O' : Nat → Nat → Nat} (hO : ∀ r k, k < 64 → O r k = O' r k) (hl : ∀ r k, O' r k < p) :
 ∀ j r k, k < 64 → spJ p m d F G i O j r k = tmJ p m d F G i O' j r k
 | 0, r, k, hk => by rw [spJ_z, tmJ_z]; exact hO r k hk
 | j + 1, r, k, hk => by
  have ih := spJ_tm hp lm h0 h9 (i := i) hO hl j
  rw [tmJ_s]
  by_cases h : eqN 64 (F i) (fun _ => 0) = true ∨ eqN 64 (G j) (fun _ => 0) = true
  · rw [spJ_skip h, ih r k hk]
    unfold updR
    by_cases e : r = i + j
    · rw [if_pos e, e]
      refine (addK_zero (fun k _ => tmJ_lt (by omega) hl j _ k) ?_ k hk).symm
      rcases h with h | h
      · exact mm_zero hp lm h0 (eqN_iff.1 h)
      · exact mm_zeroR hp lm h0 (frN_zeroR hp lm h0 h9 (eqN_iff.1 h) _)
    · rw [if_neg e]
  · have h1 : eqN 64 (F i) (fun _ => 0) = false := by cases h3 : eqN 64 (F i) (fun _ => 0) with | false => rfl | true => exact absurd (.inl h3) h
    have h2 : eqN 64 (G j) (fun _ => 0) = false := by cases h3 : eqN 64 (G j) (fun _ => 0) with | false => rfl | true => exact absurd (.inr h3) h
    rw [spJ_s h1 h2]
    unfold updR
    by_cases e : r = i + j
    · rw [if_pos e, if_pos e]; exact addK_at1 (ih _ k hk) rfl
    · rw [if_neg e, if_neg e]; exact ih r k hk
theorem spR_tm (hp : p = 2 ∨ p = 3 ∨ p = 5 ∨ p = 7) (lm : ∀ k, k < 64 → m k < p) (h0 : 0 ≤ deg m) (h9 : deg m ≤ 9) (n : Nat) : ∀ a r k, k < 64 → spR p m d F G n a r k = tmR p m d F G n a r k
 | 0, r, k, _ => by rw [spR_z, tmR_z]
 | a + 1, r, k, hk => by
  rw [spR_s, tmR_s]
  exact spJ_tm hp lm h0 h9 (fun r k hk => spR_tm hp lm h0 h9 n a r k hk) (fun r k => tmR_lt (by omega) a r k) n r k hk
theorem spR_tmP (hp : p = 2 ∨ p = 3 ∨ p = 5 ∨ p = 7) (lm : ∀ k, k < 64 → m k < p) (h0 : 0 ≤ deg m) (h9 : deg m ≤ 9) (r k : Nat) (hk : k < 64) : spR p m d F G 8 8 r k = tmP p m d F G r k := by
 obtain ⟨fb1, fb2⟩ := zsd F
 obtain ⟨gb1, gb2⟩ := zsd G
 obtain ⟨a, ha⟩ : ∃ a : Nat, skD F = (a : Int) - 1 := ⟨(skD F + 1).toNat, by omega⟩
 obtain ⟨b, hb⟩ : ∃ b : Nat, skD G = (b : Int) - 1 := ⟨(skD G + 1).toNat, by omega⟩
 rw [tmP_at ha hb, ← spR_tm hp lm h0 h9 b a r k hk]
 have ea : (8 : Nat) = a + (8 - a) := by omega
 have eb : (8 : Nat) = b + (8 - b) := by omega
 have hF : ∀ i, a ≤ i → i < a + (8 - a) → eqN 64 (F i) (fun _ => 0) = true := fun i h1 h2 => skN_spec F 8 i (by omega) (by have : skN F 8 = skD F := rfl; omega)
 have hG : ∀ i, b ≤ i → i < b + (8 - b) → eqN 64 (G i) (fun _ => 0) = true := fun i h1 h2 => skN_spec G 8 i (by omega) (by have : skN G 8 = skD G := rfl; omega)
 have e1 : spR p m d F G 8 8 = spR p m d F G 8 a := by conv => lhs; arg 7; rw [ea]
                                                       exact spR_rows _ hF
 have e2 : spR p m d F G 8 a = spR p m d F G b a := by conv => lhs; arg 6; rw [eb]
                                                       exact spR_cols hG a
 rw [e1, e2]
end
attribute [irreducible] spJ spR
end Go.Proofs.Ytelgefgphhebnaa
end
section
namespace Go.Proofs.Ytelgefgphhebnaa
open Go Go.RowKit
set_option linter.unusedVariables false
set_option linter.unusedSimpArgs false
section
attribute [local irreducible] mkW MkP
set_option maxRecDepth 100000 in
set_option maxHeartbeats 3200000 in
theorem eqPolyS_big (R : List (Nat → Nat)) (a1 a2 : Option Addr) (cap1 cap2 base1 base2 : Nat) (w : World) (h1 : SlL w base1 28 64 (.slice a1 R.length cap1) (plR R)) (h2 : SlL w base2 28 64 (.slice a2 R.length cap2) (plR R)) (hR : R.length ≤ 1048576) :
 Calls Try.prog 20 #[.slice a1 R.length cap1, .slice a2 R.length cap2] w fun e w' => e = .returned (.bool true) ∧ Below w.heap.size w w' := by
 go_enter Try.func20, Try.ntmps20
 go_wp2_with fail
 go_loopw [5] (fun i wr => ∃ j : Nat, i = .int .i64 (j : Int) ∧ j ≤ R.length ∧ Below w.heap.size w wr) (fun i _ => R.length - (intOf i).toNat)
 case atStart => exact ⟨0, rfl, Nat.zero_le _, Below.refl _ _⟩
 case round =>
  obtain ⟨j, rfl, hjR, hb⟩ := hrel
  by_cases hj : j < R.length
  · obtain ⟨x, hx⟩ : ∃ x, R[j]? = some x := ⟨_, List.getElem?_eq_getElem hj⟩
    obtain ⟨g1, rfl⟩ := h1.some (by rw [plR_len]; omega)
    obtain ⟨g2, rfl⟩ := h2.some (by rw [plR_len]; omega)
    have hrow : (plR R)[j]? = some (bl 64 x) := by unfold plR; rw [List.getElem?_map, hx]; rfl
    have B0 : SlL wr base1 28 64 (.slice (some ⟨g1, 0, none⟩) R.length cap1) (plR R) := h1.zw hb
    have B1 : SlL wr base2 28 64 (.slice (some ⟨g2, 0, none⟩) R.length cap2) (plR R) := h2.zw hb
    have hjl : (j : Int) < (R.length : Int) := by omega
    clear h1 h2
    go_upto_region 6 with (fail)
    have lt_B0 : (base1) ≤ wr.heap.size := B0.lt
    have lt_B1 : (base2) ≤ wr.heap.size := B1.lt
    have hbase : w.heap.size ≤ wr.heap.size := hb.size
    refine zq Try.mixed (by kernel_rfl) (by kernel_rfl) (fun v => by (simp only [frL, Act.put, pA, pB, pC, Nat.reduceAdd, Nat.zero_add]; exact rfl))
     (fun L v W1 => Below w.heap.size w W1 ∧ wr.heap.size ≤ W1.heap.size ∧ SlL W1 base1 28 64 (.slice (some ⟨g1, 0, none⟩) R.length cap1) (plR R) ∧ SlL W1 base2 28 64 (.slice (some ⟨g2, 0, none⟩) R.length cap2) (plR R) ∧ (L 0 = true → v 0 = (.slice (some ⟨g1, 0, none⟩) R.length cap1)) ∧ (L 1 = true → v 1 = (.int .i64 (j : Int))) ∧ (L 2 = true → v 2 = (.pointer (some ⟨g1, j * 64, none⟩))) ∧ (L 3 = true → v 3 = (.agg (bl 64 x).toArray)) ∧ (L 4 = true → v 4 = (.slice (some ⟨g2, 0, none⟩) R.length cap2)) ∧ (L 5 = true → v 5 = (.int .i64 (j : Int))) ∧ (L 6 = true → v 6 = (.pointer (some ⟨g2, j * 64, none⟩))) ∧ (L 7 = true → v 7 = (.agg (bl 64 x).toArray)) ∧ (L 8 = true → v 8 = (.bool true)) ∧ (L 9 = true → v 9 = (.bool false))) ?_ ?_ ?_
    · intro v hv0
      exact ⟨hb.drew, Nat.le_refl _, B0.drew, B1.drew, (fun h => by cases h), (fun h => by cases h), (fun h => by cases h), (fun h => by cases h), (fun h => by cases h), (fun h => by cases h), (fun h => by cases h), (fun h => by cases h), (fun h => by cases h), (fun h => by cases h)⟩
    · refine (.cons rfl ?_ (.cons rfl ?_ (.cons rfl ?_ (.cons rfl ?_ (.cons rfl ?_ (.cons rfl ?_ (.cons rfl ?_ (.cons rfl ?_ (.cons rfl ?_ (.cons rfl ?_ (.nil _)))))))))))
      all_goals intro L v W1 hd hn ⟨hB, hz, s0, s1, h0, h1, h2, h3, h4, h5, h6, h7, h8, h9⟩ K hK
      · go_wp2_with fail
        exact hK _ (.slice (some ⟨g1, 0, none⟩) R.length cap1) _ (by simp only [Act.put, pA, pB, pC ]) ⟨hB, hz, s0, s1, (fun _ => rfl), h1, h2, h3, h4, h5, h6, h7, h8, h9⟩
      · go_wp2_with fail
        exact hK _ (.int .i64 (j : Int)) _ (by simp only [Act.put, pA, pB, pC ]) ⟨hB, hz, s0, s1, h0, (fun _ => rfl), h2, h3, h4, h5, h6, h7, h8, h9⟩
      · have e0 := h0 (zdq hd 0 rfl)
        have e1 := h1 (zdq hd 1 rfl)
        go_wp2_with fail
        exact hK _ (.pointer (some ⟨g1, j * 64, none⟩)) _ (by simp only [Act.put, pA, pB, pC, e0, e1]) ⟨hB, hz, s0, s1, h0, h1, (fun _ => rfl), h3, h4, h5, h6, h7, h8, h9⟩
      · have e2 := h2 (zdq hd 2 rfl)
        have hr := (s0).range hrow
        refine wp_load_mid 28 _ rfl _ (j * 64) e2 _ _ hr Try.underlying28 rfl (by rw [zl]; exact Try.size28) ?_
        exact hK _ _ _ rfl ⟨hB, hz, s0, s1, h0, h1, h2, (fun _ => rfl), h4, h5, h6, h7, h8, h9⟩
      · go_wp2_with fail
        exact hK _ (.slice (some ⟨g2, 0, none⟩) R.length cap2) _ (by simp only [Act.put, pA, pB, pC ]) ⟨hB, hz, s0, s1, h0, h1, h2, h3, (fun _ => rfl), h5, h6, h7, h8, h9⟩
      · go_wp2_with fail
        exact hK _ (.int .i64 (j : Int)) _ (by simp only [Act.put, pA, pB, pC ]) ⟨hB, hz, s0, s1, h0, h1, h2, h3, h4, (fun _ => rfl), h6, h7, h8, h9⟩
      · have e4 := h4 (zdq hd 4 rfl)
        have e5 := h5 (zdq hd 5 rfl)
        go_wp2_with fail
        exact hK _ (.pointer (some ⟨g2, j * 64, none⟩)) _ (by simp only [Act.put, pA, pB, pC, e4, e5]) ⟨hB, hz, s0, s1, h0, h1, h2, h3, h4, h5, (fun _ => rfl), h7, h8, h9⟩
      · have e6 := h6 (zdq hd 6 rfl)
        have hr := (s1).range hrow
        refine wp_load_mid 28 _ rfl _ (j * 64) e6 _ _ hr Try.underlying28 rfl (by rw [zl]; exact Try.size28) ?_
        exact hK _ _ _ rfl ⟨hB, hz, s0, s1, h0, h1, h2, h3, h4, h5, h6, (fun _ => rfl), h8, h9⟩
      · have e3 := h3 (zdq hd 3 rfl)
        have e7 := h7 (zdq hd 7 rfl)
        go_wp2_with (go_at_call 38; refine (eqPoly_same x x (fun _ _ => rfl) _).mono ?_; rintro e wy ⟨rfl, hy⟩)
        exact hK _ (.bool true) _ (by simp only [Act.put, pA, pB, pC, e3, e7]) ⟨hB.trans (hy.mono hB.size), (Nat.le_trans hz hy.size), s0.zw hy, s1.zw hy, h0, h1, h2, h3, h4, h5, h6, h7, (fun _ => rfl), h9⟩
      · have e8 := h8 (zdq hd 8 rfl)
        go_wp2_with fail
        exact hK _ (.bool false) _ (by simp only [Act.put, pA, pB, pC, e8]) ⟨hB, hz, s0, s1, h0, h1, h2, h3, h4, h5, h6, h7, h8, (fun _ => rfl)⟩
    · intro L v W1 hL ⟨hB, hz, s0, s1, h0, h1, h2, h3, h4, h5, h6, h7, h8, h9⟩
      have e0 := h0 (hL 0 (by decide))
      have e1 := h1 (hL 1 (by decide))
      have e2 := h2 (hL 2 (by decide))
      have e3 := h3 (hL 3 (by decide))
      have e4 := h4 (hL 4 (by decide))
      have e5 := h5 (hL 5 (by decide))
      have e6 := h6 (hL 6 (by decide))
      have e7 := h7 (hL 7 (by decide))
      have e8 := h8 (hL 8 (by decide))
      have e9 := h9 (hL 9 (by decide))
      clear hL h0 h1 h2 h3 h4 h5 h6 h7 h8 h9
      simp only [Exit.then, e0, e1, e2, e3, e4, e5, e6, e7, e8, e9]
      clear e0 e1 e2 e3 e4 e5 e6 e7 e8 e9
      replace B0 := s0
      clear s0
      replace B1 := s1
      clear s1
      replace hb := hB
      clear hB
      clear hbase hz lt_B0 lt_B1
      go_wp2_with fail
      go_roundw
      case rel => exact ⟨j + 1, by go_num, by omega, hb⟩
      case measure => simp [intOf] <;> omega
  · have hjl : ¬ (j : Int) < (R.length : Int) := by omega
    go_wp2_with fail
    go_ret
    exact ⟨rfl, hb⟩
end
set_option maxRecDepth 100000 in
set_option maxHeartbeats 3200000 in
theorem szPolyS_at (a : Option Addr) (n cap : Nat) (l : Int) (w : World) (hn : n ≤ maxLen) (hl0 : 0 ≤ l) (hl : l ≤ 1048576) :
 Calls Try.prog 14 #[.slice a n cap, .int .i64 l] w fun e w' => e = .returned (.int .i64 (if (n : Int) ≤ l then l - (n : Int) else -1)) ∧ w' = w := by
 have hn2 : (n : Int) ≤ 9223372036854775807 := by unfold maxLen at hn; omega
 go_enter Try.func14, Try.ntmps14
 by_cases h : (n : Int) ≤ l
 · have h2 : ¬ (l - (n : Int) < 0) := by omega
   rw [if_pos h]
   go_wp2_with fail
   go_ret
   exact ⟨rfl, rfl⟩
 · have h2 : l - (n : Int) < 0 := by omega
   rw [if_neg h]
   go_wp2_with fail
   go_ret
   exact ⟨rfl, rfl⟩
/-- the rows before j -/
def upX (X : Nat → Nat → Nat) (j : Nat) : Nat → Nat → Nat := fun i k => if i < j then X i k else 0
theorem upX_z (X : Nat → Nat → Nat) : upX X 0 = fun _ _ => 0 := by funext i k; unfold upX; rw [if_neg (Nat.not_lt_zero _)]
theorem upX_s (X : Nat → Nat → Nat) (j : Nat) : updR (upX X j) j (X j) = upX X (j + 1) := by
 funext i k
 unfold updR upX
 by_cases h : i = j
 · subst h; rw [if_pos rfl, if_pos (Nat.lt_succ_self _)]
 · rw [if_neg h]
   by_cases h2 : i < j
   · rw [if_pos h2, if_pos (by omega)]
   · rw [if_neg h2, if_neg (by omega)]
theorem upX_n {X : Nat → Nat → Nat} {n : Nat} : (List.range n).map (upX X n) = (List.range n).map X := by
 apply List.map_congr_left
 intro i hi
 funext k
 unfold upX
 rw [if_pos (List.mem_range.1 hi)]
attribute [local irreducible] upX
set_option maxRecDepth 100000 in
set_option maxHeartbeats 3200000 in
theorem toPolyS_any (a : Option Addr) (n cap : Nat) (X : Nat → Nat → Nat) (hX : ∀ i, byte (X i)) (w : World) (h : Lst w a n X) (hn : (n : Int) ≤ 1048576) :
 Calls Try.prog 17 #[.slice a n cap] w fun e w' => ∃ b, e = .returned (.slice (some ⟨b, 0, none⟩) n n) ∧ SlL w' w.heap.size 28 64 (.slice (some ⟨b, 0, none⟩) n n) (plR ((List.range n).map X)) ∧ b < w'.heap.size ∧ Below w.heap.size w w' := by
 have hnL : n ≤ maxLen := by unfold maxLen; omega
 go_enter Try.func17, Try.ntmps17
 go_upto_region 2 with (refine wpList_make_rowsB _ rfl 30 (.tmp 6) (.tmp 6) rfl 28 Try.underlying30 Try.made28 n hn rfl rfl ?_)
 obtain ⟨b, hbe⟩ : ∃ b, b = w.heap.size := ⟨_, rfl⟩
 have B0 : Blk (w.alloc (.cells (zb (n * 64) (fl 64 fun _ _ => 0)) 28)) b (n * 64) 28 (fl 64 (upX X 0)) := by rw [upX_z, hbe]; exact Blk.new w (n * 64) 28 (fl 64 fun _ _ => 0)
 have hb : Below w.heap.size w (w.alloc (.cells (zb (n * 64) (fl 64 fun _ _ => 0)) 28)) := (Below.refl _ _).alloc (Nat.le_refl _) _
 have hbw : w.heap.size ≤ b := by omega
 rw [← hbe]
 obtain ⟨W1, hwo⟩ : ∃ v : World, v = (w.alloc (.cells (zb (n * 64) (fl 64 fun _ _ => 0)) 28)) := ⟨_, rfl⟩
 rw [← hwo] at B0 hb ⊢
 clear hwo
 have HBE := Lib.hid hbe
 clear hbe
 go_wp2_with fail
 go_loopw [4] (fun i wr => ∃ j : Nat, i = .int .i64 (j : Int) ∧ j ≤ n ∧ Below w.heap.size w wr ∧ Blk wr b (n * 64) 28 (fl 64 (upX X j))) (fun i _ => n - (intOf i).toNat)
 case atStart => exact ⟨0, rfl, Nat.zero_le _, hb, B0⟩
 case round =>
  clear hb B0
  obtain ⟨j, rfl, hjn, hb, B0⟩ := hrel
  by_cases hj : j < n
  · obtain ⟨c, off, rfl, hcl, hr⟩ := h.has (by omega)
    have hjI : (j : Int) < (n : Int) := by omega
    have hr2 : wr.rangeAt c (off + j * 64) (bl 64 (X j)) := fun k v hv => by rw [← hr j hj k v hv]; exact World.cell?_of_block (hb.block c hcl)
    clear hr
    go_upto_region 4 with (first | (refine wpList_load_mid rfl 22 (.tmp 18) rfl c (off + j * 64) rfl (bl 64 (X j)) _ hr2 Try.underlying22 rfl (by rw [zl]; exact Try.size22) ?_) | (go_at_call 16; refine (toPoly_any (X j) (hX j) _).mono ?_; rintro e W5 ⟨rfl, h2⟩; replace B0 := B0.zw h2; replace hb := hb.trans (h2.mono hb.size)) | (refine wpList_store_rowF rfl 28 (.tmp 21) (.tmp 20) rfl b j 64 n (X j) rfl rfl 28 _ B0 hj (by decide) Try.size28 ?_; try simp only [Act.put]))
    have B1 := B0.row (fl 64 (updR (upX X j) j (X j)))
    rw [upX_s] at B1
    rw [upX_s]
    have hb1 := zr hb hbw (zb (n * 64) (fl 64 (upX X (j + 1))))
    go_wp2_with fail
    go_roundw
    case rel => exact ⟨j + 1, by go_num, by omega, hb1, B1⟩
    case measure => simp [intOf] <;> omega
  · obtain rfl : j = n := by omega
    have hjI : ¬ (j : Int) < (j : Int) := by omega
    go_wp2_with fail
    go_ret
    exact ⟨_, rfl, by have := slL_ofBlk B0 hbw hnL; rwa [upX_n] at this, B0.lt, hb⟩
end Go.Proofs.Ytelgefgphhebnaa
end
section
namespace Go.Proofs.Ytelgefgphhebnaa
open Go Go.RowKit
set_option linter.unusedVariables false
set_option linter.unusedSimpArgs false
theorem plR_at {L : List (Nat → Nat)} {j : Nat} {x : Nat → Nat} (h : L[j]? = some x) : (plR L)[j]? = some (bl 64 x) := by unfold plR; rw [List.getElem?_map, h]; rfl
/-- all are residues -/
noncomputable def rsA (p : Int) (m : Nat → Nat) (L : List (Nat → Nat)) : Bool := L.all (rsB p m)
theorem rsA_yes {p : Int} {m : Nat → Nat} {L : List (Nat → Nat)} (h : ∀ (i : Nat) (x : Nat → Nat), L[i]? = some x → rsB p m x = true) : rsA p m L = true := by
 unfold rsA
 rw [List.all_eq_true]
 intro x hx
 obtain ⟨i, hi, e⟩ := List.getElem_of_mem hx
 exact h i x (by rw [← e]; exact List.getElem?_eq_getElem hi)
theorem rsA_no {p : Int} {m : Nat → Nat} {L : List (Nat → Nat)} {i : Nat} {x : Nat → Nat} (hi : L[i]? = some x) (h : rsB p m x = false) : rsA p m L = false := by
 unfold rsA
 rw [List.all_eq_false]
 exact ⟨x, List.mem_of_getElem? hi, by rw [h]; decide⟩
theorem rsA_mem {p : Int} {m : Nat → Nat} {L : List (Nat → Nat)} (h : rsA p m L = true) {x : Nat → Nat} (hx : x ∈ L) : rsB p m x = true := by
 unfold rsA at h
 exact List.all_eq_true.1 h x hx
/-- the code of lists of residues -/
noncomputable def ckR (p : Int) (m : Nat → Nat) (Ls : List (List (Nat → Nat))) : Int := if flV p m = true ∧ (∀ L, L ∈ Ls → rsA p m L = true) then 0 else 1
theorem ckR_f {p : Int} {m : Nat → Nat} {Ls : List (List (Nat → Nat))} (h : flV p m = false) : ckR p m Ls = 1 := if_neg (fun a => by rw [h] at a; exact absurd a.1 (by simp))
theorem ckR_no {p : Int} {m : Nat → Nat} {Ls : List (List (Nat → Nat))} {L : List (Nat → Nat)} {j : Nat} (hj : Ls[j]? = some L) (h : rsA p m L = false) : ckR p m Ls = 1 := if_neg (fun a => by
 have := a.2 L (List.mem_of_getElem? hj); rw [h] at this; cases this)
theorem ckR_yes {p : Int} {m : Nat → Nat} {Ls : List (List (Nat → Nat))} (h : flV p m = true) (h2 : ∀ (i : Nat) (L : List (Nat → Nat)), Ls[i]? = some L → rsA p m L = true) : ckR p m Ls = 0 := if_pos ⟨h, fun L hL => by
 obtain ⟨i, hi, e⟩ := List.getElem_of_mem hL
 exact h2 i L (by rw [← e]; exact List.getElem?_eq_getElem hi)⟩
theorem ckR_zero {p : Int} {m : Nat → Nat} {Ls : List (List (Nat → Nat))} (h : ckR p m Ls = 0) : flV p m = true ∧ ∀ L, L ∈ Ls → rsA p m L = true := by
 unfold ckR at h
 by_cases a : flV p m = true ∧ (∀ L, L ∈ Ls → rsA p m L = true)
 · exact a
 · rw [if_neg a] at h; omega
/-- lists behind a slice of slices -/
def LsV (w : World) (vs : List Value) (Ls : List (List (Nat → Nat))) : Prop := vs.length = Ls.length ∧ ∀ (j : Nat) (L : List (Nat → Nat)), Ls[j]? = some L → ∃ base a cap, vs[j]? = some (.slice a L.length cap) ∧ SlL w base 28 64 (.slice a L.length cap) (plR L)
theorem LsV.at {w : World} {vs : List Value} {Ls : List (List (Nat → Nat))} (h : LsV w vs Ls) {j : Nat} {L : List (Nat → Nat)} (hj : Ls[j]? = some L) : ∃ base a cap, vs[j]? = some (.slice a L.length cap) ∧ SlL w base 28 64 (.slice a L.length cap) (plR L) := h.2 j L hj
theorem LsV.below {w w' : World} {vs : List Value} {Ls : List (List (Nat → Nat))} (h : LsV w vs Ls) (hb : Below w.heap.size w w') : LsV w' vs Ls := ⟨h.1, fun j L hj => by
 obtain ⟨base, a, cap, h1, h2⟩ := h.2 j L hj
 exact ⟨base, a, cap, h1, h2.zw hb⟩⟩
/-- the slice of slices -/
def LsS (w : World) (v : Value) (vs : List Value) : Prop := ∃ a cap, v = .slice a vs.length cap ∧ (vs = [] ∨ ∃ b, a = some ⟨b, 0, none⟩ ∧ Row w b 30 vs.toArray)
theorem LsS.below {w w' : World} {v : Value} {vs : List Value} (h : LsS w v vs) (hb : Below w.heap.size w w') : LsS w' v vs := by
 obtain ⟨a, cap, h1, h2 | ⟨b, h2, h3⟩⟩ := h
 · exact ⟨a, cap, h1, .inl h2⟩
 · exact ⟨a, cap, h1, .inr ⟨b, h2, h3.zw hb⟩⟩
theorem LsV.len {w : World} {vs : List Value} {Ls : List (List (Nat → Nat))} (h : LsV w vs Ls) : vs.length = Ls.length := h.1
theorem LsS.out {w : World} {v : Value} {vs : List Value} (h : LsS w v vs) : ∃ a cap, v = .slice a vs.length cap ∧ (vs = [] ∨ ∃ b, a = some ⟨b, 0, none⟩ ∧ Row w b 30 vs.toArray) := h
theorem LsV.one {w : World} {base cap : Nat} {a : Option Addr} {L : List (Nat → Nat)} (h : SlL w base 28 64 (.slice a L.length cap) (plR L)) : LsV w [.slice a L.length cap] [L] := ⟨rfl, fun j M hj => by
 have h1 : j = 0 := by have := (List.getElem?_eq_some_iff.1 hj).1; simp at this; omega
 subst h1
 have h2 : L = M := by simpa using hj
 subst h2
 exact ⟨base, a, cap, rfl, h⟩⟩
theorem LsV.two {w : World} {base cap base2 cap2 : Nat} {a a2 : Option Addr} {L L2 : List (Nat → Nat)} (h : SlL w base 28 64 (.slice a L.length cap) (plR L)) (h2 : SlL w base2 28 64 (.slice a2 L2.length cap2) (plR L2)) : LsV w [.slice a L.length cap, .slice a2 L2.length cap2] [L, L2] := ⟨rfl, fun j M hj => by
 have hjl := (List.getElem?_eq_some_iff.1 hj).1
 have h1 : j = 0 ∨ j = 1 := by simp at hjl; omega
 rcases h1 with rfl | rfl
 · have h3 : L = M := by simpa using hj
   subst h3
   exact ⟨base, a, cap, rfl, h⟩
 · have h3 : L2 = M := by simpa using hj
   subst h3
   exact ⟨base2, a2, cap2, rfl, h2⟩⟩
theorem LsV.none (w : World) : LsV w [] [] := ⟨rfl, fun j M hj => by simp at hj⟩
theorem LsS.nil (w : World) : LsS w (.slice Option.none 0 0) [] := ⟨_, _, rfl, .inl rfl⟩
theorem LsS.row {w : World} {b cap : Nat} {vs : List Value} (h : Row w b 30 vs.toArray) : LsS w (.slice (some ⟨b, 0, Option.none⟩) vs.length cap) vs := ⟨_, _, rfl, .inr ⟨b, rfl, h⟩⟩
attribute [irreducible] rsA ckR LsV LsS
attribute [local irreducible] deg flV
set_option maxRecDepth 100000 in
set_option maxHeartbeats 3200000 in
theorem noResidue_any (p : Int) (m x : Nat → Nat) (hm : byte m) (hx : byte x) (bp bq : Nat) (w : World) (B0 : One w bp 2 (.int .i64 p)) (B1 : Blk w bq 64 28 m) :
 Calls Try.prog 98 #[.agg (zb 64 x), .pointer (some ⟨bp, 0, none⟩), .pointer (some ⟨bq, 0, none⟩)] w fun e w' => e = .returned (.bool (!rsB p m x)) ∧ Below w.heap.size w w' := by
 have HR := Lib.hid (fun W => isResidue_any p m x hm hx W)
 obtain ⟨r, hr⟩ : ∃ r, r = rsB p m x := ⟨_, rfl⟩
 rw [← hr] at HR ⊢
 clear hr
 have zx_0 := B0.lt
 have zx_1 := B1.lt
 go_enter Try.func98, Try.ntmps98
 go_upto_region 1 with (fail)
 obtain ⟨W1, hwo⟩ : ∃ v : World, v = (w.alloc (.cells (zb 64 (x)) 28)) := ⟨_, rfl⟩
 have B2 : Blk W1 (w.heap.size) 64 28 (x) := by subst hwo; have := (Blk.new w 64 28 (x)); simpa using this
 replace B0 : One W1 (bp) 2 (.int .i64 p) := by subst hwo; exact (B0.alloc (.cells (zb 64 (x)) 28))
 replace B1 : Blk W1 (bq) 64 28 (m) := by subst hwo; exact (B1.alloc (.cells (zb 64 (x)) 28))
 have hb : Below w.heap.size w W1 := by subst hwo; exact ((Below.refl _ _).alloc (Nat.le_refl _) _)
 rw [← hwo]
 clear hwo
 go_wp2_with (first | (refine zlo rfl 2 (.tmp 1) rfl _ rfl 2 ((.int .i64 p)) (B0) _ Try.underlying2 rfl ?_) | (refine zla (.tmp 2) B1 Try.underlying28 Try.size28 ?_) | (refine zbo rfl 70 _ rfl (fdC p m).toArray (by rw [Array.toList_map]; exact built_fd p m) ?_) | (refine zla (.tmp 3) B2 Try.underlying28 Try.size28 ?_) | (go_at_call 99; refine (HR.out _).mono ?_; rintro e W2 ⟨rfl, hW2⟩; replace B0 := B0.zw hW2; replace B1 := B1.zw hW2; replace B2 := B2.zw hW2; replace hb := (hb).trans (hW2.mono (hb).size)))
 go_ret
 exact ⟨rfl, hb⟩
set_option maxRecDepth 100000 in
set_option maxHeartbeats 3200000 in
theorem IndexFunc_any (p : Int) (m : Nat → Nat) (R : List (Nat → Nat)) (a : Option Addr) (cap base bp bq : Nat) (w : World) (hm : byte m) (hLb : ∀ x, x ∈ R → byte x) (hlen : (R.length : Int) ≤ 1048576) (hL : SlL w base 28 64 (.slice a R.length cap) (plR R)) (B0 : One w bp 2 (.int .i64 p)) (B1 : Blk w bq 64 28 m) :
 Calls Try.prog 139 #[.slice a R.length cap, .func (.func 98) #[] #[.pointer (some ⟨bp, 0, none⟩), .pointer (some ⟨bq, 0, none⟩)]] w fun e w' => ∃ r : Int, e = .returned (.int .i64 r) ∧ (rsA p m R = true ∧ r = -1 ∨ rsA p m R = false ∧ ∃ k : Nat, r = (k : Int)) ∧ Below w.heap.size w w' := by
 have HNR := Lib.hid (fun x (hx : byte x) W (hW : Below w.heap.size w W) => noResidue_any p m x hm hx bp bq W (B0.zw hW) (B1.zw hW))
 have HLB := Lib.hid hLb
 clear hLb B0 B1 hm
 go_enter Try.func139, Try.ntmps139
 go_upto_region 1 with (fail)
 have hb : Below w.heap.size w w := Below.refl _ _
 go_upto_region 99 with (fail)
 go_loopw [8] (fun c wr => ∃ j : Nat, c = .int .i64 (j : Int) ∧ j ≤ R.length ∧ Hid (∀ (i : Nat) (x : Nat → Nat), i < j → R[i]? = some x → rsB p m x = true) ∧ Below w.heap.size w wr) (fun c _ => R.length - (intOf c).toNat)
 case atStart => exact ⟨0, rfl, Nat.zero_le _, Lib.hid (fun i x hi => absurd hi (Nat.not_lt_zero _)), hb⟩
 case round =>
  clear hb
  obtain ⟨j, rfl, hjn, hG, hb⟩ := hrel
  by_cases hj : j < R.length
  · have hjI : (j : Int) < (R.length : Int) := by omega
    obtain ⟨x, hx⟩ : ∃ x, R[j]? = some x := ⟨_, List.getElem?_eq_getElem hj⟩
    obtain ⟨g, rfl⟩ := hL.some (by rw [plR_len]; omega)
    have hrow := plR_at hx
    have HN := Lib.hid (HNR.out x (HLB.out x (List.mem_of_getElem? hx)))
    obtain ⟨r, hr⟩ : ∃ r, r = rsB p m x := ⟨_, rfl⟩
    rw [← hr] at HN
    have HR := Lib.hid hr
    have HX := Lib.hid hx
    clear hr hx
    cases r with
    | false =>
     go_upto_region 4 with (fail)
     go_wp2_with (first | (refine wpList_load_mid rfl 28 (.tmp 14) rfl _ (j * 64) rfl (bl 64 x) _ ((hL.zw hb).range hrow) Try.underlying28 rfl (by rw [zl]; exact Try.size28) ?_) | (go_at_call 98; refine (HN.out _ hb).mono ?_; rintro e W1 ⟨rfl, hW1⟩; replace hb := (hb).trans (hW1.mono (hb).size)))
     go_ret
     exact ⟨_, rfl, .inr ⟨rsA_no HX.out HR.out.symm, j, rfl⟩, hb⟩
    | true =>
     go_upto_region 4 with (fail)
     go_wp2_with (first | (refine wpList_load_mid rfl 28 (.tmp 14) rfl _ (j * 64) rfl (bl 64 x) _ ((hL.zw hb).range hrow) Try.underlying28 rfl (by rw [zl]; exact Try.size28) ?_) | (go_at_call 98; refine (HN.out _ hb).mono ?_; rintro e W1 ⟨rfl, hW1⟩; replace hb := (hb).trans (hW1.mono (hb).size)))
     go_roundw
     case rel => exact ⟨j + 1, by go_num, by omega, Lib.hid (fun i y hi hy => by
      by_cases e : i = j
      · subst e; have := HX.out; rw [hy] at this; injection this with this; rw [this]; exact HR.out.symm
      · exact hG.out i y (by omega) hy), hb⟩
     case measure => simp [intOf] <;> omega
  · have hjI : ¬ (j : Int) < (R.length : Int) := by omega
    go_wp2_with fail
    go_ret
    exact ⟨_, rfl, .inl ⟨rsA_yes (fun i x hx => hG.out i x (by have := (List.getElem?_eq_some_iff.1 hx).1; omega) hx), rfl⟩, hb⟩
set_option maxRecDepth 100000 in
set_option maxHeartbeats 3200000 in
theorem ContainsFunc_any (p : Int) (m : Nat → Nat) (R : List (Nat → Nat)) (a : Option Addr) (cap base bp bq : Nat) (w : World) (hm : byte m) (hLb : ∀ x, x ∈ R → byte x) (hlen : (R.length : Int) ≤ 1048576) (hL : SlL w base 28 64 (.slice a R.length cap) (plR R)) (B0 : One w bp 2 (.int .i64 p)) (B1 : Blk w bq 64 28 m) :
 Calls Try.prog 100 #[.slice a R.length cap, .func (.func 98) #[] #[.pointer (some ⟨bp, 0, none⟩), .pointer (some ⟨bq, 0, none⟩)]] w fun e w' => e = .returned (.bool (!rsA p m R)) ∧ Below w.heap.size w w' := by
 have HIX := Lib.hid (IndexFunc_any p m R a cap base bp bq w hm hLb hlen hL B0 B1)
 clear hL B0 B1 hLb hm
 go_enter Try.func100, Try.ntmps100
 go_wp2_with fail
 refine HIX.out.mono ?_
 rintro e W1 ⟨r, rfl, hr, hb⟩
 rcases hr with ⟨hr, rfl⟩ | ⟨hr, k, rfl⟩
 · go_wp2_with fail
   go_ret
   exact ⟨(by rw [hr] <;> rfl), hb⟩
 · have hk : (0 : Int) ≤ (k : Int) := by omega
   have hk2 : decide ((k : Int) ≥ 0) = true := by simp
   go_wp2_with fail
   go_ret
   exact ⟨(by rw [hr] <;> rfl), hb⟩
set_option maxRecDepth 100000 in
set_option maxHeartbeats 3200000 in
theorem checkResidues_any (p : Int) (m : Nat → Nat) (hm : byte m) (Ls : List (List (Nat → Nat))) (vs : List Value) (v : Value) (w : World) (hLb : ∀ R, R ∈ Ls → (∀ x, x ∈ R → byte x) ∧ (R.length : Int) ≤ 1048576) (hk : Ls.length ≤ 4) (hV : LsV w vs Ls) (hS : LsS w v vs) :
 Calls Try.prog 55 #[.int .i64 p, .agg (zb 64 m), v] w fun e w' => e = .returned (.int .i64 (ckR p m Ls)) ∧ Below w.heap.size w w' := by
 have HFL := Lib.hid (fun W => impl_IsField_any p m hm W)
 have HLB := Lib.hid hLb
 unfold LsS at hS
 obtain ⟨a, cap, rfl, hrow⟩ := hS
 have HROW := Lib.hid hrow
 have HV := Lib.hid hV
 have hvl : vs.length = Ls.length := by unfold LsV at hV; exact hV.1
 rw [hvl]
 have HVL := Lib.hid hvl
 clear hLb hrow hV hvl
 have hmf : ∀ (fn : Fn) (first cap : Array Value) (w : World), (Instr.makeFunc fn first cap).run Try.prog w = .ok (.func fn first cap) w := fun _ _ _ _ => rfl
 go_enter Try.func55, Try.ntmps55
 go_upto_region 1 with (fail)
 obtain ⟨W1, hwo⟩ : ∃ v : World, v = ((w.alloc (.cells #[(.int .i64 p)] 2)).alloc (.cells (zb 64 (m)) 28)) := ⟨_, rfl⟩
 have B0 : One W1 (w.heap.size) 2 (.int .i64 p) := by subst hwo; have := ((One.new w 2 (.int .i64 p)).alloc (.cells (zb 64 (m)) 28)); simpa using this
 have B1 : Blk W1 (w.heap.size + 1) 64 28 (m) := by subst hwo; have := (Blk.new (w.alloc (.cells #[(.int .i64 p)] 2)) 64 28 (m)); simpa using this
 have hb : Below w.heap.size w W1 := by subst hwo; exact (((Below.refl _ _).alloc (Nat.le_refl _) _).alloc (by simp) _)
 rw [← hwo]
 clear hwo
 cases hf : flV p m with
 | false =>
  rw [hf] at HFL
  go_upto_region 2 with (first | (refine zlo rfl 2 (.tmp 3) rfl _ rfl 2 ((.int .i64 p)) (B0) _ Try.underlying2 rfl ?_) | (refine zla (.tmp 4) B1 Try.underlying28 Try.size28 ?_) | (go_at_call 97; refine (HFL.out _).mono ?_; rintro e W2 ⟨rfl, hW2⟩; replace B0 := B0.zw hW2; replace B1 := B1.zw hW2; replace hb := (hb).trans (hW2.mono (hb).size)))
  go_wp2_with fail
  go_ret
  exact ⟨(by rw [ckR_f hf] <;> rfl), hb⟩
 | true =>
  rw [hf] at HFL
  go_upto_region 3 with (first | (refine zlo rfl 2 (.tmp 3) rfl _ rfl 2 ((.int .i64 p)) (B0) _ Try.underlying2 rfl ?_) | (refine zla (.tmp 4) B1 Try.underlying28 Try.size28 ?_) | (go_at_call 97; refine (HFL.out _).mono ?_; rintro e W2 ⟨rfl, hW2⟩; replace B0 := B0.zw hW2; replace B1 := B1.zw hW2; replace hb := (hb).trans (hW2.mono (hb).size)))
  have HF := Lib.hid hf
  clear hf HFL
  go_wp2_with fail
  go_loopw [17] (fun c wr => ∃ j : Nat, c = .int .i64 (j : Int) ∧ j ≤ Ls.length ∧ Hid (∀ (i : Nat) (R : List (Nat → Nat)), i < j → Ls[i]? = some R → rsA p m R = true) ∧ Below w.heap.size w wr ∧ One wr (w.heap.size) 2 (.int .i64 p) ∧ Blk wr (w.heap.size + 1) 64 28 (m)) (fun c _ => Ls.length - (intOf c).toNat)
  case atStart => exact ⟨0, rfl, Nat.zero_le _, Lib.hid (fun i x hi => absurd hi (Nat.not_lt_zero _)), hb, B0, B1⟩
  case round =>
   clear hb B0 B1
   obtain ⟨j, rfl, hjn, hG, hb, B0, B1⟩ := hrel
   by_cases hj : j < Ls.length
   · have hjI : (j : Int) < (Ls.length : Int) := by omega
     obtain ⟨R, hx⟩ : ∃ R, Ls[j]? = some R := ⟨_, List.getElem?_eq_getElem hj⟩
     obtain ⟨base, a1, c1, hv1, hL⟩ := HV.out.at hx
     obtain ⟨hby, hlen⟩ := HLB.out R (List.mem_of_getElem? hx)
     rcases HROW.out with he | ⟨b, rfl, hR⟩
     · exfalso; have h9 := HVL.out; rw [he] at h9; simp at h9; omega
     have hRW : Row wr b 30 vs.toArray := hR.zw hb
     have hat : vs.toArray[j]? = some (.slice a1 R.length c1) := by simpa using hv1
     have HC := Lib.hid (fun W (hW : Below w.heap.size w W) (A0 : One W (w.heap.size) 2 (.int .i64 p)) (A1 : Blk W (w.heap.size + 1) 64 28 m) => ContainsFunc_any p m R a1 c1 base (w.heap.size) (w.heap.size + 1) W hm hby hlen (hL.zw hW) A0 A1)
     obtain ⟨r, hr⟩ : ∃ r, r = rsA p m R := ⟨_, rfl⟩
     rw [← hr] at HC
     have HR := Lib.hid hr
     have HX := Lib.hid hx
     clear hr hx hR hv1 hL hby
     cases r with
     | false =>
      go_wp2_with (first | (refine wpList_load_rowc rfl 30 (.tmp 19) rfl b j rfl 30 _ hRW _ hat _ Try.underlying30 rfl ?_) | (go_at_call 100; refine (HC.out _ hb B0 B1).mono ?_; rintro e W5 ⟨rfl, h5⟩; replace B0 := B0.zw h5; replace B1 := B1.zw h5; replace hb := hb.trans (h5.mono hb.size)))
      go_ret
      exact ⟨(by rw [ckR_no HX.out HR.out.symm] <;> rfl), hb⟩
     | true =>
      go_wp2_with (first | (refine wpList_load_rowc rfl 30 (.tmp 19) rfl b j rfl 30 _ hRW _ hat _ Try.underlying30 rfl ?_) | (go_at_call 100; refine (HC.out _ hb B0 B1).mono ?_; rintro e W5 ⟨rfl, h5⟩; replace B0 := B0.zw h5; replace B1 := B1.zw h5; replace hb := hb.trans (h5.mono hb.size)))
      go_roundw
      case rel => exact ⟨j + 1, by go_num, by omega, Lib.hid (fun i y hi hy => by
       by_cases e : i = j
       · subst e; have := HX.out; rw [hy] at this; injection this with this; rw [this]; exact HR.out.symm
       · exact hG.out i y (by omega) hy), hb, B0, B1⟩
      case measure => simp [intOf] <;> omega
   · have hjI : ¬ (j : Int) < (Ls.length : Int) := by omega
     go_wp2_with fail
     go_ret
     exact ⟨(by rw [ckR_yes HF.out (fun i x hx => hG.out i x (by have := (List.getElem?_eq_some_iff.1 hx).1; omega) hx)] <;> rfl), hb⟩
set_option maxRecDepth 100000 in
set_option maxHeartbeats 3200000 in
theorem l03Residues_any (p : Int) (m : Nat → Nat) (hm : byte m) (R : List (Nat → Nat)) (a : Option Addr) (cap base : Nat) (w : World) (hLb : ∀ x, x ∈ R → byte x) (hlen : (R.length : Int) ≤ 1048576) (hL : SlL w base 28 64 (.slice a R.length cap) (plR R)) :
 Calls Try.prog 53 #[.int .i64 p, .agg (zb 64 m), .slice a R.length cap] w fun e w' => e = .returned (.int .i64 (ckR p m [R])) ∧ Below w.heap.size w w' := by
 have HFL := Lib.hid (fun W => l03Field_any p m hm W)
 have HRS := Lib.hid (fun x (hx : byte x) W => l03Residue_any p m x hm hx W)
 have HLB := Lib.hid hLb
 clear hLb
 go_enter Try.func53, Try.ntmps53
 go_upto_region 1 with (fail)
 obtain ⟨W1, hwo⟩ : ∃ v : World, v = (w.alloc (.cells (zb 64 (m)) 28)) := ⟨_, rfl⟩
 have B0 : Blk W1 (w.heap.size) 64 28 (m) := by subst hwo; have := (Blk.new w 64 28 (m)); simpa using this
 have hb : Below w.heap.size w W1 := by subst hwo; exact ((Below.refl _ _).alloc (Nat.le_refl _) _)
 rw [← hwo]
 clear hwo
 cases hf : flV p m with
 | false =>
  rw [hf] at HFL
  go_upto_region 2 with (first | (refine zla (.tmp 4) B0 Try.underlying28 Try.size28 ?_) | (go_at_call 94; refine (HFL.out _).mono ?_; rintro e W2 ⟨rfl, hW2⟩; replace B0 := B0.zw hW2; replace hb := (hb).trans (hW2.mono (hb).size)))
  go_wp2_with fail
  go_ret
  exact ⟨(by rw [ckR_f hf] <;> rfl), hb⟩
 | true =>
  rw [hf] at HFL
  go_upto_region 3 with (first | (refine zla (.tmp 4) B0 Try.underlying28 Try.size28 ?_) | (go_at_call 94; refine (HFL.out _).mono ?_; rintro e W2 ⟨rfl, hW2⟩; replace B0 := B0.zw hW2; replace hb := (hb).trans (hW2.mono (hb).size)))
  have HF := Lib.hid hf
  clear hf HFL
  go_wp2_with fail
  go_loopw [7] (fun c wr => ∃ j : Nat, c = .int .i64 (j : Int) ∧ j ≤ R.length ∧ Hid (∀ (i : Nat) (x : Nat → Nat), i < j → R[i]? = some x → rsB p m x = true) ∧ Below w.heap.size w wr ∧ Blk wr (w.heap.size) 64 28 (m)) (fun c _ => R.length - (intOf c).toNat)
  case atStart => exact ⟨0, rfl, Nat.zero_le _, Lib.hid (fun i x hi => absurd hi (Nat.not_lt_zero _)), hb, B0⟩
  case round =>
   clear hb B0
   obtain ⟨j, rfl, hjn, hG, hb, B0⟩ := hrel
   by_cases hj : j < R.length
   · have hjI : (j : Int) < (R.length : Int) := by omega
     obtain ⟨x, hx⟩ : ∃ x, R[j]? = some x := ⟨_, List.getElem?_eq_getElem hj⟩
     obtain ⟨g, rfl⟩ := hL.some (by rw [plR_len]; omega)
     have hrow := plR_at hx
     have HN := Lib.hid (HRS.out x (HLB.out x (List.mem_of_getElem? hx)))
     obtain ⟨r, hr⟩ : ∃ r, r = rsB p m x := ⟨_, rfl⟩
     rw [← hr] at HN
     have HR := Lib.hid hr
     have HX := Lib.hid hx
     clear hr hx
     cases r with
     | false =>
      go_upto_region 6 with (fail)
      refine zq Try.mixed (by kernel_rfl) (by kernel_rfl) (fun v => by (simp only [frL, Act.put, pA, pB, pC, Nat.reduceAdd, Nat.zero_add]; exact rfl))
       (fun L v W3 => Below wr.heap.size wr W3 ∧ VF L v [some (.int .i64 p), some (.agg (zb 64 (m))), some (.slice (some ⟨g, 0, none⟩) R.length cap), some (.int .i64 (j : Int)), some (.pointer (some ⟨g, j * 64, none⟩)), some (.agg (zb 64 (x))), some (.bool false), some (.bool true)]) ?_ ?_ ?_
      · intro v hv0
        exact ⟨(Below.refl _ wr).drew, VF.start⟩
      · refine (.cons rfl ?_ (.cons rfl ?_ (.cons rfl ?_ (.cons rfl ?_ (.cons rfl ?_ (.cons rfl ?_ (.cons rfl ?_ (.cons rfl ?_ (.nil _)))))))))
        all_goals intro L v W3 hd hn ⟨hY, V⟩ K hK
        · go_wp2_with fail
          exact hK _ (.int .i64 p) _ (by simp only [Act.put, pA, pB, pC ]) ⟨hY, V.step 0 rfl⟩
        · refine zlc (B0.zw hY) Try.underlying28 Try.size28 ?_
          exact hK _ _ _ rfl ⟨hY, V.step 1 rfl⟩
        · go_wp2_with fail
          exact hK _ (.slice (some ⟨g, 0, none⟩) R.length cap) _ (by simp only [Act.put, pA, pB, pC ]) ⟨hY, V.step 2 rfl⟩
        · go_wp2_with fail
          exact hK _ (.int .i64 (j : Int)) _ (by simp only [Act.put, pA, pB, pC ]) ⟨hY, V.step 3 rfl⟩
        · have e2 := V.at (zdq hd 2 rfl) rfl
          have e3 := V.at (zdq hd 3 rfl) rfl
          go_wp2_with fail
          exact hK _ (.pointer (some ⟨g, j * 64, none⟩)) _ (by simp only [Act.put, pA, pB, pC, e2, e3]) ⟨hY, V.step 4 rfl⟩
        · have e4 := V.at (zdq hd 4 rfl) rfl
          refine wp_load_mid 28 _ rfl _ (j * 64) e4 _ _ ((hL.below (by first | exact hB | exact hb.trans (hY.mono hb.size)) hL.lt).range hrow) Try.underlying28 rfl (by rw [zl]; exact Try.size28) ?_
          exact hK _ _ _ rfl ⟨hY, V.step 5 rfl⟩
        · have e0 := V.at (zdq hd 0 rfl) rfl
          have e1 := V.at (zdq hd 1 rfl) rfl
          have e5 := V.at (zdq hd 5 rfl) rfl
          go_wp2_with (go_at_call 95; refine (HN.out _).mono ?_; rintro e wy ⟨rfl, hy⟩)
          exact hK _ (.bool false) _ (by simp only [Act.put, pA, pB, pC, e0, e1, e5]) ⟨hY.trans (hy.mono hY.size), V.step 6 rfl⟩
        · have e6 := V.at (zdq hd 6 rfl) rfl
          go_wp2_with fail
          exact hK _ (.bool true) _ (by simp only [Act.put, pA, pB, pC, e6]) ⟨hY, V.step 7 rfl⟩
      · intro L v W3 hL ⟨hY, V⟩
        have e0 := V.at (hL 0 (by decide)) rfl
        have e1 := V.at (hL 1 (by decide)) rfl
        have e2 := V.at (hL 2 (by decide)) rfl
        have e3 := V.at (hL 3 (by decide)) rfl
        have e4 := V.at (hL 4 (by decide)) rfl
        have e5 := V.at (hL 5 (by decide)) rfl
        have e6 := V.at (hL 6 (by decide)) rfl
        have e7 := V.at (hL 7 (by decide)) rfl
        clear hL V
        replace B0 := B0.zw hY
        replace hb := hb.trans (hY.mono hb.size)
        clear hY
        simp only [Exit.then, e0, e1, e2, e3, e4, e5, e6, e7]
        clear e0 e1 e2 e3 e4 e5 e6 e7
        go_wp2_with fail
        go_ret
        exact ⟨(by rw [ckR_no (j := 0) rfl (rsA_no HX.out HR.out.symm)] <;> rfl), hb⟩
     | true =>
      go_upto_region 6 with (fail)
      refine zq Try.mixed (by kernel_rfl) (by kernel_rfl) (fun v => by (simp only [frL, Act.put, pA, pB, pC, Nat.reduceAdd, Nat.zero_add]; exact rfl))
       (fun L v W3 => Below wr.heap.size wr W3 ∧ VF L v [some (.int .i64 p), some (.agg (zb 64 (m))), some (.slice (some ⟨g, 0, none⟩) R.length cap), some (.int .i64 (j : Int)), some (.pointer (some ⟨g, j * 64, none⟩)), some (.agg (zb 64 (x))), some (.bool true), some (.bool false)]) ?_ ?_ ?_
      · intro v hv0
        exact ⟨(Below.refl _ wr).drew, VF.start⟩
      · refine (.cons rfl ?_ (.cons rfl ?_ (.cons rfl ?_ (.cons rfl ?_ (.cons rfl ?_ (.cons rfl ?_ (.cons rfl ?_ (.cons rfl ?_ (.nil _)))))))))
        all_goals intro L v W3 hd hn ⟨hY, V⟩ K hK
        · go_wp2_with fail
          exact hK _ (.int .i64 p) _ (by simp only [Act.put, pA, pB, pC ]) ⟨hY, V.step 0 rfl⟩
        · refine zlc (B0.zw hY) Try.underlying28 Try.size28 ?_
          exact hK _ _ _ rfl ⟨hY, V.step 1 rfl⟩
        · go_wp2_with fail
          exact hK _ (.slice (some ⟨g, 0, none⟩) R.length cap) _ (by simp only [Act.put, pA, pB, pC ]) ⟨hY, V.step 2 rfl⟩
        · go_wp2_with fail
          exact hK _ (.int .i64 (j : Int)) _ (by simp only [Act.put, pA, pB, pC ]) ⟨hY, V.step 3 rfl⟩
        · have e2 := V.at (zdq hd 2 rfl) rfl
          have e3 := V.at (zdq hd 3 rfl) rfl
          go_wp2_with fail
          exact hK _ (.pointer (some ⟨g, j * 64, none⟩)) _ (by simp only [Act.put, pA, pB, pC, e2, e3]) ⟨hY, V.step 4 rfl⟩
        · have e4 := V.at (zdq hd 4 rfl) rfl
          refine wp_load_mid 28 _ rfl _ (j * 64) e4 _ _ ((hL.below (by first | exact hB | exact hb.trans (hY.mono hb.size)) hL.lt).range hrow) Try.underlying28 rfl (by rw [zl]; exact Try.size28) ?_
          exact hK _ _ _ rfl ⟨hY, V.step 5 rfl⟩
        · have e0 := V.at (zdq hd 0 rfl) rfl
          have e1 := V.at (zdq hd 1 rfl) rfl
          have e5 := V.at (zdq hd 5 rfl) rfl
          go_wp2_with (go_at_call 95; refine (HN.out _).mono ?_; rintro e wy ⟨rfl, hy⟩)
          exact hK _ (.bool true) _ (by simp only [Act.put, pA, pB, pC, e0, e1, e5]) ⟨hY.trans (hy.mono hY.size), V.step 6 rfl⟩
        · have e6 := V.at (zdq hd 6 rfl) rfl
          go_wp2_with fail
          exact hK _ (.bool false) _ (by simp only [Act.put, pA, pB, pC, e6]) ⟨hY, V.step 7 rfl⟩
      · intro L v W3 hL ⟨hY, V⟩
        have e0 := V.at (hL 0 (by decide)) rfl
        have e1 := V.at (hL 1 (by decide)) rfl
        have e2 := V.at (hL 2 (by decide)) rfl
        have e3 := V.at (hL 3 (by decide)) rfl
        have e4 := V.at (hL 4 (by decide)) rfl
        have e5 := V.at (hL 5 (by decide)) rfl
        have e6 := V.at (hL 6 (by decide)) rfl
        have e7 := V.at (hL 7 (by decide)) rfl
        clear hL V
        replace B0 := B0.zw hY
        replace hb := hb.trans (hY.mono hb.size)
        clear hY
        simp only [Exit.then, e0, e1, e2, e3, e4, e5, e6, e7]
        clear e0 e1 e2 e3 e4 e5 e6 e7
        go_wp2_with fail
        go_roundw
        case rel => exact ⟨j + 1, by go_num, by omega, Lib.hid (fun i y hi hy => by
         by_cases e : i = j
         · subst e; have := HX.out; rw [hy] at this; injection this with this; rw [this]; exact HR.out.symm
         · exact hG.out i y (by omega) hy), hb, B0⟩
        case measure => simp [intOf] <;> omega
   · have hjI : ¬ (j : Int) < (R.length : Int) := by omega
     go_wp2_with fail
     go_ret
     exact ⟨(by rw [ckR_yes HF.out (fun i y hy => by
      have h1 : i = 0 := by have := (List.getElem?_eq_some_iff.1 hy).1; simp at this; omega
      subst h1
      have h2 : R = y := by simpa using hy
      subst h2
      exact rsA_yes (fun i x hx => hG.out i x (by have := (List.getElem?_eq_some_iff.1 hx).1; omega) hx))] <;> rfl), hb⟩
end Go.Proofs.Ytelgefgphhebnaa
end
section
namespace Go.Proofs.Ytelgefgphhebnaa
open Go Go.RowKit
set_option linter.unusedVariables false
set_option linter.unusedSimpArgs false
attribute [local irreducible] deg addK strP frI frN mmP pmP resP
set_option maxRecDepth 100000 in
set_option maxHeartbeats 1600000 in
theorem kproduct_any (p : Nat) (m f g : Nat → Nat) (w : World) (hpr : p = 2 ∨ p = 3 ∨ p = 5 ∨ p = 7) (lm : ∀ k, k < 64 → m k < p) (h0 : 0 ≤ deg m) (lf : ∀ k, k < 64 → f k < p) (lg : ∀ k, k < 64 → g k < p) :
 Calls Try.prog 122 #[.agg (fdC (p : Int) m).toArray, .agg (zb 64 f), .agg (zb 64 g)] w fun e w' => e = .returned (.agg (zb 64 (mmP p f g m))) ∧ Below w.heap.size w w' := by
 have HRP := Lib.hid (fun W => restOfProduct_any p f g m W hpr lf lg lm h0)
 go_enter Try.func122, Try.ntmps122
 go_upto_region 1 with (fail)
 rw [← z64]
 obtain ⟨W1, hwo⟩ : ∃ v : World, v = ((((w.alloc (.cells (fdC (p : Int) m).toArray 70)).alloc (.cells (zb 64 (f)) 28)).alloc (.cells (zb 64 (g)) 28)).alloc (.cells (zb 64 (fun _ => 0)) 28)) := ⟨_, rfl⟩
 have B0 : Row W1 (w.heap.size) 70 (fdC (p : Int) m).toArray := by subst hwo; have := ((((Row.new w 70 (fdC (p : Int) m).toArray).alloc (.cells (zb 64 (f)) 28)).alloc (.cells (zb 64 (g)) 28)).alloc (.cells (zb 64 (fun _ => 0)) 28)); simpa using this
 have B1 : Blk W1 (w.heap.size + 1) 64 28 (f) := by subst hwo; have := (((Blk.new (w.alloc (.cells (fdC (p : Int) m).toArray 70)) 64 28 (f)).alloc (.cells (zb 64 (g)) 28)).alloc (.cells (zb 64 (fun _ => 0)) 28)); simpa using this
 have B2 : Blk W1 (w.heap.size + 1 + 1) 64 28 (g) := by subst hwo; have := ((Blk.new ((w.alloc (.cells (fdC (p : Int) m).toArray 70)).alloc (.cells (zb 64 (f)) 28)) 64 28 (g)).alloc (.cells (zb 64 (fun _ => 0)) 28)); simpa using this
 have B3 : Blk W1 (w.heap.size + 1 + 1 + 1) 64 28 (fun _ => 0) := by subst hwo; have := (Blk.new (((w.alloc (.cells (fdC (p : Int) m).toArray 70)).alloc (.cells (zb 64 (f)) 28)).alloc (.cells (zb 64 (g)) 28)) 64 28 (fun _ => 0)); simpa using this
 have hb : Below w.heap.size w W1 := by subst hwo; exact (((((Below.refl _ _).alloc (Nat.le_refl _) _).alloc (by simp) _).alloc (by simp; omega) _).alloc (by simp; omega) _)
 rw [← hwo]
 clear hwo
 have cc := B0.cell (i := 0) (v := .int .i64 (p : Int)) (fdC_at (p : Int) m)
 have lt_B0 := B0.lt
 have lt_B1 := B1.lt
 have lt_B2 := B2.lt
 have lt_B3 := B3.lt
 go_wp2_with (first | rw [← z64] | (refine zla (.tmp 4) B1 Try.underlying28 Try.size28 ?_) | (refine zla (.tmp 5) B2 Try.underlying28 Try.size28 ?_) | (refine wpList_load_mid rfl 28 (.tmp 11) rfl _ 1 rfl (bl 64 m) _ (B0.fd) Try.underlying28 rfl (by rw [zl]; exact Try.size28) ?_) | (go_at_call 150; refine (HRP.out _).mono ?_; rintro e W2 ⟨rfl, hW2⟩; replace B0 := B0.zw hW2; replace B1 := B1.zw hW2; replace B2 := B2.zw hW2; replace B3 := B3.zw hW2; replace hb := (hb).trans (hW2.mono (hb).size)) | (refine zsr (.tmp 6) (.tmp 13) (mmP p f g m) B3 Try.size28 ?_; try simp only [Act.put]))
 obtain ⟨W3, hwo, hzQ⟩ : ∃ v : World, v = (W2.setRow (w.heap.size + 1 + 1 + 1) (zb 64 (mmP p f g m))) ∧ Row v (w.heap.size) 70 (fdC (p : Int) m).toArray ∧ Blk v (w.heap.size + 1) 64 28 (f) ∧ Blk v (w.heap.size + 1 + 1) 64 28 (g) ∧ Blk v (w.heap.size + 1 + 1 + 1) 64 28 (mmP p f g m) ∧ Below w.heap.size w v := ⟨_, rfl, (B0.rowOther (by omega)), (B1.rowOther (by omega)), (B2.rowOther (by omega)), (B3.row (mmP p f g m)), (zr hb (by omega) _)⟩
 rw [← hwo]
 clear hwo B0 B1 B2 B3 hb
 obtain ⟨B0, B1, B2, B3, hb⟩ := hzQ
 try simp only [Act.put, pA, pB, pC]
 refine bodyPost_ret (zrb rfl _ _ _ 64 28 5 _ rfl B3 Try.underlying28 Try.size28) rfl ⟨rfl, hb⟩
set_option maxRecDepth 100000 in
set_option maxHeartbeats 1600000 in
theorem kfrob_any (p : Nat) (m x : Nat → Nat) (n : Nat) (w : World) (hpr : p = 2 ∨ p = 3 ∨ p = 5 ∨ p = 7) (lm : ∀ k, k < 64 → m k < p) (d : Nat) (hd : deg m = (d : Int)) (hd1 : 1 ≤ d) (hd9 : d ≤ 9) (hn : n ≤ 1000) (hx : rsd p m x) :
 Calls Try.prog 93 #[.agg (fdC (p : Int) m).toArray, .agg (zb 64 x), .int .i64 (n : Int)] w fun e w' => e = .returned (.agg (zb 64 (frN p m x (n % d)))) ∧ Below w.heap.size w w' := by
 have p0 : 0 < p := by omega
 have h0 : 0 ≤ deg m := by omega
 have h9 : deg m ≤ 9 := by omega
 obtain ⟨M, hM⟩ : ∃ M, M = n % d := ⟨_, rfl⟩
 have hMd : M < d := by rw [hM]; exact Nat.mod_lt _ (by omega)
 have tq1 : (n : Int).tmod (d : Int) = (M : Int) := by rw [Int.tmod_eq_emod_of_nonneg (by omega), hM]; rfl
 have tq2 : ((M : Int) + (d : Int)).tmod (d : Int) = (M : Int) := by
  rw [Int.tmod_eq_emod_of_nonneg (by omega), Int.add_emod_right]
  exact Int.emod_eq_of_lt (by omega) (by omega)
 have HM := Lib.hid hM
 rw [← hM]
 clear hM
 have HD := Lib.hid hd
 have hdz : ¬ (d : Int) = 0 := by omega
 have HZ := Lib.hid (frN_z p m x)
 have HS := Lib.hid (frN_s p m x)
 have HR := Lib.hid (fun j => (frN_ok hpr lm h0 h9 hx j).1)
 have HST := Lib.hid (fun (y : Nat → Nat) (hy : rsd p m y) W => stretched_any p y W (by omega) (by omega) (fun k hk => by have := hy.1 k hk; omega) (by have := hy.2; rcases hpr with rfl | rfl | rfl | rfl <;> omega))
 have HRO := Lib.hid (show ∀ y, rsd p m y → ∀ W, Calls Try.prog 66 #[.int .i64 (p : Int), .agg (zb 64 (strP p y)), .agg (zb 64 m)] W fun e w' => e = .returned (.agg (zb 64 (frI p m y))) ∧ Below W.heap.size W w' from fun y hy W => by
  have h := restOf_any p (strP p y) m W hpr (strP_lt p0 (by omega) hy.1) lm h0
  unfold frI; exact h)
 have HDG := Lib.hid (fun W => degree_any m W)
 rw [hd] at HDG
 clear hd h0 h9 hx
 go_enter Try.func93, Try.ntmps93
 go_upto_region 1 with (fail)
 rw [← z64]
 obtain ⟨W1, hwo⟩ : ∃ v : World, v = (((w.alloc (.cells (fdC (p : Int) m).toArray 70)).alloc (.cells (zb 64 (x)) 28)).alloc (.cells (zb 64 (fun _ => 0)) 28)) := ⟨_, rfl⟩
 have B0 : Row W1 (w.heap.size) 70 (fdC (p : Int) m).toArray := by subst hwo; have := (((Row.new w 70 (fdC (p : Int) m).toArray).alloc (.cells (zb 64 (x)) 28)).alloc (.cells (zb 64 (fun _ => 0)) 28)); simpa using this
 have B1 : Blk W1 (w.heap.size + 1) 64 28 (x) := by subst hwo; have := ((Blk.new (w.alloc (.cells (fdC (p : Int) m).toArray 70)) 64 28 (x)).alloc (.cells (zb 64 (fun _ => 0)) 28)); simpa using this
 have B2 : Blk W1 (w.heap.size + 1 + 1) 64 28 (fun _ => 0) := by subst hwo; have := (Blk.new ((w.alloc (.cells (fdC (p : Int) m).toArray 70)).alloc (.cells (zb 64 (x)) 28)) 64 28 (fun _ => 0)); simpa using this
 have hb : Below w.heap.size w W1 := by subst hwo; exact ((((Below.refl _ _).alloc (Nat.le_refl _) _).alloc (by simp) _).alloc (by simp; omega) _)
 rw [← hwo]
 clear hwo
 go_upto_region 2 with (first | (refine wpList_load_mid rfl 28 (.tmp 8) rfl _ 1 rfl (bl 64 m) _ (B0.fd) Try.underlying28 rfl (by rw [zl]; exact Try.size28) ?_) | (go_at_call 77; refine (HDG.out _).mono ?_; rintro e W2 ⟨rfl, hW2⟩; replace B0 := B0.zw hW2; replace B1 := B1.zw hW2; replace B2 := B2.zw hW2; replace hb := (hb).trans (hW2.mono (hb).size)))
 go_wp2_with fail
 go_loopw [18] (fun c wr => ∃ j : Nat, c = .int .i64 (j : Int) ∧ j ≤ M ∧ Below w.heap.size w wr ∧ Row wr (w.heap.size) 70 (fdC (p : Int) m).toArray ∧ Blk wr (w.heap.size + 1) 64 28 (frN p m x j) ∧ Blk wr (w.heap.size + 1 + 1) 64 28 (fun _ => 0)) (fun c _ => M - (intOf c).toNat)
 case atStart => exact ⟨0, rfl, Nat.zero_le _, hb, B0, by rw [HZ.out]; exact B1, B2⟩
 case round =>
  clear hb B0 B1 B2
  obtain ⟨j, rfl, hjM, hb, B0, B1, B2⟩ := hrel
  by_cases hj : j < M
  · have hjI : (j : Int) < (M : Int) := by omega
    have HR1 := Lib.hid (HR.out j)
    have HS1 := Lib.hid (HST.out _ HR1.out)
    have HS2 := Lib.hid (HRO.out _ HR1.out)
    go_upto_region 4 with (fail)
    have lt_B0 : (w.heap.size) < wr.heap.size := B0.lt
    have lt_B1 : (w.heap.size + 1) < wr.heap.size := B1.lt
    have lt_B2 : (w.heap.size + 1 + 1) < wr.heap.size := B2.lt
    have hbase : w.heap.size ≤ wr.heap.size := hb.size
    refine zq Try.mixed (by kernel_rfl) (by kernel_rfl) (fun v => by (simp only [frL, Act.put, pA, pB, pC, Nat.reduceAdd, Nat.zero_add]; exact rfl))
     (fun L v W3 => Below w.heap.size w W3 ∧ Kx [w.heap.size + 1] wr W3 ∧ (∃ g, Blk W3 (w.heap.size + 1) 64 28 (g)) ∧ (L 9 = false → Blk W3 (w.heap.size + 1) 64 28 (frN p m x j)) ∧ (L 9 = true → Blk W3 (w.heap.size + 1) 64 28 (frI p m (frN p m x j))) ∧ VF L v [some (.pointer (some ⟨w.heap.size, 0, none⟩)), some (.int .i64 (p : Int)), some (.agg (zb 64 (frN p m x j))), some (.pointer (some ⟨w.heap.size, 0, none⟩)), some (.int .i64 (p : Int)), some (.agg (zb 64 (strP p (frN p m x j)))), some (.pointer (some ⟨w.heap.size, 1, none⟩)), some (.agg (zb 64 (m))), some (.agg (zb 64 (frI p m (frN p m x j)))), none]) ?_ ?_ ?_
    · intro v hv0
      exact ⟨hb.drew, Kx.start _ _, ⟨_, B1.drew⟩, (fun _ => B1.drew), (fun h => by cases h), VF.start⟩
    · refine (.cons rfl ?_ (.cons rfl ?_ (.cons rfl ?_ (.cons rfl ?_ (.cons rfl ?_ (.cons rfl ?_ (.cons rfl ?_ (.cons rfl ?_ (.cons rfl ?_ (.cons rfl ?_ (.nil _)))))))))))
      all_goals intro L v W3 hd hn ⟨hB, hX, x1, q1, n1, V⟩ K hK
      · go_wp2_with fail
        exact hK _ (.pointer (some ⟨w.heap.size, 0, none⟩)) _ (by simp only [Act.put, pA, pB, pC ]) ⟨hB, hX, x1, q1, n1, V.step 0 rfl⟩
      · have e0 := V.at (zdq hd 0 rfl) rfl
        have cc := (B0.kx hX (by simp <;> omega)).cell (i := 0) (v := .int .i64 (p : Int)) (fdC_at (p : Int) m)
        go_wp2_with fail
        exact hK _ (.int .i64 (p : Int)) _ (by simp only [Act.put, pA, pB, pC, e0]) ⟨hB, hX, x1, q1, n1, V.step 1 rfl⟩
      · have s1 := q1 (by
         cases hL : L 9 with
         | false => rfl
         | true => exact absurd rfl (hn 9 _ rfl hL ⟨2, .phase⟩ (by simp) rfl))
        refine zlc s1 Try.underlying28 Try.size28 ?_
        exact hK _ _ _ rfl ⟨hB, hX, x1, q1, n1, V.step 2 rfl⟩
      · go_wp2_with fail
        exact hK _ (.pointer (some ⟨w.heap.size, 0, none⟩)) _ (by simp only [Act.put, pA, pB, pC ]) ⟨hB, hX, x1, q1, n1, V.step 3 rfl⟩
      · have e3 := V.at (zdq hd 3 rfl) rfl
        have cc := (B0.kx hX (by simp <;> omega)).cell (i := 0) (v := .int .i64 (p : Int)) (fdC_at (p : Int) m)
        go_wp2_with fail
        exact hK _ (.int .i64 (p : Int)) _ (by simp only [Act.put, pA, pB, pC, e3]) ⟨hB, hX, x1, q1, n1, V.step 4 rfl⟩
      · have e2 := V.at (zdq hd 2 rfl) rfl
        have e4 := V.at (zdq hd 4 rfl) rfl
        go_wp2_with (go_at_call 132; refine (HS1.out _).mono ?_; rintro e wy ⟨rfl, hy⟩)
        exact hK _ (.agg (zb 64 (strP p (frN p m x j)))) _ (by simp only [Act.put, pA, pB, pC, e2, e4]) ⟨hB.trans (hy.mono hB.size), hX.below hy, (let ⟨g, h⟩ := x1; ⟨g, h.zw hy⟩), (fun h => (q1 h).below hy (q1 h).lt), (fun h => (n1 h).below hy (n1 h).lt), V.step 5 rfl⟩
      · go_wp2_with fail
        exact hK _ (.pointer (some ⟨w.heap.size, 1, none⟩)) _ (by simp only [Act.put, pA, pB, pC ]) ⟨hB, hX, x1, q1, n1, V.step 6 rfl⟩
      · have e6 := V.at (zdq hd 6 rfl) rfl
        refine wp_load_mid 28 _ rfl _ 1 e6 _ _ ((B0.kx hX (by simp <;> omega)).fd) Try.underlying28 rfl (by rw [zl]; exact Try.size28) ?_
        exact hK _ _ _ rfl ⟨hB, hX, x1, q1, n1, V.step 7 rfl⟩
      · have e1 := V.at (zdq hd 1 rfl) rfl
        have e5 := V.at (zdq hd 5 rfl) rfl
        have e7 := V.at (zdq hd 7 rfl) rfl
        go_wp2_with (go_at_call 66; refine (HS2.out _).mono ?_; rintro e wy ⟨rfl, hy⟩)
        exact hK _ (.agg (zb 64 (frI p m (frN p m x j)))) _ (by simp only [Act.put, pA, pB, pC, e1, e5, e7]) ⟨hB.trans (hy.mono hB.size), hX.below hy, (let ⟨g, h⟩ := x1; ⟨g, h.zw hy⟩), (fun h => (q1 h).below hy (q1 h).lt), (fun h => (n1 h).below hy (n1 h).lt), V.step 8 rfl⟩
      · have e8 := V.at (zdq hd 8 rfl) rfl
        obtain ⟨gz, hk⟩ := x1
        refine zsb 28 _ _ rfl _ 64 (frI p m (frN p m x j)) rfl e8 28 gz hk Try.size28 ?_
        exact hK _ undef _ rfl ⟨zr hB (by omega) _, hX.row (by simp) _, ⟨_, hk.row _⟩, (fun h => absurd h (by simp [setL])), (fun _ => hk.row _), V.skip 9 rfl⟩
    · intro L v W3 hL ⟨hB, hX, x1, q1, n1, V⟩
      have r1 := n1 (hL 9 (by decide))
      have e0 := V.at (hL 0 (by decide)) rfl
      have e1 := V.at (hL 1 (by decide)) rfl
      have e2 := V.at (hL 2 (by decide)) rfl
      have e3 := V.at (hL 3 (by decide)) rfl
      have e4 := V.at (hL 4 (by decide)) rfl
      have e5 := V.at (hL 5 (by decide)) rfl
      have e6 := V.at (hL 6 (by decide)) rfl
      have e7 := V.at (hL 7 (by decide)) rfl
      have e8 := V.at (hL 8 (by decide)) rfl
      clear hL x1 q1 n1 V
      replace B0 := B0.kx hX (by simp <;> omega)
      replace B2 := B2.kx hX (by simp <;> omega)
      clear hX
      simp only [Exit.then, e0, e1, e2, e3, e4, e5, e6, e7, e8]
      clear e0 e1 e2 e3 e4 e5 e6 e7 e8
      replace B1 := r1
      clear r1
      replace hb := hB
      clear hB
      clear hbase lt_B0 lt_B1 lt_B2
      go_wp2_with fail
      go_roundw
      case rel => exact ⟨j + 1, by go_num, by omega, hb, B0, by rw [HS.out]; exact B1, B2⟩
      case measure => simp [intOf] <;> omega
  · have hjI : ¬ (j : Int) < (M : Int) := by omega
    obtain rfl : j = M := by omega
    go_upto_region 6 with (fail)
    have lt_B0 := B0.lt
    have lt_B1 := B1.lt
    have lt_B2 := B2.lt
    go_wp2_with (first | rw [← z64] | (refine zla (.tmp 4) B1 Try.underlying28 Try.size28 ?_) | (refine zsr (.tmp 6) (.tmp 30) (frN p m x j) B2 Try.size28 ?_; try simp only [Act.put]))
    obtain ⟨W3, hwo, hzQ⟩ : ∃ v : World, v = (wr.setRow (w.heap.size + 1 + 1) (zb 64 (frN p m x j))) ∧ Row v (w.heap.size) 70 (fdC (p : Int) m).toArray ∧ Blk v (w.heap.size + 1) 64 28 (frN p m x j) ∧ Blk v (w.heap.size + 1 + 1) 64 28 (frN p m x j) ∧ Below w.heap.size w v := ⟨_, rfl, (B0.rowOther (by omega)), (B1.rowOther (by omega)), (B2.row (frN p m x j)), (zr hb (by omega) _)⟩
    rw [← hwo]
    clear hwo B0 B1 B2 hb
    obtain ⟨B0, B1, B2, hb⟩ := hzQ
    try simp only [Act.put, pA, pB, pC]
    refine bodyPost_ret (zrb rfl _ _ _ 64 28 5 _ rfl B2 Try.underlying28 Try.size28) rfl ⟨rfl, hb⟩
set_option maxRecDepth 100000 in
set_option maxHeartbeats 1600000 in
theorem l03Frobenius_any (p : Nat) (m x : Nat → Nat) (n : Nat) (w : World) (hpr : p = 2 ∨ p = 3 ∨ p = 5 ∨ p = 7) (lm : ∀ k, k < 64 → m k < p) (d : Nat) (hd : deg m = (d : Int)) (hd1 : 1 ≤ d) (hd9 : d ≤ 9) (hn : n ≤ 1000) (hx : rsd p m x) :
 Calls Try.prog 92 #[.int .i64 (p : Int), .agg (zb 64 x), .int .i64 (n : Int), .agg (zb 64 m)] w fun e w' => e = .returned (.agg (zb 64 (frN p m x (n % d)))) ∧ Below w.heap.size w w' := by
 have p0 : 0 < p := by omega
 have h0 : 0 ≤ deg m := by omega
 have h9 : deg m ≤ 9 := by omega
 obtain ⟨M, hM⟩ : ∃ M, M = n % d := ⟨_, rfl⟩
 have hMd : M < d := by rw [hM]; exact Nat.mod_lt _ (by omega)
 have tq1 : (n : Int).tmod (d : Int) = (M : Int) := by rw [Int.tmod_eq_emod_of_nonneg (by omega), hM]; rfl
 rw [← hM]
 clear hM
 have hdz : ¬ (d : Int) = 0 := by omega
 have HZ := Lib.hid (frN_z p m x)
 have HS := Lib.hid (frN_s p m x)
 have HR := Lib.hid (fun j => (frN_ok hpr lm h0 h9 hx j).1)
 have HPM := Lib.hid (show ∀ y, rsd p m y → ∀ W, Calls Try.prog 107 #[.int .i64 (p : Int), .agg (zb 64 y), .int .i64 (p : Int), .agg (zb 64 m)] W fun e w' => e = .returned (.agg (zb 64 (frI p m y))) ∧ Below W.heap.size W w' from fun y hy W => by
  have h := l01PowMod_any p y p m W hpr hy.1 lm h0 (by omega)
  rw [zbc (frI_pm hpr lm h0 h9 hy)] at h; exact h)
 have HDG := Lib.hid (fun W => l01Deg_any m W)
 rw [hd] at HDG
 clear hd h0 h9 hx
 go_enter Try.func92, Try.ntmps92
 go_upto_region 1 with (fail)
 rw [← z64]
 obtain ⟨W1, hwo⟩ : ∃ v : World, v = (((w.alloc (.cells (zb 64 (x)) 28)).alloc (.cells (zb 64 (m)) 28)).alloc (.cells (zb 64 (fun _ => 0)) 28)) := ⟨_, rfl⟩
 have B0 : Blk W1 (w.heap.size) 64 28 (x) := by subst hwo; have := (((Blk.new w 64 28 (x)).alloc (.cells (zb 64 (m)) 28)).alloc (.cells (zb 64 (fun _ => 0)) 28)); simpa using this
 have B1 : Blk W1 (w.heap.size + 1) 64 28 (m) := by subst hwo; have := ((Blk.new (w.alloc (.cells (zb 64 (x)) 28)) 64 28 (m)).alloc (.cells (zb 64 (fun _ => 0)) 28)); simpa using this
 have B2 : Blk W1 (w.heap.size + 1 + 1) 64 28 (fun _ => 0) := by subst hwo; have := (Blk.new ((w.alloc (.cells (zb 64 (x)) 28)).alloc (.cells (zb 64 (m)) 28)) 64 28 (fun _ => 0)); simpa using this
 have hb : Below w.heap.size w W1 := by subst hwo; exact ((((Below.refl _ _).alloc (Nat.le_refl _) _).alloc (by simp) _).alloc (by simp; omega) _)
 rw [← hwo]
 clear hwo
 go_wp2_with (first | (refine zla (.tmp 7) B1 Try.underlying28 Try.size28 ?_) | (go_at_call 106; refine (HDG.out _).mono ?_; rintro e W9 ⟨rfl, hW9⟩; replace B0 := B0.zw hW9; replace B1 := B1.zw hW9; replace B2 := B2.zw hW9; replace hb := hb.trans (hW9.mono hb.size)))
 go_loopw [9] (fun c wr => ∃ i j : Nat, c = .int .i64 (i : Int) ∧ i + j = M ∧ Below w.heap.size w wr ∧ Blk wr (w.heap.size) 64 28 (frN p m x j) ∧ Blk wr (w.heap.size + 1) 64 28 m ∧ Blk wr (w.heap.size + 1 + 1) 64 28 (fun _ => 0)) (fun c _ => (intOf c).toNat)
 case atStart => exact ⟨M, 0, rfl, rfl, hb, by rw [HZ.out]; exact B0, B1, B2⟩
 case round =>
  clear hb B1 B0 B2
  obtain ⟨i, j, rfl, hij, hb, B0, B1, B2⟩ := hrel
  by_cases hj : 0 < i
  · have hjI : (i : Int) > 0 := by omega
    have hjI2 : (0 : Int) < (i : Int) := by omega
    have HR1 := Lib.hid (HR.out j)
    have HS1 := Lib.hid (HPM.out _ HR1.out)
    go_upto_region 4 with (fail)
    have lt_B0 := B0.lt
    have lt_B1 := B1.lt
    have lt_B2 := B2.lt
    go_upto_region 3 with (first | rw [← z64] | (refine zla (.tmp 5) B0 Try.underlying28 Try.size28 ?_) | (refine zla (.tmp 7) B1 Try.underlying28 Try.size28 ?_) | (go_at_call 107; refine (HS1.out _).mono ?_; rintro e W2 ⟨rfl, hW2⟩; replace B0 := B0.zw hW2; replace B1 := B1.zw hW2; replace B2 := B2.zw hW2; replace hb := (hb).trans (hW2.mono (hb).size)) | (refine zsr (.tmp 5) (.tmp 22) (frI p m (frN p m x j)) B0 Try.size28 ?_; try simp only [Act.put]))
    obtain ⟨W3, hwo, hzQ⟩ : ∃ v : World, v = (W2.setRow (w.heap.size) (zb 64 (frI p m (frN p m x j)))) ∧ Blk v (w.heap.size) 64 28 (frI p m (frN p m x j)) ∧ Blk v (w.heap.size + 1) 64 28 (m) ∧ Blk v (w.heap.size + 1 + 1) 64 28 (fun _ => 0) ∧ Below w.heap.size w v := ⟨_, rfl, (B0.row (frI p m (frN p m x j))), (B1.rowOther (by omega)), (B2.rowOther (by omega)), (zr hb (by omega) _)⟩
    rw [← hwo]
    clear hwo B0 B1 B2 hb
    obtain ⟨B0, B1, B2, hb⟩ := hzQ
    try simp only [Act.put, pA, pB, pC]
    obtain ⟨i, rfl⟩ : ∃ q, i = q + 1 := ⟨i - 1, by omega⟩
    go_wp2_with fail
    go_roundw
    case rel => exact ⟨i, j + 1, by go_num, by omega, hb, by rw [HS.out]; exact B0, B1, B2⟩
    case measure => simp [intOf] <;> omega
  · obtain rfl : i = 0 := by omega
    have hjI : ¬ (((0 : Nat) : Int) > 0) := by omega
    obtain rfl : j = M := by omega
    go_upto_region 5 with (fail)
    have lt_B0 := B0.lt
    have lt_B1 := B1.lt
    have lt_B2 := B2.lt
    go_wp2_with (first | rw [← z64] | (refine zla (.tmp 5) B0 Try.underlying28 Try.size28 ?_) | (refine zsr (.tmp 8) (.tmp 23) (frN p m x j) B2 Try.size28 ?_; try simp only [Act.put]))
    obtain ⟨W2, hwo, hzQ⟩ : ∃ v : World, v = (wr.setRow (w.heap.size + 1 + 1) (zb 64 (frN p m x j))) ∧ Blk v (w.heap.size) 64 28 (frN p m x j) ∧ Blk v (w.heap.size + 1) 64 28 (m) ∧ Blk v (w.heap.size + 1 + 1) 64 28 (frN p m x j) ∧ Below w.heap.size w v := ⟨_, rfl, (B0.rowOther (by omega)), (B1.rowOther (by omega)), (B2.row (frN p m x j)), (zr hb (by omega) _)⟩
    rw [← hwo]
    clear hwo B0 B1 B2 hb
    obtain ⟨B0, B1, B2, hb⟩ := hzQ
    try simp only [Act.put, pA, pB, pC]
    refine bodyPost_ret (zrb rfl _ _ _ 64 28 5 _ rfl B2 Try.underlying28 Try.size28) rfl ⟨rfl, hb⟩
end Go.Proofs.Ytelgefgphhebnaa
end
section
namespace Go.Proofs.Ytelgefgphhebnaa
open Go Go.RowKit
set_option linter.unusedVariables false
set_option linter.unusedSimpArgs false
attribute [local irreducible] deg addK strP frI frN mmP pmP resP
set_option maxRecDepth 100000 in
set_option maxHeartbeats 1600000 in
theorem skValue_any (p : Nat) (m : Nat → Nat) (F : Nat → Nat → Nat) (x : Nat → Nat) (w : World) (hpr : p = 2 ∨ p = 3 ∨ p = 5 ∨ p = 7) (lm : ∀ k, k < 64 → m k < p) (d : Nat) (hd : deg m = (d : Int)) (hd1 : 1 ≤ d) (hd9 : d ≤ 9) (lF : ∀ i, i < 8 → ∀ k, k < 64 → F i k < p) (hx : rsd p m x) (hi : irr p (cut m) d) :
 Calls Try.prog 75 #[.agg (zb 512 (fl 64 F)), .agg (fdC (p : Int) m).toArray, .agg (zb 64 x)] w fun e w' => e = .returned (.agg (zb 64 (vlR p m d F x 8))) ∧ Below w.heap.size w w' := by
 have p0 : 0 < p := by omega
 have h0 : 0 ≤ deg m := by omega
 have h9 : deg m ≤ 9 := by omega
 have p2 : 2 ≤ p := by omega
 have p7 : p ≤ 7 := by omega
 obtain ⟨fb1, fb2⟩ := zsd F
 obtain ⟨N, hN⟩ : ∃ N : Nat, skD F = (N : Int) - 1 := ⟨(skD F + 1).toNat, by omega⟩
 have HD := Lib.hid hN
 have hN8 : N ≤ 8 := by omega
 have HX := Lib.hid (fun j => (frN_ok hpr lm h0 h9 hx j).1)
 have HKP := Lib.hid (fun j (hj : j < 8) W => kproduct_any p m (F j) (frN p m x (j % d)) W hpr lm h0 (lF j hj) (HX.out (j % d)).1)
 have HKF := Lib.hid (show ∀ j W, Calls Try.prog 93 #[.agg (fdC (p : Int) m).toArray, .agg (zb 64 (frN p m x (j % d))), .int .i64 1] W fun e w' => e = .returned (.agg (zb 64 (frN p m x ((j + 1) % d)))) ∧ Below W.heap.size W w' from fun j W => by
  have h := kfrob_any p m (frN p m x (j % d)) 1 W hpr lm d hd hd1 hd9 (by omega) (HX.out (j % d))
  rw [zbc (frN_next hpr lm h0 h9 hi hd1 hx j)] at h
  exact h)
 have HSU := Lib.hid (show ∀ j W, Calls Try.prog 117 #[.int .i64 (p : Int), .agg (zb 64 (vlR p m d F x j)), .agg (zb 64 (mmP p (F j) (frN p m x (j % d)) m))] W fun e w' => e = .returned (.agg (zb 64 (vlR p m d F x (j + 1)))) ∧ Below W.heap.size W w' from fun j W => by
  rw [vlR_s, addK_one]; exact sum_any p _ _ W p2 p7 (fun k _ => vlR_lt p0 j k) (fun k hk => mmP_lt p0 k (by omega)))
 have HZ := Lib.hid (vlR_z p m d F x)
 have HZ2 := Lib.hid (show frN p m x (0 % d) = x by rw [Nat.zero_mod, frN_z])
 have HV := Lib.hid (show zb 64 (vlR p m d F x N) = zb 64 (vlR p m d F x 8) from zbc (by
  have h := vlR_tail (d := d) (x := x) hpr lm h0 hN (8 - N) (by omega)
  rwa [show N + (8 - N) = 8 by omega] at h))
 clear hN fb1 fb2 hx hi
 go_enter Try.func75, Try.ntmps75
 go_upto_region 1 with (fail)
 rw [← z64]
 obtain ⟨W1, hwo⟩ : ∃ v : World, v = ((((w.alloc (.cells (zb 512 (fl 64 F)) 46)).alloc (.cells (fdC (p : Int) m).toArray 70)).alloc (.cells (zb 64 (x)) 28)).alloc (.cells (zb 64 (fun _ => 0)) 28)) := ⟨_, rfl⟩
 have B0 : Blk W1 (w.heap.size) 512 46 (fl 64 F) := by subst hwo; have := ((((Blk.new w 512 46 (fl 64 F)).alloc (.cells (fdC (p : Int) m).toArray 70)).alloc (.cells (zb 64 (x)) 28)).alloc (.cells (zb 64 (fun _ => 0)) 28)); simpa using this
 have B1 : Row W1 (w.heap.size + 1) 70 (fdC (p : Int) m).toArray := by subst hwo; have := (((Row.new (w.alloc (.cells (zb 512 (fl 64 F)) 46)) 70 (fdC (p : Int) m).toArray).alloc (.cells (zb 64 (x)) 28)).alloc (.cells (zb 64 (fun _ => 0)) 28)); simpa using this
 have B2 : Blk W1 (w.heap.size + 1 + 1) 64 28 (x) := by subst hwo; have := ((Blk.new ((w.alloc (.cells (zb 512 (fl 64 F)) 46)).alloc (.cells (fdC (p : Int) m).toArray 70)) 64 28 (x)).alloc (.cells (zb 64 (fun _ => 0)) 28)); simpa using this
 have B3 : Blk W1 (w.heap.size + 1 + 1 + 1) 64 28 (fun _ => 0) := by subst hwo; have := (Blk.new (((w.alloc (.cells (zb 512 (fl 64 F)) 46)).alloc (.cells (fdC (p : Int) m).toArray 70)).alloc (.cells (zb 64 (x)) 28)) 64 28 (fun _ => 0)); simpa using this
 have hb : Below w.heap.size w W1 := by subst hwo; exact (((((Below.refl _ _).alloc (Nat.le_refl _) _).alloc (by simp) _).alloc (by simp; omega) _).alloc (by simp; omega) _)
 rw [← hwo]
 clear hwo
 go_upto_region 2 with (first | rw [← z64])
 have lt_B0 := B0.lt
 have lt_B1 := B1.lt
 have lt_B2 := B2.lt
 have lt_B3 := B3.lt
 have lhb := hb.size
 obtain ⟨W2, hwo, hzQ⟩ : ∃ v : World, v = (W1.alloc (.cells (zb 64 (fun _ => 0)) 28)) ∧ Blk v (w.heap.size) 512 46 (fl 64 F) ∧ Row v (w.heap.size + 1) 70 (fdC (p : Int) m).toArray ∧ Blk v (w.heap.size + 1 + 1) 64 28 (x) ∧ Blk v (w.heap.size + 1 + 1 + 1) 64 28 (fun _ => 0) ∧ Blk v (W1.heap.size) 64 28 (fun _ => 0) ∧ Below w.heap.size w v := ⟨_, rfl, (B0.alloc (.cells (zb 64 (fun _ => 0)) 28)), (B1.alloc (.cells (zb 64 (fun _ => 0)) 28)), (B2.alloc (.cells (zb 64 (fun _ => 0)) 28)), (B3.alloc (.cells (zb 64 (fun _ => 0)) 28)), (Blk.new W1 64 28 (fun _ => 0)), (hb.alloc (by have := hb.size; simp; omega) (.cells (zb 64 (fun _ => 0)) 28))⟩
 rw [← hwo]
 clear hwo B0 B1 B2 B3 hb
 obtain ⟨B0, B1, B2, B3, B4, hb⟩ := hzQ
 obtain ⟨N1, hNN⟩ : ∃ n : Nat, n = W1.heap.size := ⟨_, rfl⟩
 rw [← hNN] at lt_B0 lt_B1 lt_B2 lt_B3 lhb B4 ⊢
 clear hNN
 have zN1_0 := lt_B0
 have zN1_1 := lt_B1
 have zN1_2 := lt_B2
 have zN1_3 := lt_B3
 have zN1 := lhb
 clear lt_B0 lt_B1 lt_B2 lt_B3 lhb
 try simp only [Act.put, pA, pB, pC]
 go_upto_region 99 with (first | (refine zla (.tmp 3) B0 Try.underlying46 Try.size46 ?_) | (go_at_call 121; refine (skDegree_any F _).mono ?_; rintro e W3 ⟨rfl, hW3⟩; replace B0 := B0.zw hW3; replace B1 := B1.zw hW3; replace B2 := B2.zw hW3; replace B3 := B3.zw hW3; replace B4 := B4.zw hW3; replace hb := (hb).trans (hW3.mono (hb).size); rw [HD.out]))
 have hcnt : ((N : Int) - 1 + 1) = (N : Int) := by omega
 go_loopw [12] (fun c wr => ∃ j : Nat, c = .int .i64 (j : Int) ∧ j ≤ N ∧ Below w.heap.size w wr ∧ Blk wr (w.heap.size) 512 46 (fl 64 F) ∧ Row wr (w.heap.size + 1) 70 (fdC (p : Int) m).toArray ∧ Blk wr (w.heap.size + 1 + 1) 64 28 (frN p m x (j % d)) ∧ Blk wr (w.heap.size + 1 + 1 + 1) 64 28 (fun _ => 0) ∧ Blk wr (N1) 64 28 (vlR p m d F x j)) (fun c _ => N - (intOf c).toNat)
 case atStart => exact ⟨0, rfl, Nat.zero_le _, hb, B0, B1, by rw [HZ2.out]; exact B2, B3, by rw [HZ.out]; exact B4⟩
 case round =>
  clear hb B0 B1 B2 B3 B4
  obtain ⟨j, rfl, hjN, hb, B0, B1, B2, B3, B4⟩ := hrel
  by_cases hj : j < N
  · have hjI : (j : Int) < (N : Int) - 1 + 1 := by omega
    have hj8 : j < 8 := by omega
    have HK1 := Lib.hid (HKP.out j hj8)
    have HK2 := Lib.hid (HSU.out j)
    have HK3 := Lib.hid (HKF.out j)
    go_upto_region 5 with (fail)
    have lt_B0 : (w.heap.size) < wr.heap.size := B0.lt
    have lt_B1 : (w.heap.size + 1) < wr.heap.size := B1.lt
    have lt_B2 : (w.heap.size + 1 + 1) < wr.heap.size := B2.lt
    have lt_B3 : (w.heap.size + 1 + 1 + 1) < wr.heap.size := B3.lt
    have lt_B4 : (N1) < wr.heap.size := B4.lt
    have hbase : w.heap.size ≤ wr.heap.size := hb.size
    refine zq Try.mixed (by kernel_rfl) (by kernel_rfl) (fun v => by (simp only [frL, Act.put, pA, pB, pC, Nat.reduceAdd, Nat.zero_add]; exact rfl))
     (fun L v W4 => Below w.heap.size w W4 ∧ Kx [N1] wr W4 ∧ (∃ g, Blk W4 (N1) 64 28 (g)) ∧ (L 10 = false → Blk W4 (N1) 64 28 (vlR p m d F x j)) ∧ (L 10 = true → Blk W4 (N1) 64 28 (vlR p m d F x (j + 1))) ∧ VF L v [some (.pointer (some ⟨w.heap.size + 1, 0, none⟩)), some (.int .i64 (p : Int)), some (.agg (zb 64 (vlR p m d F x j))), some (.agg (fdC (p : Int) m).toArray), some (.int .i64 (j : Int)), some (.pointer (some ⟨w.heap.size, j * 64, none⟩)), some (.agg (zb 64 (F j))), some (.agg (zb 64 (frN p m x (j % d)))), some (.agg (zb 64 (mmP p (F j) (frN p m x (j % d)) m))), some (.agg (zb 64 (vlR p m d F x (j + 1)))), none]) ?_ ?_ ?_
    · intro v hv0
      exact ⟨hb.drew, Kx.start _ _, ⟨_, B4.drew⟩, (fun _ => B4.drew), (fun h => by cases h), VF.start⟩
    · refine (.cons rfl ?_ (.cons rfl ?_ (.cons rfl ?_ (.cons rfl ?_ (.cons rfl ?_ (.cons rfl ?_ (.cons rfl ?_ (.cons rfl ?_ (.cons rfl ?_ (.cons rfl ?_ (.cons rfl ?_ (.nil _))))))))))))
      all_goals intro L v W4 hd hn ⟨hB, hX, x4, q4, n4, V⟩ K hK
      · go_wp2_with fail
        exact hK _ (.pointer (some ⟨w.heap.size + 1, 0, none⟩)) _ (by simp only [Act.put, pA, pB, pC ]) ⟨hB, hX, x4, q4, n4, V.step 0 rfl⟩
      · have e0 := V.at (zdq hd 0 rfl) rfl
        have cc := (B1.kx hX (by simp <;> omega)).cell (i := 0) (v := .int .i64 (p : Int)) (fdC_at (p : Int) m)
        go_wp2_with fail
        exact hK _ (.int .i64 (p : Int)) _ (by simp only [Act.put, pA, pB, pC, e0]) ⟨hB, hX, x4, q4, n4, V.step 1 rfl⟩
      · have s4 := q4 (by
         cases hL : L 10 with
         | false => rfl
         | true => exact absurd rfl (hn 10 _ rfl hL ⟨2, .phase⟩ (by simp) rfl))
        refine zlc s4 Try.underlying28 Try.size28 ?_
        exact hK _ _ _ rfl ⟨hB, hX, x4, q4, n4, V.step 2 rfl⟩
      · refine wp_load_rowv 70 _ rfl _ rfl 70 _ (B1.kx hX (by simp <;> omega)) _ Try.underlying70 rfl 65 Try.size70 (by simp [fdC_len]) ?_
        exact hK _ _ _ rfl ⟨hB, hX, x4, q4, n4, V.step 3 rfl⟩
      · go_wp2_with fail
        exact hK _ (.int .i64 (j : Int)) _ (by simp only [Act.put, pA, pB, pC ]) ⟨hB, hX, x4, q4, n4, V.step 4 rfl⟩
      · have e4 := V.at (zdq hd 4 rfl) rfl
        go_wp2_with fail
        exact hK _ (.pointer (some ⟨w.heap.size, j * 64, none⟩)) _ (by simp only [Act.put, pA, pB, pC, e4]) ⟨hB, hX, x4, q4, n4, V.step 5 rfl⟩
      · have e5 := V.at (zdq hd 5 rfl) rfl
        refine wp_load_mid 28 _ rfl _ (j * 64) e5 _ _ (((B0.kx hX (by simp <;> omega))).sk (by omega)) Try.underlying28 rfl (by rw [zl]; exact Try.size28) ?_
        exact hK _ _ _ rfl ⟨hB, hX, x4, q4, n4, V.step 6 rfl⟩
      · refine wp_load_any 28 _ rfl _ rfl 64 28 _ (B2.kx hX (by simp <;> omega)) _ Try.underlying28 rfl Try.size28 ?_
        exact hK _ _ _ rfl ⟨hB, hX, x4, q4, n4, V.step 7 rfl⟩
      · have e3 := V.at (zdq hd 3 rfl) rfl
        have e6 := V.at (zdq hd 6 rfl) rfl
        have e7 := V.at (zdq hd 7 rfl) rfl
        go_wp2_with (go_at_call 122; refine (HK1.out _).mono ?_; rintro e wy ⟨rfl, hy⟩)
        exact hK _ (.agg (zb 64 (mmP p (F j) (frN p m x (j % d)) m))) _ (by simp only [Act.put, pA, pB, pC, e3, e6, e7]) ⟨hB.trans (hy.mono hB.size), hX.below hy, (let ⟨g, h⟩ := x4; ⟨g, h.zw hy⟩), (fun h => (q4 h).below hy (q4 h).lt), (fun h => (n4 h).below hy (n4 h).lt), V.step 8 rfl⟩
      · have e1 := V.at (zdq hd 1 rfl) rfl
        have e2 := V.at (zdq hd 2 rfl) rfl
        have e8 := V.at (zdq hd 8 rfl) rfl
        go_wp2_with (go_at_call 117; refine (HK2.out _).mono ?_; rintro e wy ⟨rfl, hy⟩)
        exact hK _ (.agg (zb 64 (vlR p m d F x (j + 1)))) _ (by simp only [Act.put, pA, pB, pC, e1, e2, e8]) ⟨hB.trans (hy.mono hB.size), hX.below hy, (let ⟨g, h⟩ := x4; ⟨g, h.zw hy⟩), (fun h => (q4 h).below hy (q4 h).lt), (fun h => (n4 h).below hy (n4 h).lt), V.step 9 rfl⟩
      · have e9 := V.at (zdq hd 9 rfl) rfl
        obtain ⟨gz, hk⟩ := x4
        refine zsb 28 _ _ rfl _ 64 (vlR p m d F x (j + 1)) rfl e9 28 gz hk Try.size28 ?_
        exact hK _ undef _ rfl ⟨zr hB (by omega) _, hX.row (by simp) _, ⟨_, hk.row _⟩, (fun h => absurd h (by simp [setL])), (fun _ => hk.row _), V.skip 10 rfl⟩
    · intro L v W4 hL ⟨hB, hX, x4, q4, n4, V⟩
      have r4 := n4 (hL 10 (by decide))
      have e0 := V.at (hL 0 (by decide)) rfl
      have e1 := V.at (hL 1 (by decide)) rfl
      have e2 := V.at (hL 2 (by decide)) rfl
      have e3 := V.at (hL 3 (by decide)) rfl
      have e4 := V.at (hL 4 (by decide)) rfl
      have e5 := V.at (hL 5 (by decide)) rfl
      have e6 := V.at (hL 6 (by decide)) rfl
      have e7 := V.at (hL 7 (by decide)) rfl
      have e8 := V.at (hL 8 (by decide)) rfl
      have e9 := V.at (hL 9 (by decide)) rfl
      clear hL x4 q4 n4 V
      replace B0 := B0.kx hX (by simp <;> omega)
      replace B1 := B1.kx hX (by simp <;> omega)
      replace B2 := B2.kx hX (by simp <;> omega)
      replace B3 := B3.kx hX (by simp <;> omega)
      clear hX
      simp only [Exit.then, e0, e1, e2, e3, e4, e5, e6, e7, e8, e9]
      clear e0 e1 e2 e3 e4 e5 e6 e7 e8 e9
      replace B4 := r4
      clear r4
      replace hb := hB
      clear hB
      clear hbase lt_B0 lt_B1 lt_B2 lt_B3 lt_B4
      go_upto_region 6 with (fail)
      have lt_B0 := B0.lt
      have lt_B1 := B1.lt
      have lt_B2 := B2.lt
      have lt_B3 := B3.lt
      have lt_B4 := B4.lt
      go_upto_region 7 with (first | rw [← z64] | (refine zlr rfl 70 (.tmp 4) rfl _ rfl 70 (fdC (p : Int) m).toArray (B1) _ Try.underlying70 rfl 65 Try.size70 (by simp [fdC_len]) ?_) | (refine zla (.tmp 5) B2 Try.underlying28 Try.size28 ?_) | (go_at_call 93; refine (HK3.out _).mono ?_; rintro e W5 ⟨rfl, hW5⟩; replace B0 := B0.zw hW5; replace B1 := B1.zw hW5; replace B2 := B2.zw hW5; replace B3 := B3.zw hW5; replace B4 := B4.zw hW5; replace hb := (hb).trans (hW5.mono (hb).size)) | (refine zsr (.tmp 5) (.tmp 27) (frN p m x ((j + 1) % d)) B2 Try.size28 ?_; try simp only [Act.put]))
      obtain ⟨W6, hwo, hzQ⟩ : ∃ v : World, v = (W5.setRow (w.heap.size + 1 + 1) (zb 64 (frN p m x ((j + 1) % d)))) ∧ Blk v (w.heap.size) 512 46 (fl 64 F) ∧ Row v (w.heap.size + 1) 70 (fdC (p : Int) m).toArray ∧ Blk v (w.heap.size + 1 + 1) 64 28 (frN p m x ((j + 1) % d)) ∧ Blk v (w.heap.size + 1 + 1 + 1) 64 28 (fun _ => 0) ∧ Blk v (N1) 64 28 (vlR p m d F x (j + 1)) ∧ Below w.heap.size w v := ⟨_, rfl, (B0.rowOther (by omega)), (B1.rowOther (by omega)), (B2.row (frN p m x ((j + 1) % d))), (B3.rowOther (by omega)), (B4.rowOther (by omega)), (zr hb (by omega) _)⟩
      rw [← hwo]
      clear hwo B0 B1 B2 B3 B4 hb
      obtain ⟨B0, B1, B2, B3, B4, hb⟩ := hzQ
      try simp only [Act.put, pA, pB, pC]
      go_wp2_with fail
      go_roundw
      case rel => exact ⟨j + 1, by go_num, by omega, hb, B0, B1, B2, B3, B4⟩
      case measure => simp [intOf] <;> omega
  · have hjI : ¬ (j : Int) < (N : Int) - 1 + 1 := by omega
    obtain rfl : j = N := by omega
    go_upto_region 8 with (fail)
    have lt_B0 := B0.lt
    have lt_B1 := B1.lt
    have lt_B2 := B2.lt
    have lt_B3 := B3.lt
    have lt_B4 := B4.lt
    go_wp2_with (first | rw [← z64] | (refine zla (.tmp 7) B4 Try.underlying28 Try.size28 ?_) | (refine zsr (.tmp 6) (.tmp 29) (vlR p m d F x j) B3 Try.size28 ?_; try simp only [Act.put]))
    obtain ⟨W4, hwo, hzQ⟩ : ∃ v : World, v = (wr.setRow (w.heap.size + 1 + 1 + 1) (zb 64 (vlR p m d F x j))) ∧ Blk v (w.heap.size) 512 46 (fl 64 F) ∧ Row v (w.heap.size + 1) 70 (fdC (p : Int) m).toArray ∧ Blk v (w.heap.size + 1 + 1) 64 28 (frN p m x (j % d)) ∧ Blk v (w.heap.size + 1 + 1 + 1) 64 28 (vlR p m d F x j) ∧ Blk v (N1) 64 28 (vlR p m d F x j) ∧ Below w.heap.size w v := ⟨_, rfl, (B0.rowOther (by omega)), (B1.rowOther (by omega)), (B2.rowOther (by omega)), (B3.row (vlR p m d F x j)), (B4.rowOther (by omega)), (zr hb (by omega) _)⟩
    rw [← hwo]
    clear hwo B0 B1 B2 B3 B4 hb
    obtain ⟨B0, B1, B2, B3, B4, hb⟩ := hzQ
    try simp only [Act.put, pA, pB, pC]
    refine bodyPost_ret (zrb rfl _ _ _ 64 28 5 _ rfl B3 Try.underlying28 Try.size28) rfl ⟨by rw [HV.out], hb⟩
set_option maxRecDepth 100000 in
set_option maxHeartbeats 1600000 in
theorem l03Value_any (p : Nat) (m : Nat → Nat) (F : Nat → Nat → Nat) (x : Nat → Nat) (w : World) (hpr : p = 2 ∨ p = 3 ∨ p = 5 ∨ p = 7) (lm : ∀ k, k < 64 → m k < p) (d : Nat) (hd : deg m = (d : Int)) (hd1 : 1 ≤ d) (hd9 : d ≤ 9) (lF : ∀ i, i < 8 → ∀ k, k < 64 → F i k < p) (hx : rsd p m x) :
 Calls Try.prog 105 #[.int .i64 (p : Int), .agg (zb 64 m), .agg (zb 512 (fl 64 F)), .agg (zb 64 x)] w fun e w' => e = .returned (.agg (zb 64 (vlR p m d F x 8))) ∧ Below w.heap.size w w' := by
 have p0 : 0 < p := by omega
 have h0 : 0 ≤ deg m := by omega
 have h9 : deg m ≤ 9 := by omega
 have p2 : 2 ≤ p := by omega
 have p7 : p ≤ 7 := by omega
 have HX := Lib.hid (fun j => (frN_ok hpr lm h0 h9 hx j).1)
 have HFR := Lib.hid (fun j (hj : j < 8) W => l03Frobenius_any p m x j W hpr lm d hd hd1 hd9 (by omega) hx)
 have HMM := Lib.hid (fun j (hj : j < 8) W => l01MulMod_any p (F j) (frN p m x (j % d)) m W hpr (lF j hj) (HX.out (j % d)).1 lm h0)
 have HAD := Lib.hid (show ∀ j W, Calls Try.prog 80 #[.int .i64 (p : Int), .agg (zb 64 (vlR p m d F x j)), .agg (zb 64 (mmP p (F j) (frN p m x (j % d)) m)), .int .i64 1] W fun e w' => e = .returned (.agg (zb 64 (vlR p m d F x (j + 1)))) ∧ Below W.heap.size W w' from fun j W => by
  rw [vlR_s]; exact l01Add_any p _ _ 1 W p2 p7 (by omega) (by omega) (fun k _ => vlR_lt p0 j k) (fun k hk => mmP_lt p0 k (by omega)))
 have HZ := Lib.hid (vlR_z p m d F x)
 have HSK := Lib.hid (fun j (h : eqN 64 (F j) (fun _ => 0) = true) => vlR_skip (d := d) (x := x) hpr lm h0 h)
 clear hx
 go_enter Try.func105, Try.ntmps105
 go_upto_region 1 with (fail)
 rw [← z64]
 obtain ⟨W1, hwo⟩ : ∃ v : World, v = ((((w.alloc (.cells (zb 64 (m)) 28)).alloc (.cells (zb 512 (fl 64 F)) 46)).alloc (.cells (zb 64 (x)) 28)).alloc (.cells (zb 64 (fun _ => 0)) 28)) := ⟨_, rfl⟩
 have B0 : Blk W1 (w.heap.size) 64 28 (m) := by subst hwo; have := ((((Blk.new w 64 28 (m)).alloc (.cells (zb 512 (fl 64 F)) 46)).alloc (.cells (zb 64 (x)) 28)).alloc (.cells (zb 64 (fun _ => 0)) 28)); simpa using this
 have B1 : Blk W1 (w.heap.size + 1) 512 46 (fl 64 F) := by subst hwo; have := (((Blk.new (w.alloc (.cells (zb 64 (m)) 28)) 512 46 (fl 64 F)).alloc (.cells (zb 64 (x)) 28)).alloc (.cells (zb 64 (fun _ => 0)) 28)); simpa using this
 have B2 : Blk W1 (w.heap.size + 1 + 1) 64 28 (x) := by subst hwo; have := ((Blk.new ((w.alloc (.cells (zb 64 (m)) 28)).alloc (.cells (zb 512 (fl 64 F)) 46)) 64 28 (x)).alloc (.cells (zb 64 (fun _ => 0)) 28)); simpa using this
 have B3 : Blk W1 (w.heap.size + 1 + 1 + 1) 64 28 (fun _ => 0) := by subst hwo; have := (Blk.new (((w.alloc (.cells (zb 64 (m)) 28)).alloc (.cells (zb 512 (fl 64 F)) 46)).alloc (.cells (zb 64 (x)) 28)) 64 28 (fun _ => 0)); simpa using this
 have hb : Below w.heap.size w W1 := by subst hwo; exact (((((Below.refl _ _).alloc (Nat.le_refl _) _).alloc (by simp) _).alloc (by simp; omega) _).alloc (by simp; omega) _)
 rw [← hwo]
 clear hwo
 have lt_B0 := B0.lt
 have lt_B1 := B1.lt
 have lt_B2 := B2.lt
 have lt_B3 := B3.lt
 go_upto_region 2 with (first | rw [← z64] | (refine wpList_store_blk rfl 28 (.tmp 9) (.tmp 11) rfl _ 64 (fun _ => 0) rfl rfl 28 _ ((Blk.new W1 64 28 (fun _ => 0))) Try.size28 ?_; try simp only [Act.put]))
 have lt_B0 := B0.lt
 have lt_B1 := B1.lt
 have lt_B2 := B2.lt
 have lt_B3 := B3.lt
 have lhb := hb.size
 obtain ⟨W2, hwo, hzQ⟩ : ∃ v : World, v = ((W1.alloc (.cells (zb 64 (fun _ => 0)) 28)).setRow (W1.heap.size) (zb 64 (fun _ => 0))) ∧ Blk v (w.heap.size) 64 28 (m) ∧ Blk v (w.heap.size + 1) 512 46 (fl 64 F) ∧ Blk v (w.heap.size + 1 + 1) 64 28 (x) ∧ Blk v (w.heap.size + 1 + 1 + 1) 64 28 (fun _ => 0) ∧ Blk v (W1.heap.size) 64 28 (fun _ => 0) ∧ Below w.heap.size w v := ⟨_, rfl, ((B0.alloc (.cells (zb 64 (fun _ => 0)) 28)).rowOther (by omega)), ((B1.alloc (.cells (zb 64 (fun _ => 0)) 28)).rowOther (by omega)), ((B2.alloc (.cells (zb 64 (fun _ => 0)) 28)).rowOther (by omega)), ((B3.alloc (.cells (zb 64 (fun _ => 0)) 28)).rowOther (by omega)), ((Blk.new W1 64 28 (fun _ => 0)).row (fun _ => 0)), (zr (hb.alloc (by have := hb.size; simp; omega) (.cells (zb 64 (fun _ => 0)) 28)) (by omega) _)⟩
 rw [← hwo]
 clear hwo B0 B1 B2 B3 hb
 obtain ⟨B0, B1, B2, B3, B4, hb⟩ := hzQ
 obtain ⟨N1, hNN⟩ : ∃ n : Nat, n = W1.heap.size := ⟨_, rfl⟩
 rw [← hNN] at lt_B0 lt_B1 lt_B2 lt_B3 lhb B4 ⊢
 clear hNN
 have zN1_0 := lt_B0
 have zN1_1 := lt_B1
 have zN1_2 := lt_B2
 have zN1_3 := lt_B3
 have zN1 := lhb
 clear lt_B0 lt_B1 lt_B2 lt_B3 lhb
 try simp only [Act.put, pA, pB, pC]
 go_wp2_with fail
 go_loopw [10] (fun c wr => ∃ j : Nat, c = .int .i64 (j : Int) ∧ j ≤ 8 ∧ Below w.heap.size w wr ∧ Blk wr (w.heap.size) 64 28 m ∧ Blk wr (w.heap.size + 1) 512 46 (fl 64 F) ∧ Blk wr (w.heap.size + 1 + 1) 64 28 x ∧ Blk wr (w.heap.size + 1 + 1 + 1) 64 28 (fun _ => 0) ∧ Blk wr (N1) 64 28 (vlR p m d F x j)) (fun c _ => 8 - (intOf c).toNat)
 case atStart => exact ⟨0, rfl, Nat.zero_le _, hb, B0, B1, B2, B3, by rw [HZ.out]; exact B4⟩
 case round =>
  clear hb B0 B1 B2 B3 B4
  obtain ⟨j, rfl, hj8, hb, B0, B1, B2, B3, B4⟩ := hrel
  by_cases hj : j < 8
  · have hjI : (j : Int) < 8 := by omega
    have hgd := Try.noGuard28
    have heq := fun W => zeb (P := Try.prog) W 9998 28 5 64 (F j) (fun _ => 0) Try.underlying28 Try.underlying5 Try.size5
    cases hz : eqN 64 (F j) (fun _ => 0) with
    | true =>
     rw [hz] at heq
     have HS := Lib.hid (HSK.out j hz)
     clear hz
     go_wp2_with (first | (refine wpList_load_mid rfl 28 (.tmp 17) rfl _ (j * 64) rfl (bl 64 (F j)) _ (B1.sk hj) Try.underlying28 rfl (by rw [zl]; exact Try.size28) ?_) | rw [← z64])
     go_roundw
     case rel => exact ⟨j + 1, by go_num, by omega, hb, B0, B1, B2, B3, B4.congr HS.out⟩
     case measure => simp [intOf] <;> omega
    | false =>
     rw [hz] at heq
     clear hz
     have HK1 := Lib.hid (HFR.out j hj)
     have HK2 := Lib.hid (HMM.out j hj)
     have HK3 := Lib.hid (HAD.out j)
     go_upto_region 6 with (first | (refine wpList_load_mid rfl 28 (.tmp 17) rfl _ (j * 64) rfl (bl 64 (F j)) _ (B1.sk hj) Try.underlying28 rfl (by rw [zl]; exact Try.size28) ?_) | rw [← z64])
     clear heq hgd
     have lt_B0 : (w.heap.size) < wr.heap.size := B0.lt
     have lt_B1 : (w.heap.size + 1) < wr.heap.size := B1.lt
     have lt_B2 : (w.heap.size + 1 + 1) < wr.heap.size := B2.lt
     have lt_B3 : (w.heap.size + 1 + 1 + 1) < wr.heap.size := B3.lt
     have lt_B4 : (N1) < wr.heap.size := B4.lt
     have hbase : w.heap.size ≤ wr.heap.size := hb.size
     refine zq Try.mixed (by kernel_rfl) (by kernel_rfl) (fun v => by (simp only [frL, Act.put, pA, pB, pC, Nat.reduceAdd, Nat.zero_add]; exact rfl))
      (fun L v W3 => Below w.heap.size w W3 ∧ Kx [N1] wr W3 ∧ (∃ g, Blk W3 (N1) 64 28 (g)) ∧ (L 14 = false → Blk W3 (N1) 64 28 (vlR p m d F x j)) ∧ (L 14 = true → Blk W3 (N1) 64 28 (vlR p m d F x (j + 1))) ∧ VF L v [some (.int .i64 (p : Int)), some (.agg (zb 64 (vlR p m d F x j))), some (.int .i64 (p : Int)), some (.int .i64 (j : Int)), some (.pointer (some ⟨w.heap.size + 1, j * 64, none⟩)), some (.agg (zb 64 (F j))), some (.int .i64 (p : Int)), some (.agg (zb 64 (x))), some (.int .i64 (j : Int)), some (.agg (zb 64 (m))), some (.agg (zb 64 (frN p m x (j % d)))), some (.agg (zb 64 (m))), some (.agg (zb 64 (mmP p (F j) (frN p m x (j % d)) m))), some (.agg (zb 64 (vlR p m d F x (j + 1)))), none]) ?_ ?_ ?_
     · intro v hv0
       exact ⟨hb.drew, Kx.start _ _, ⟨_, B4.drew⟩, (fun _ => B4.drew), (fun h => by cases h), VF.start⟩
     · refine (.cons rfl ?_ (.cons rfl ?_ (.cons rfl ?_ (.cons rfl ?_ (.cons rfl ?_ (.cons rfl ?_ (.cons rfl ?_ (.cons rfl ?_ (.cons rfl ?_ (.cons rfl ?_ (.cons rfl ?_ (.cons rfl ?_ (.cons rfl ?_ (.cons rfl ?_ (.cons rfl ?_ (.nil _))))))))))))))))
       all_goals intro L v W3 hd hn ⟨hB, hX, x4, q4, n4, V⟩ K hK
       · go_wp2_with fail
         exact hK _ (.int .i64 (p : Int)) _ (by simp only [Act.put, pA, pB, pC ]) ⟨hB, hX, x4, q4, n4, V.step 0 rfl⟩
       · have s4 := q4 (by
          cases hL : L 14 with
          | false => rfl
          | true => exact absurd rfl (hn 14 _ rfl hL ⟨1, .phase⟩ (by simp) rfl))
         refine zlc s4 Try.underlying28 Try.size28 ?_
         exact hK _ _ _ rfl ⟨hB, hX, x4, q4, n4, V.step 1 rfl⟩
       · go_wp2_with fail
         exact hK _ (.int .i64 (p : Int)) _ (by simp only [Act.put, pA, pB, pC ]) ⟨hB, hX, x4, q4, n4, V.step 2 rfl⟩
       · go_wp2_with fail
         exact hK _ (.int .i64 (j : Int)) _ (by simp only [Act.put, pA, pB, pC ]) ⟨hB, hX, x4, q4, n4, V.step 3 rfl⟩
       · have e3 := V.at (zdq hd 3 rfl) rfl
         go_wp2_with fail
         exact hK _ (.pointer (some ⟨w.heap.size + 1, j * 64, none⟩)) _ (by simp only [Act.put, pA, pB, pC, e3]) ⟨hB, hX, x4, q4, n4, V.step 4 rfl⟩
       · have e4 := V.at (zdq hd 4 rfl) rfl
         refine wp_load_mid 28 _ rfl _ (j * 64) e4 _ _ (((B1.kx hX (by simp <;> omega))).sk (by omega)) Try.underlying28 rfl (by rw [zl]; exact Try.size28) ?_
         exact hK _ _ _ rfl ⟨hB, hX, x4, q4, n4, V.step 5 rfl⟩
       · go_wp2_with fail
         exact hK _ (.int .i64 (p : Int)) _ (by simp only [Act.put, pA, pB, pC ]) ⟨hB, hX, x4, q4, n4, V.step 6 rfl⟩
       · refine wp_load_any 28 _ rfl _ rfl 64 28 _ (B2.kx hX (by simp <;> omega)) _ Try.underlying28 rfl Try.size28 ?_
         exact hK _ _ _ rfl ⟨hB, hX, x4, q4, n4, V.step 7 rfl⟩
       · go_wp2_with fail
         exact hK _ (.int .i64 (j : Int)) _ (by simp only [Act.put, pA, pB, pC ]) ⟨hB, hX, x4, q4, n4, V.step 8 rfl⟩
       · refine wp_load_any 28 _ rfl _ rfl 64 28 _ (B0.kx hX (by simp <;> omega)) _ Try.underlying28 rfl Try.size28 ?_
         exact hK _ _ _ rfl ⟨hB, hX, x4, q4, n4, V.step 9 rfl⟩
       · have e6 := V.at (zdq hd 6 rfl) rfl
         have e7 := V.at (zdq hd 7 rfl) rfl
         have e8 := V.at (zdq hd 8 rfl) rfl
         have e9 := V.at (zdq hd 9 rfl) rfl
         go_wp2_with (go_at_call 92; refine (HK1.out _).mono ?_; rintro e wy ⟨rfl, hy⟩)
         exact hK _ (.agg (zb 64 (frN p m x (j % d)))) _ (by simp only [Act.put, pA, pB, pC, e6, e7, e8, e9]) ⟨hB.trans (hy.mono hB.size), hX.below hy, (let ⟨g, h⟩ := x4; ⟨g, h.zw hy⟩), (fun h => (q4 h).below hy (q4 h).lt), (fun h => (n4 h).below hy (n4 h).lt), V.step 10 rfl⟩
       · refine wp_load_any 28 _ rfl _ rfl 64 28 _ (B0.kx hX (by simp <;> omega)) _ Try.underlying28 rfl Try.size28 ?_
         exact hK _ _ _ rfl ⟨hB, hX, x4, q4, n4, V.step 11 rfl⟩
       · have e2 := V.at (zdq hd 2 rfl) rfl
         have e5 := V.at (zdq hd 5 rfl) rfl
         have e10 := V.at (zdq hd 10 rfl) rfl
         have e11 := V.at (zdq hd 11 rfl) rfl
         go_wp2_with (go_at_call 113; refine (HK2.out _).mono ?_; rintro e wy ⟨rfl, hy⟩)
         exact hK _ (.agg (zb 64 (mmP p (F j) (frN p m x (j % d)) m))) _ (by simp only [Act.put, pA, pB, pC, e2, e5, e10, e11]) ⟨hB.trans (hy.mono hB.size), hX.below hy, (let ⟨g, h⟩ := x4; ⟨g, h.zw hy⟩), (fun h => (q4 h).below hy (q4 h).lt), (fun h => (n4 h).below hy (n4 h).lt), V.step 12 rfl⟩
       · have e0 := V.at (zdq hd 0 rfl) rfl
         have e1 := V.at (zdq hd 1 rfl) rfl
         have e12 := V.at (zdq hd 12 rfl) rfl
         go_wp2_with (go_at_call 80; refine (HK3.out _).mono ?_; rintro e wy ⟨rfl, hy⟩)
         exact hK _ (.agg (zb 64 (vlR p m d F x (j + 1)))) _ (by simp only [Act.put, pA, pB, pC, e0, e1, e12]) ⟨hB.trans (hy.mono hB.size), hX.below hy, (let ⟨g, h⟩ := x4; ⟨g, h.zw hy⟩), (fun h => (q4 h).below hy (q4 h).lt), (fun h => (n4 h).below hy (n4 h).lt), V.step 13 rfl⟩
       · have e13 := V.at (zdq hd 13 rfl) rfl
         obtain ⟨gz, hk⟩ := x4
         refine zsb 28 _ _ rfl _ 64 (vlR p m d F x (j + 1)) rfl e13 28 gz hk Try.size28 ?_
         exact hK _ undef _ rfl ⟨zr hB (by omega) _, hX.row (by simp) _, ⟨_, hk.row _⟩, (fun h => absurd h (by simp [setL])), (fun _ => hk.row _), V.skip 14 rfl⟩
     · intro L v W3 hL ⟨hB, hX, x4, q4, n4, V⟩
       have r4 := n4 (hL 14 (by decide))
       have e0 := V.at (hL 0 (by decide)) rfl
       have e1 := V.at (hL 1 (by decide)) rfl
       have e2 := V.at (hL 2 (by decide)) rfl
       have e3 := V.at (hL 3 (by decide)) rfl
       have e4 := V.at (hL 4 (by decide)) rfl
       have e5 := V.at (hL 5 (by decide)) rfl
       have e6 := V.at (hL 6 (by decide)) rfl
       have e7 := V.at (hL 7 (by decide)) rfl
       have e8 := V.at (hL 8 (by decide)) rfl
       have e9 := V.at (hL 9 (by decide)) rfl
       have e10 := V.at (hL 10 (by decide)) rfl
       have e11 := V.at (hL 11 (by decide)) rfl
       have e12 := V.at (hL 12 (by decide)) rfl
       have e13 := V.at (hL 13 (by decide)) rfl
       clear hL x4 q4 n4 V
       replace B0 := B0.kx hX (by simp <;> omega)
       replace B1 := B1.kx hX (by simp <;> omega)
       replace B2 := B2.kx hX (by simp <;> omega)
       replace B3 := B3.kx hX (by simp <;> omega)
       clear hX
       simp only [Exit.then, e0, e1, e2, e3, e4, e5, e6, e7, e8, e9, e10, e11, e12, e13]
       clear e0 e1 e2 e3 e4 e5 e6 e7 e8 e9 e10 e11 e12 e13
       replace B4 := r4
       clear r4
       replace hb := hB
       clear hB
       clear hbase lt_B0 lt_B1 lt_B2 lt_B3 lt_B4
       go_wp2_with fail
       go_roundw
       case rel => exact ⟨j + 1, by go_num, by omega, hb, B0, B1, B2, B3, B4⟩
       case measure => simp [intOf] <;> omega
  · have hjI : ¬ (j : Int) < 8 := by omega
    obtain rfl : j = 8 := by omega
    go_upto_region 7 with (fail)
    have lt_B0 := B0.lt
    have lt_B1 := B1.lt
    have lt_B2 := B2.lt
    have lt_B3 := B3.lt
    have lt_B4 := B4.lt
    go_wp2_with (first | rw [← z64] | (refine zla (.tmp 9) B4 Try.underlying28 Try.size28 ?_) | (refine zsr (.tmp 8) (.tmp 35) (vlR p m d F x 8) B3 Try.size28 ?_; try simp only [Act.put]))
    obtain ⟨W3, hwo, hzQ⟩ : ∃ v : World, v = (wr.setRow (w.heap.size + 1 + 1 + 1) (zb 64 (vlR p m d F x 8))) ∧ Blk v (w.heap.size) 64 28 (m) ∧ Blk v (w.heap.size + 1) 512 46 (fl 64 F) ∧ Blk v (w.heap.size + 1 + 1) 64 28 (x) ∧ Blk v (w.heap.size + 1 + 1 + 1) 64 28 (vlR p m d F x 8) ∧ Blk v (N1) 64 28 (vlR p m d F x 8) ∧ Below w.heap.size w v := ⟨_, rfl, (B0.rowOther (by omega)), (B1.rowOther (by omega)), (B2.rowOther (by omega)), (B3.row (vlR p m d F x 8)), (B4.rowOther (by omega)), (zr hb (by omega) _)⟩
    rw [← hwo]
    clear hwo B0 B1 B2 B3 B4 hb
    obtain ⟨B0, B1, B2, B3, B4, hb⟩ := hzQ
    try simp only [Act.put, pA, pB, pC]
    refine bodyPost_ret (zrb rfl _ _ _ 64 28 5 _ rfl B3 Try.underlying28 Try.size28) rfl ⟨rfl, hb⟩
end Go.Proofs.Ytelgefgphhebnaa
end
