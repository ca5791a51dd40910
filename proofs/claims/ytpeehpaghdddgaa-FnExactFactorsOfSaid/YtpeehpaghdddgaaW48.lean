/-
  Walks: lists of factors behind their checks, and compared.
-/
import Derived.Test.YtpeehpaghdddgaaW45
namespace Go.Proofs.Ytpeehpaghdddgaa
open Go Go.RowKit
set_option linter.unusedVariables false
set_option linter.unusedSimpArgs false
attribute [local irreducible] deg facRows run
/-- the list -/
def fcR (p : Int) (f : Nat → Nat) : List (Nat × Nat) := if spV p f 0 = 0 then run p.toNat 64 1 f else []
theorem fcR_bad {p c : Int} {f : Nat → Nat} (h : spV p f 0 = c) (h2 : c ≠ 0) : fcR p f = [] := by unfold fcR; rw [h, if_neg h2]
theorem fcR_ok {n : Nat} {f : Nat → Nat} (h : spV (n : Int) f 0 = 0) : fcR (n : Int) f = run n 64 1 f := by unfold fcR; rw [if_pos h]; rfl
theorem fcR_len {p : Int} {f : Nat → Nat} (hf : byte f) : (fcR p f).length ≤ 12 := by
  rcases spV_cases (p := p) (f := f) (lo := 0) with ⟨c, hs, hc0, hc12⟩ | ⟨hs, hc, hr1, hr2⟩
  · rw [fcR_bad hs hc0]; exact Nat.zero_le _
  · obtain ⟨n, hn, n2, n7⟩ := okP_nat (codeL_zero hc).1
    subst hn
    rw [fcR_ok hs]
    exact (run_ok (prime_of hc) (lt_of_code hc (f := f) (by simp)) hr1 hr2).1
theorem facRows_nil (p : Nat) : facRows p [] = [] := by unfold facRows; rfl
/-- both answers of FactorsOf -/
def FcF (p : Int) (f : Nat → Nat) (w : World) (e : Ending) (w' : World) : Prop := ∃ v, e = .returned (.tuple #[v, .int .i64 (spV p f 0)]) ∧ SlL w' w.heap.size 102 65 v (facRows p.toNat (fcR p f)) ∧ Below w.heap.size w w'
set_option maxRecDepth 100000 in
set_option maxHeartbeats 3200000 in
theorem spec_FactorsOf_any (p : Int) (f : Nat → Nat) (hf : byte f) (w : World) :
    Calls Try.prog 47 #[.int .i64 p, .agg (bcells 64 f)] w (FcF p f w) := by
  go_enter Try.func47, Try.ntmps47
  go_upto_region 1 with (fail)
  obtain ⟨W1, hwo⟩ : ∃ v : World, v = (w.alloc (.cells (bcells 64 (f)) 26)) := ⟨_, rfl⟩
  have B0 : Blk W1 (w.heap.size) 64 26 (f) := by subst hwo; have := (Blk.new w 64 26 (f)); simpa using this
  have hb : Below w.heap.size w W1 := by subst hwo; exact ((Below.refl _ _).alloc (Nat.le_refl _) _)
  rw [← hwo]
  clear hwo
  go_upto_region 2 with (first | (refine wpList_load_any rfl 26 (.tmp 3) rfl _ rfl 64 26 _ (B0) _ Try.underlying26 rfl Try.size26 ?_) | (go_at_call 97; refine (l02Degree_any p f hf 0 (by decide) (by decide) _).mono ?_; rintro e W2 ⟨rfl, hW2⟩; replace B0 := B0.below hW2 B0.lt; replace hb := (hb).trans (hW2.mono (hb).size)))
  rcases spV_cases (p := p) (f := f) (lo := 0) with ⟨c, hs, hc0, hc12⟩ | ⟨hs, hc, hr1, hr2⟩
  · have HV := Lib.hid (fcR_bad hs hc0)
    have HS := Lib.hid hs
    rw [hs]
    clear hs
    have hb1 : ((c : Int) != 0) = true := by simp [hc0]
    go_wp2_with fail
    go_ret2
    exact ⟨_, by rw [HS.out]; rfl, by rw [HV.out, facRows_nil]; exact SlL.nil _ _ hb.size, hb⟩
  · obtain ⟨n, hn, n2, n7⟩ := okP_nat (codeL_zero hc).1
    subst hn
    have lf := lt_of_code hc (f := f) (by simp)
    have hpr := prime_of hc
    have HV := Lib.hid (fcR_ok hs)
    have HS := Lib.hid hs
    rw [hs]
    clear hs hc
    have HFA := Lib.hid (fun W => l02Split_any n f W hpr lf (by omega) (by omega))
    go_upto_region 4 with (fail)
    go_wp2_with (first | (refine wpList_load_any rfl 26 (.tmp 3) rfl _ rfl 64 26 _ B0 _ Try.underlying26 rfl Try.size26 ?_) | (go_at_call 104; refine (HFA.out _).mono ?_; rintro e W3 ⟨lst, rfl, hS, hW3⟩; have hbw := hb.size; replace hb := (hb).trans (hW3.mono (hb).size); replace hS := hS.base hbw))
    go_ret2
    exact ⟨_, by rw [HS.out]; rfl, by rw [HV.out, Int.toNat_natCast]; exact hS, hb⟩
set_option maxRecDepth 100000 in
set_option maxHeartbeats 3200000 in
theorem impl_FactorsOf_any (p : Int) (f : Nat → Nat) (hf : byte f) (w : World) :
    Calls Try.prog 48 #[.int .i64 p, .agg (bcells 64 f)] w (FcF p f w) := by
  go_enter Try.func48, Try.ntmps48
  go_upto_region 1 with (fail)
  obtain ⟨W1, hwo⟩ : ∃ v : World, v = (w.alloc (.cells (bcells 64 (f)) 26)) := ⟨_, rfl⟩
  have B0 : Blk W1 (w.heap.size) 64 26 (f) := by subst hwo; have := (Blk.new w 64 26 (f)); simpa using this
  have hb : Below w.heap.size w W1 := by subst hwo; exact ((Below.refl _ _).alloc (Nat.le_refl _) _)
  rw [← hwo]
  clear hwo
  go_upto_region 2 with (first | (refine wpList_load_any rfl 26 (.tmp 3) rfl _ rfl 64 26 _ (B0) _ Try.underlying26 rfl Try.size26 ?_) | (go_at_call 100; refine (checkSplit_any p f hf 0 (by decide) (by decide) _).mono ?_; rintro e W2 ⟨rfl, hW2⟩; replace B0 := B0.below hW2 B0.lt; replace hb := (hb).trans (hW2.mono (hb).size)))
  rcases spV_cases (p := p) (f := f) (lo := 0) with ⟨c, hs, hc0, hc12⟩ | ⟨hs, hc, hr1, hr2⟩
  · have HV := Lib.hid (fcR_bad hs hc0)
    have HS := Lib.hid hs
    rw [hs]
    clear hs
    have hb1 : ((c : Int) != 0) = true := by simp [hc0]
    go_wp2_with fail
    go_ret2
    exact ⟨_, by rw [HS.out]; rfl, by rw [HV.out, facRows_nil]; exact SlL.nil _ _ hb.size, hb⟩
  · obtain ⟨n, hn, n2, n7⟩ := okP_nat (codeL_zero hc).1
    subst hn
    have lf := lt_of_code hc (f := f) (by simp)
    have hpr := prime_of hc
    have HV := Lib.hid (fcR_ok hs)
    have HS := Lib.hid hs
    rw [hs]
    clear hs hc
    have HFA := Lib.hid (fun W => factorsOf_any n f W hpr lf (by omega) (by omega))
    go_upto_region 4 with (fail)
    go_wp2_with (first | (refine wpList_load_any rfl 26 (.tmp 3) rfl _ rfl 64 26 _ B0 _ Try.underlying26 rfl Try.size26 ?_) | (go_at_call 105; refine (HFA.out _).mono ?_; rintro e W3 ⟨lst, rfl, hS, hW3⟩; have hbw := hb.size; replace hb := (hb).trans (hW3.mono (hb).size); replace hS := hS.base hbw))
    go_ret2
    exact ⟨_, by rw [HS.out]; rfl, by rw [HV.out, Int.toNat_natCast]; exact hS, hb⟩
set_option maxRecDepth 100000 in
set_option maxHeartbeats 3200000 in
theorem eqFactor_same (f : Nat → Nat) (k : Nat) (w : World) :
    Calls Try.prog 106 #[.agg (facC f k).toArray, .agg (facC f k).toArray] w fun e w' => e = .returned (.bool true) ∧ Below w.heap.size w w' := by
  go_enter Try.func106, Try.ntmps106
  go_upto_region 1 with (fail)
  obtain ⟨W1, hwo⟩ : ∃ v : World, v = ((w.alloc (.cells (facC f k).toArray 102)).alloc (.cells (facC f k).toArray 102)) := ⟨_, rfl⟩
  have B0 : Row W1 w.heap.size 102 (facC f k).toArray := by subst hwo; exact (Row.new w 102 (facC f k).toArray).alloc _
  have B1 : Row W1 (w.heap.size + 1) 102 (facC f k).toArray := by subst hwo; have := Row.new (w.alloc (.cells (facC f k).toArray 102)) 102 (facC f k).toArray; simpa using this
  have hb : Below w.heap.size w W1 := by subst hwo; exact (((Below.refl _ _).alloc (Nat.le_refl _) _).alloc (by simp) _)
  rw [← hwo]
  clear hwo
  have hr0 : W1.rangeAt w.heap.size 0 (bl 64 f) := fun j u hu => B0.range j u (by unfold facC; rw [List.getElem?_append_left (List.getElem?_eq_some_iff.1 hu).1]; exact hu)
  have hr1 : W1.rangeAt (w.heap.size + 1) 0 (bl 64 f) := fun j u hu => B1.range j u (by unfold facC; rw [List.getElem?_append_left (List.getElem?_eq_some_iff.1 hu).1]; exact hu)
  go_upto_region 3 with (first | (refine wpList_load_mid rfl 26 (.tmp 5) rfl w.heap.size 0 rfl (bl 64 f) _ hr0 Try.underlying26 rfl (by rw [bl_length]; exact Try.size26) ?_) | (refine wpList_load_mid rfl 26 (.tmp 7) rfl (w.heap.size + 1) 0 rfl (bl 64 f) _ hr1 Try.underlying26 rfl (by rw [bl_length]; exact Try.size26) ?_) | (go_at_call 31; refine (eqPoly_same f f (fun _ _ => rfl) _).mono ?_; rintro e W2 ⟨rfl, h2⟩; replace B0 := B0.below h2 B0.lt; replace B1 := B1.below h2 B1.lt; replace hb := hb.trans (h2.mono hb.size)))
  clear hr0 hr1
  have cc0 := B0.cell (facC_at f k)
  have cc1 := B1.cell (facC_at f k)
  have hne : ((k : Int) != (k : Int)) = false := by simp
  go_wp2_with fail
  go_ret
  exact ⟨rfl, hb⟩
set_option maxRecDepth 100000 in
set_option maxHeartbeats 3200000 in
theorem eqFactorS_same (n : Nat) (R : List (Nat × Nat)) (a1 a2 : Option Addr) (cap1 cap2 base1 base2 : Nat) (w : World) (h1 : SlL w base1 102 65 (.slice a1 R.length cap1) (facRows n R)) (h2 : SlL w base2 102 65 (.slice a2 R.length cap2) (facRows n R)) (hR : R.length ≤ 12) :
    Calls Try.prog 49 #[.slice a1 R.length cap1, .slice a2 R.length cap2] w fun e w' => e = .returned (.bool true) ∧ Below w.heap.size w w' := by
  go_enter Try.func49, Try.ntmps49
  go_wp2_with fail
  go_loopw [5] (fun i wr => ∃ j : Nat, i = .int .i64 (j : Int) ∧ j ≤ R.length ∧ Below w.heap.size w wr) (fun i _ => R.length - (intOf i).toNat)
  case atStart => exact ⟨0, rfl, Nat.zero_le _, Below.refl _ _⟩
  case round =>
    obtain ⟨j, rfl, hjR, hb⟩ := hrel
    by_cases hj : j < R.length
    · obtain ⟨x, hx⟩ : ∃ x, R[j]? = some x := ⟨_, List.getElem?_eq_getElem hj⟩
      obtain ⟨g1, rfl⟩ := h1.some (by rw [facRows_len]; omega)
      obtain ⟨g2, rfl⟩ := h2.some (by rw [facRows_len]; omega)
      have hrow : (facRows n R)[j]? = some (facC (ofN n x.1) x.2) := by unfold facRows; rw [List.getElem?_map, hx]; rfl
      have B0 : SlL wr base1 102 65 (.slice (some ⟨g1, 0, none⟩) R.length cap1) (facRows n R) := h1.below hb h1.lt
      have B1 : SlL wr base2 102 65 (.slice (some ⟨g2, 0, none⟩) R.length cap2) (facRows n R) := h2.below hb h2.lt
      have hjl : (j : Int) < (R.length : Int) := by omega
      clear h1 h2
      go_upto_region 6 with (fail)
      have lt_B0 : (base1) ≤ wr.heap.size := B0.lt
      have lt_B1 : (base2) ≤ wr.heap.size := B1.lt
      have hbase : w.heap.size ≤ wr.heap.size := hb.size
      refine wp_region_steps0 Try.mixed (by kernel_rfl) (by kernel_rfl) (fun v => by (simp only [frL, Act.put, List.setIfInBounds_toArray, List.set_cons_zero, List.set_cons_succ, Nat.reduceAdd, Nat.zero_add]; exact rfl))
        (fun L v W1 => Below w.heap.size w W1 ∧ wr.heap.size ≤ W1.heap.size ∧ SlL W1 base1 102 65 (.slice (some ⟨g1, 0, none⟩) R.length cap1) (facRows n R) ∧ SlL W1 base2 102 65 (.slice (some ⟨g2, 0, none⟩) R.length cap2) (facRows n R) ∧ (L 0 = true → v 0 = (.slice (some ⟨g1, 0, none⟩) R.length cap1)) ∧ (L 1 = true → v 1 = (.int .i64 (j : Int))) ∧ (L 2 = true → v 2 = (.pointer (some ⟨g1, j * 65, none⟩))) ∧ (L 3 = true → v 3 = (.agg (facC (ofN n x.1) x.2).toArray)) ∧ (L 4 = true → v 4 = (.slice (some ⟨g2, 0, none⟩) R.length cap2)) ∧ (L 5 = true → v 5 = (.int .i64 (j : Int))) ∧ (L 6 = true → v 6 = (.pointer (some ⟨g2, j * 65, none⟩))) ∧ (L 7 = true → v 7 = (.agg (facC (ofN n x.1) x.2).toArray)) ∧ (L 8 = true → v 8 = (.bool true)) ∧ (L 9 = true → v 9 = (.bool false))) ?_ ?_ ?_
      · intro v hv0
        exact ⟨hb.drew, Nat.le_refl _, B0.drew, B1.drew, (fun h => by cases h), (fun h => by cases h), (fun h => by cases h), (fun h => by cases h), (fun h => by cases h), (fun h => by cases h), (fun h => by cases h), (fun h => by cases h), (fun h => by cases h), (fun h => by cases h)⟩
      · refine (.cons rfl ?_ (.cons rfl ?_ (.cons rfl ?_ (.cons rfl ?_ (.cons rfl ?_ (.cons rfl ?_ (.cons rfl ?_ (.cons rfl ?_ (.cons rfl ?_ (.cons rfl ?_ (.nil _)))))))))))
        · intro L v W1 hd hn ⟨hB, hz, s0, s1, h0, h1, h2, h3, h4, h5, h6, h7, h8, h9⟩ K hK
          go_wp2_with fail
          exact hK _ (.slice (some ⟨g1, 0, none⟩) R.length cap1) _ (by simp only [Act.put, List.setIfInBounds_toArray, List.set_cons_zero, List.set_cons_succ ]) ⟨hB, hz, s0, s1, (fun _ => rfl), h1, h2, h3, h4, h5, h6, h7, h8, h9⟩
        · intro L v W1 hd hn ⟨hB, hz, s0, s1, h0, h1, h2, h3, h4, h5, h6, h7, h8, h9⟩ K hK
          go_wp2_with fail
          exact hK _ (.int .i64 (j : Int)) _ (by simp only [Act.put, List.setIfInBounds_toArray, List.set_cons_zero, List.set_cons_succ ]) ⟨hB, hz, s0, s1, h0, (fun _ => rfl), h2, h3, h4, h5, h6, h7, h8, h9⟩
        · intro L v W1 hd hn ⟨hB, hz, s0, s1, h0, h1, h2, h3, h4, h5, h6, h7, h8, h9⟩ K hK
          have e0 := h0 (hd ⟨0, .data⟩ (by simp) rfl)
          have e1 := h1 (hd ⟨1, .data⟩ (by simp) rfl)
          go_wp2_with fail
          exact hK _ (.pointer (some ⟨g1, j * 65, none⟩)) _ (by simp only [Act.put, List.setIfInBounds_toArray, List.set_cons_zero, List.set_cons_succ, e0, e1]) ⟨hB, hz, s0, s1, h0, h1, (fun _ => rfl), h3, h4, h5, h6, h7, h8, h9⟩
        · intro L v W1 hd hn ⟨hB, hz, s0, s1, h0, h1, h2, h3, h4, h5, h6, h7, h8, h9⟩ K hK
          have e2 := h2 (hd ⟨2, .data⟩ (by simp) rfl)
          have hr := (s0).range hrow
          refine wp_load_mid 102 _ rfl _ (j * 65) e2 _ _ hr Try.underlying102 rfl (by rw [facC_len]; exact Try.size102) ?_
          exact hK _ _ _ rfl ⟨hB, hz, s0, s1, h0, h1, h2, (fun _ => rfl), h4, h5, h6, h7, h8, h9⟩
        · intro L v W1 hd hn ⟨hB, hz, s0, s1, h0, h1, h2, h3, h4, h5, h6, h7, h8, h9⟩ K hK
          go_wp2_with fail
          exact hK _ (.slice (some ⟨g2, 0, none⟩) R.length cap2) _ (by simp only [Act.put, List.setIfInBounds_toArray, List.set_cons_zero, List.set_cons_succ ]) ⟨hB, hz, s0, s1, h0, h1, h2, h3, (fun _ => rfl), h5, h6, h7, h8, h9⟩
        · intro L v W1 hd hn ⟨hB, hz, s0, s1, h0, h1, h2, h3, h4, h5, h6, h7, h8, h9⟩ K hK
          go_wp2_with fail
          exact hK _ (.int .i64 (j : Int)) _ (by simp only [Act.put, List.setIfInBounds_toArray, List.set_cons_zero, List.set_cons_succ ]) ⟨hB, hz, s0, s1, h0, h1, h2, h3, h4, (fun _ => rfl), h6, h7, h8, h9⟩
        · intro L v W1 hd hn ⟨hB, hz, s0, s1, h0, h1, h2, h3, h4, h5, h6, h7, h8, h9⟩ K hK
          have e4 := h4 (hd ⟨4, .data⟩ (by simp) rfl)
          have e5 := h5 (hd ⟨5, .data⟩ (by simp) rfl)
          go_wp2_with fail
          exact hK _ (.pointer (some ⟨g2, j * 65, none⟩)) _ (by simp only [Act.put, List.setIfInBounds_toArray, List.set_cons_zero, List.set_cons_succ, e4, e5]) ⟨hB, hz, s0, s1, h0, h1, h2, h3, h4, h5, (fun _ => rfl), h7, h8, h9⟩
        · intro L v W1 hd hn ⟨hB, hz, s0, s1, h0, h1, h2, h3, h4, h5, h6, h7, h8, h9⟩ K hK
          have e6 := h6 (hd ⟨6, .data⟩ (by simp) rfl)
          have hr := (s1).range hrow
          refine wp_load_mid 102 _ rfl _ (j * 65) e6 _ _ hr Try.underlying102 rfl (by rw [facC_len]; exact Try.size102) ?_
          exact hK _ _ _ rfl ⟨hB, hz, s0, s1, h0, h1, h2, h3, h4, h5, h6, (fun _ => rfl), h8, h9⟩
        · intro L v W1 hd hn ⟨hB, hz, s0, s1, h0, h1, h2, h3, h4, h5, h6, h7, h8, h9⟩ K hK
          have e3 := h3 (hd ⟨3, .data⟩ (by simp) rfl)
          have e7 := h7 (hd ⟨7, .data⟩ (by simp) rfl)
          go_wp2_with (go_at_call 106; refine (eqFactor_same _ _ _).mono ?_; rintro e wy ⟨rfl, hy⟩)
          exact hK _ (.bool true) _ (by simp only [Act.put, List.setIfInBounds_toArray, List.set_cons_zero, List.set_cons_succ, e3, e7]) ⟨hB.trans (hy.mono hB.size), (Nat.le_trans hz hy.size), (s0).below hy (s0).lt, (s1).below hy (s1).lt, h0, h1, h2, h3, h4, h5, h6, h7, (fun _ => rfl), h9⟩
        · intro L v W1 hd hn ⟨hB, hz, s0, s1, h0, h1, h2, h3, h4, h5, h6, h7, h8, h9⟩ K hK
          have e8 := h8 (hd ⟨8, .data⟩ (by simp) rfl)
          go_wp2_with fail
          exact hK _ (.bool false) _ (by simp only [Act.put, List.setIfInBounds_toArray, List.set_cons_zero, List.set_cons_succ, e8]) ⟨hB, hz, s0, s1, h0, h1, h2, h3, h4, h5, h6, h7, h8, (fun _ => rfl)⟩
      · intro L v W1 hL ⟨hB, hz, s0, s1, h0, h1, h2, h3, h4, h5, h6, h7, h8, h9⟩
        have e0 := h0 (hL 0 (by decide))
        have e1 := h1 (hL 1 (by decide))
        have e2 := h2 (hL 2 (by decide))
        have e3 := h3 (hL 3 (by decide))
        have e4 := h4 (hL 4 (by decide))
        have e5 := h5 (hL 5 (by decide))
        have e6 := h6 (hL 6 (by decide))
        have e7 := h7 (hL 7 (by decide))
        have e8 := h8 (hL 8 (by decide))
        have e9 := h9 (hL 9 (by decide))
        clear hL h0 h1 h2 h3 h4 h5 h6 h7 h8 h9
        simp only [Exit.then, e0, e1, e2, e3, e4, e5, e6, e7, e8, e9]
        clear e0 e1 e2 e3 e4 e5 e6 e7 e8 e9
        clear B0
        have B0 := s0
        clear s0
        clear B1
        have B1 := s1
        clear s1
        clear hb
        have hb := hB
        clear hB
        clear hbase hz lt_B0 lt_B1
        go_wp2_with fail
        go_roundw
        case rel => exact ⟨j + 1, by go_num, by omega, hb⟩
        case measure => simp [intOf] <;> omega
    · have hjl : ¬ (j : Int) < (R.length : Int) := by omega
      go_wp2_with fail
      go_ret
      exact ⟨rfl, hb⟩
end Go.Proofs.Ytpeehpaghdddgaa
