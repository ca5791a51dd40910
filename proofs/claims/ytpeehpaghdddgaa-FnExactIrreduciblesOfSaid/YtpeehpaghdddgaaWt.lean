/-
  Walks: lists of factors behind their checks, and compared.
  Walks: marks in lists of factors.
  Walks: lists of polynomials, compared, marked, held.
  Walks: lists of monic polynomials.
-/
import Derived.Test.YtpeehpaghdddgaaWs
namespace Go.Proofs.Ytpeehpaghdddgaa
open Go Go.RowKit
set_option linter.unusedVariables false
set_option linter.unusedSimpArgs false
attribute [local irreducible] deg facRows run
/-- the list -/
def fcR (p : Int) (f : Nat → Nat) : List (Nat × Nat) := if spV p f 0 = 0 then run p.toNat 64 1 f else []
theorem fcR_bad {p c : Int} {f : Nat → Nat} (h : spV p f 0 = c) (h2 : c ≠ 0) : fcR p f = [] := by unfold fcR; rw [h, if_neg h2]
theorem fcR_ok {n : Nat} {f : Nat → Nat} (h : spV (n : Int) f 0 = 0) : fcR (n : Int) f = run n 64 1 f := by unfold fcR; rw [if_pos h]; rfl
theorem fcR_len {p : Int} {f : Nat → Nat} (hf : byte f) : (fcR p f).length ≤ 12 := by
  rcases spV_cases (p := p) (f := f) (lo := 0) with ⟨c, hs, hc0, hc12⟩ | ⟨hs, hc, hr1, hr2⟩
  · rw [fcR_bad hs hc0]; exact Nat.zero_le _
  · obtain ⟨n, hn, n2, n7⟩ := okP_nat (codeL_zero hc).1
    subst hn
    rw [fcR_ok hs]
    exact (run_ok (prime_of hc) (lt_of_code hc (f := f) (by simp)) hr1 hr2).1
theorem facRows_nil (p : Nat) : facRows p [] = [] := by unfold facRows; rfl
/-- both answers of FactorsOf -/
def FcF (p : Int) (f : Nat → Nat) (w : World) (e : Ending) (w' : World) : Prop := ∃ v, e = .returned (.tuple #[v, .int .i64 (spV p f 0)]) ∧ SlL w' w.heap.size 102 65 v (facRows p.toNat (fcR p f)) ∧ Below w.heap.size w w'
set_option maxRecDepth 100000 in
set_option maxHeartbeats 3200000 in
theorem spec_FactorsOf_any (p : Int) (f : Nat → Nat) (hf : byte f) (w : World) :
    Calls Try.prog 47 #[.int .i64 p, .agg (bcells 64 f)] w (FcF p f w) := by
  go_enter Try.func47, Try.ntmps47
  go_upto_region 1 with (fail)
  obtain ⟨W1, hwo⟩ : ∃ v : World, v = (w.alloc (.cells (bcells 64 (f)) 26)) := ⟨_, rfl⟩
  have B0 : Blk W1 (w.heap.size) 64 26 (f) := by subst hwo; have := (Blk.new w 64 26 (f)); simpa using this
  have hb : Below w.heap.size w W1 := by subst hwo; exact ((Below.refl _ _).alloc (Nat.le_refl _) _)
  rw [← hwo]
  clear hwo
  go_upto_region 2 with (first | (refine wpList_load_any rfl 26 (.tmp 3) rfl _ rfl 64 26 _ (B0) _ Try.underlying26 rfl Try.size26 ?_) | (go_at_call 97; refine (l02Degree_any p f hf 0 (by decide) (by decide) _).mono ?_; rintro e W2 ⟨rfl, hW2⟩; replace B0 := B0.below hW2 B0.lt; replace hb := (hb).trans (hW2.mono (hb).size)))
  rcases spV_cases (p := p) (f := f) (lo := 0) with ⟨c, hs, hc0, hc12⟩ | ⟨hs, hc, hr1, hr2⟩
  · have HV := Lib.hid (fcR_bad hs hc0)
    have HS := Lib.hid hs
    rw [hs]
    clear hs
    have hb1 : ((c : Int) != 0) = true := by simp [hc0]
    go_wp2_with fail
    go_ret2
    exact ⟨_, by rw [HS.out]; rfl, by rw [HV.out, facRows_nil]; exact SlL.nil _ _ hb.size, hb⟩
  · obtain ⟨n, hn, n2, n7⟩ := okP_nat (codeL_zero hc).1
    subst hn
    have lf := lt_of_code hc (f := f) (by simp)
    have hpr := prime_of hc
    have HV := Lib.hid (fcR_ok hs)
    have HS := Lib.hid hs
    rw [hs]
    clear hs hc
    have HFA := Lib.hid (fun W => l02Split_any n f W hpr lf (by omega) (by omega))
    go_upto_region 4 with (fail)
    go_wp2_with (first | (refine wpList_load_any rfl 26 (.tmp 3) rfl _ rfl 64 26 _ B0 _ Try.underlying26 rfl Try.size26 ?_) | (go_at_call 104; refine (HFA.out _).mono ?_; rintro e W3 ⟨lst, rfl, hS, hW3⟩; have hbw := hb.size; replace hb := (hb).trans (hW3.mono (hb).size); replace hS := hS.base hbw))
    go_ret2
    exact ⟨_, by rw [HS.out]; rfl, by rw [HV.out, Int.toNat_natCast]; exact hS, hb⟩
set_option maxRecDepth 100000 in
set_option maxHeartbeats 3200000 in
theorem impl_FactorsOf_any (p : Int) (f : Nat → Nat) (hf : byte f) (w : World) :
    Calls Try.prog 48 #[.int .i64 p, .agg (bcells 64 f)] w (FcF p f w) := by
  go_enter Try.func48, Try.ntmps48
  go_upto_region 1 with (fail)
  obtain ⟨W1, hwo⟩ : ∃ v : World, v = (w.alloc (.cells (bcells 64 (f)) 26)) := ⟨_, rfl⟩
  have B0 : Blk W1 (w.heap.size) 64 26 (f) := by subst hwo; have := (Blk.new w 64 26 (f)); simpa using this
  have hb : Below w.heap.size w W1 := by subst hwo; exact ((Below.refl _ _).alloc (Nat.le_refl _) _)
  rw [← hwo]
  clear hwo
  go_upto_region 2 with (first | (refine wpList_load_any rfl 26 (.tmp 3) rfl _ rfl 64 26 _ (B0) _ Try.underlying26 rfl Try.size26 ?_) | (go_at_call 100; refine (checkSplit_any p f hf 0 (by decide) (by decide) _).mono ?_; rintro e W2 ⟨rfl, hW2⟩; replace B0 := B0.below hW2 B0.lt; replace hb := (hb).trans (hW2.mono (hb).size)))
  rcases spV_cases (p := p) (f := f) (lo := 0) with ⟨c, hs, hc0, hc12⟩ | ⟨hs, hc, hr1, hr2⟩
  · have HV := Lib.hid (fcR_bad hs hc0)
    have HS := Lib.hid hs
    rw [hs]
    clear hs
    have hb1 : ((c : Int) != 0) = true := by simp [hc0]
    go_wp2_with fail
    go_ret2
    exact ⟨_, by rw [HS.out]; rfl, by rw [HV.out, facRows_nil]; exact SlL.nil _ _ hb.size, hb⟩
  · obtain ⟨n, hn, n2, n7⟩ := okP_nat (codeL_zero hc).1
    subst hn
    have lf := lt_of_code hc (f := f) (by simp)
    have hpr := prime_of hc
    have HV := Lib.hid (fcR_ok hs)
    have HS := Lib.hid hs
    rw [hs]
    clear hs hc
    have HFA := Lib.hid (fun W => factorsOf_any n f W hpr lf (by omega) (by omega))
    go_upto_region 4 with (fail)
    go_wp2_with (first | (refine wpList_load_any rfl 26 (.tmp 3) rfl _ rfl 64 26 _ B0 _ Try.underlying26 rfl Try.size26 ?_) | (go_at_call 105; refine (HFA.out _).mono ?_; rintro e W3 ⟨lst, rfl, hS, hW3⟩; have hbw := hb.size; replace hb := (hb).trans (hW3.mono (hb).size); replace hS := hS.base hbw))
    go_ret2
    exact ⟨_, by rw [HS.out]; rfl, by rw [HV.out, Int.toNat_natCast]; exact hS, hb⟩
set_option maxRecDepth 100000 in
set_option maxHeartbeats 3200000 in
theorem eqFactor_same (f : Nat → Nat) (k : Nat) (w : World) :
    Calls Try.prog 106 #[.agg (facC f k).toArray, .agg (facC f k).toArray] w fun e w' => e = .returned (.bool true) ∧ Below w.heap.size w w' := by
  go_enter Try.func106, Try.ntmps106
  go_upto_region 1 with (fail)
  obtain ⟨W1, hwo⟩ : ∃ v : World, v = ((w.alloc (.cells (facC f k).toArray 102)).alloc (.cells (facC f k).toArray 102)) := ⟨_, rfl⟩
  have B0 : Row W1 w.heap.size 102 (facC f k).toArray := by subst hwo; exact (Row.new w 102 (facC f k).toArray).alloc _
  have B1 : Row W1 (w.heap.size + 1) 102 (facC f k).toArray := by subst hwo; have := Row.new (w.alloc (.cells (facC f k).toArray 102)) 102 (facC f k).toArray; simpa using this
  have hb : Below w.heap.size w W1 := by subst hwo; exact (((Below.refl _ _).alloc (Nat.le_refl _) _).alloc (by simp) _)
  rw [← hwo]
  clear hwo
  have hr0 : W1.rangeAt w.heap.size 0 (bl 64 f) := fun j u hu => B0.range j u (by unfold facC; rw [List.getElem?_append_left (List.getElem?_eq_some_iff.1 hu).1]; exact hu)
  have hr1 : W1.rangeAt (w.heap.size + 1) 0 (bl 64 f) := fun j u hu => B1.range j u (by unfold facC; rw [List.getElem?_append_left (List.getElem?_eq_some_iff.1 hu).1]; exact hu)
  go_upto_region 3 with (first | (refine wpList_load_mid rfl 26 (.tmp 5) rfl w.heap.size 0 rfl (bl 64 f) _ hr0 Try.underlying26 rfl (by rw [bl_length]; exact Try.size26) ?_) | (refine wpList_load_mid rfl 26 (.tmp 7) rfl (w.heap.size + 1) 0 rfl (bl 64 f) _ hr1 Try.underlying26 rfl (by rw [bl_length]; exact Try.size26) ?_) | (go_at_call 31; refine (eqPoly_same f f (fun _ _ => rfl) _).mono ?_; rintro e W2 ⟨rfl, h2⟩; replace B0 := B0.below h2 B0.lt; replace B1 := B1.below h2 B1.lt; replace hb := hb.trans (h2.mono hb.size)))
  clear hr0 hr1
  have cc0 := B0.cell (facC_at f k)
  have cc1 := B1.cell (facC_at f k)
  have hne : ((k : Int) != (k : Int)) = false := by simp
  go_wp2_with fail
  go_ret
  exact ⟨rfl, hb⟩
set_option maxRecDepth 100000 in
set_option maxHeartbeats 3200000 in
theorem eqFactorS_same (n : Nat) (R : List (Nat × Nat)) (a1 a2 : Option Addr) (cap1 cap2 base1 base2 : Nat) (w : World) (h1 : SlL w base1 102 65 (.slice a1 R.length cap1) (facRows n R)) (h2 : SlL w base2 102 65 (.slice a2 R.length cap2) (facRows n R)) (hR : R.length ≤ 12) :
    Calls Try.prog 49 #[.slice a1 R.length cap1, .slice a2 R.length cap2] w fun e w' => e = .returned (.bool true) ∧ Below w.heap.size w w' := by
  go_enter Try.func49, Try.ntmps49
  go_wp2_with fail
  go_loopw [5] (fun i wr => ∃ j : Nat, i = .int .i64 (j : Int) ∧ j ≤ R.length ∧ Below w.heap.size w wr) (fun i _ => R.length - (intOf i).toNat)
  case atStart => exact ⟨0, rfl, Nat.zero_le _, Below.refl _ _⟩
  case round =>
    obtain ⟨j, rfl, hjR, hb⟩ := hrel
    by_cases hj : j < R.length
    · obtain ⟨x, hx⟩ : ∃ x, R[j]? = some x := ⟨_, List.getElem?_eq_getElem hj⟩
      obtain ⟨g1, rfl⟩ := h1.some (by rw [facRows_len]; omega)
      obtain ⟨g2, rfl⟩ := h2.some (by rw [facRows_len]; omega)
      have hrow : (facRows n R)[j]? = some (facC (ofN n x.1) x.2) := by unfold facRows; rw [List.getElem?_map, hx]; rfl
      have B0 : SlL wr base1 102 65 (.slice (some ⟨g1, 0, none⟩) R.length cap1) (facRows n R) := h1.below hb h1.lt
      have B1 : SlL wr base2 102 65 (.slice (some ⟨g2, 0, none⟩) R.length cap2) (facRows n R) := h2.below hb h2.lt
      have hjl : (j : Int) < (R.length : Int) := by omega
      clear h1 h2
      go_upto_region 6 with (fail)
      have lt_B0 : (base1) ≤ wr.heap.size := B0.lt
      have lt_B1 : (base2) ≤ wr.heap.size := B1.lt
      have hbase : w.heap.size ≤ wr.heap.size := hb.size
      refine wp_region_steps0 Try.mixed (by kernel_rfl) (by kernel_rfl) (fun v => by (simp only [frL, Act.put, List.setIfInBounds_toArray, List.set_cons_zero, List.set_cons_succ, Nat.reduceAdd, Nat.zero_add]; exact rfl))
        (fun L v W1 => Below w.heap.size w W1 ∧ wr.heap.size ≤ W1.heap.size ∧ SlL W1 base1 102 65 (.slice (some ⟨g1, 0, none⟩) R.length cap1) (facRows n R) ∧ SlL W1 base2 102 65 (.slice (some ⟨g2, 0, none⟩) R.length cap2) (facRows n R) ∧ (L 0 = true → v 0 = (.slice (some ⟨g1, 0, none⟩) R.length cap1)) ∧ (L 1 = true → v 1 = (.int .i64 (j : Int))) ∧ (L 2 = true → v 2 = (.pointer (some ⟨g1, j * 65, none⟩))) ∧ (L 3 = true → v 3 = (.agg (facC (ofN n x.1) x.2).toArray)) ∧ (L 4 = true → v 4 = (.slice (some ⟨g2, 0, none⟩) R.length cap2)) ∧ (L 5 = true → v 5 = (.int .i64 (j : Int))) ∧ (L 6 = true → v 6 = (.pointer (some ⟨g2, j * 65, none⟩))) ∧ (L 7 = true → v 7 = (.agg (facC (ofN n x.1) x.2).toArray)) ∧ (L 8 = true → v 8 = (.bool true)) ∧ (L 9 = true → v 9 = (.bool false))) ?_ ?_ ?_
      · intro v hv0
        exact ⟨hb.drew, Nat.le_refl _, B0.drew, B1.drew, (fun h => by cases h), (fun h => by cases h), (fun h => by cases h), (fun h => by cases h), (fun h => by cases h), (fun h => by cases h), (fun h => by cases h), (fun h => by cases h), (fun h => by cases h), (fun h => by cases h)⟩
      · refine (.cons rfl ?_ (.cons rfl ?_ (.cons rfl ?_ (.cons rfl ?_ (.cons rfl ?_ (.cons rfl ?_ (.cons rfl ?_ (.cons rfl ?_ (.cons rfl ?_ (.cons rfl ?_ (.nil _)))))))))))
        · intro L v W1 hd hn ⟨hB, hz, s0, s1, h0, h1, h2, h3, h4, h5, h6, h7, h8, h9⟩ K hK
          go_wp2_with fail
          exact hK _ (.slice (some ⟨g1, 0, none⟩) R.length cap1) _ (by simp only [Act.put, List.setIfInBounds_toArray, List.set_cons_zero, List.set_cons_succ ]) ⟨hB, hz, s0, s1, (fun _ => rfl), h1, h2, h3, h4, h5, h6, h7, h8, h9⟩
        · intro L v W1 hd hn ⟨hB, hz, s0, s1, h0, h1, h2, h3, h4, h5, h6, h7, h8, h9⟩ K hK
          go_wp2_with fail
          exact hK _ (.int .i64 (j : Int)) _ (by simp only [Act.put, List.setIfInBounds_toArray, List.set_cons_zero, List.set_cons_succ ]) ⟨hB, hz, s0, s1, h0, (fun _ => rfl), h2, h3, h4, h5, h6, h7, h8, h9⟩
        · intro L v W1 hd hn ⟨hB, hz, s0, s1, h0, h1, h2, h3, h4, h5, h6, h7, h8, h9⟩ K hK
          have e0 := h0 (hd ⟨0, .data⟩ (by simp) rfl)
          have e1 := h1 (hd ⟨1, .data⟩ (by simp) rfl)
          go_wp2_with fail
          exact hK _ (.pointer (some ⟨g1, j * 65, none⟩)) _ (by simp only [Act.put, List.setIfInBounds_toArray, List.set_cons_zero, List.set_cons_succ, e0, e1]) ⟨hB, hz, s0, s1, h0, h1, (fun _ => rfl), h3, h4, h5, h6, h7, h8, h9⟩
        · intro L v W1 hd hn ⟨hB, hz, s0, s1, h0, h1, h2, h3, h4, h5, h6, h7, h8, h9⟩ K hK
          have e2 := h2 (hd ⟨2, .data⟩ (by simp) rfl)
          have hr := (s0).range hrow
          refine wp_load_mid 102 _ rfl _ (j * 65) e2 _ _ hr Try.underlying102 rfl (by rw [facC_len]; exact Try.size102) ?_
          exact hK _ _ _ rfl ⟨hB, hz, s0, s1, h0, h1, h2, (fun _ => rfl), h4, h5, h6, h7, h8, h9⟩
        · intro L v W1 hd hn ⟨hB, hz, s0, s1, h0, h1, h2, h3, h4, h5, h6, h7, h8, h9⟩ K hK
          go_wp2_with fail
          exact hK _ (.slice (some ⟨g2, 0, none⟩) R.length cap2) _ (by simp only [Act.put, List.setIfInBounds_toArray, List.set_cons_zero, List.set_cons_succ ]) ⟨hB, hz, s0, s1, h0, h1, h2, h3, (fun _ => rfl), h5, h6, h7, h8, h9⟩
        · intro L v W1 hd hn ⟨hB, hz, s0, s1, h0, h1, h2, h3, h4, h5, h6, h7, h8, h9⟩ K hK
          go_wp2_with fail
          exact hK _ (.int .i64 (j : Int)) _ (by simp only [Act.put, List.setIfInBounds_toArray, List.set_cons_zero, List.set_cons_succ ]) ⟨hB, hz, s0, s1, h0, h1, h2, h3, h4, (fun _ => rfl), h6, h7, h8, h9⟩
        · intro L v W1 hd hn ⟨hB, hz, s0, s1, h0, h1, h2, h3, h4, h5, h6, h7, h8, h9⟩ K hK
          have e4 := h4 (hd ⟨4, .data⟩ (by simp) rfl)
          have e5 := h5 (hd ⟨5, .data⟩ (by simp) rfl)
          go_wp2_with fail
          exact hK _ (.pointer (some ⟨g2, j * 65, none⟩)) _ (by simp only [Act.put, List.setIfInBounds_toArray, List.set_cons_zero, List.set_cons_succ, e4, e5]) ⟨hB, hz, s0, s1, h0, h1, h2, h3, h4, h5, (fun _ => rfl), h7, h8, h9⟩
        · intro L v W1 hd hn ⟨hB, hz, s0, s1, h0, h1, h2, h3, h4, h5, h6, h7, h8, h9⟩ K hK
          have e6 := h6 (hd ⟨6, .data⟩ (by simp) rfl)
          have hr := (s1).range hrow
          refine wp_load_mid 102 _ rfl _ (j * 65) e6 _ _ hr Try.underlying102 rfl (by rw [facC_len]; exact Try.size102) ?_
          exact hK _ _ _ rfl ⟨hB, hz, s0, s1, h0, h1, h2, h3, h4, h5, h6, (fun _ => rfl), h8, h9⟩
        · intro L v W1 hd hn ⟨hB, hz, s0, s1, h0, h1, h2, h3, h4, h5, h6, h7, h8, h9⟩ K hK
          have e3 := h3 (hd ⟨3, .data⟩ (by simp) rfl)
          have e7 := h7 (hd ⟨7, .data⟩ (by simp) rfl)
          go_wp2_with (go_at_call 106; refine (eqFactor_same _ _ _).mono ?_; rintro e wy ⟨rfl, hy⟩)
          exact hK _ (.bool true) _ (by simp only [Act.put, List.setIfInBounds_toArray, List.set_cons_zero, List.set_cons_succ, e3, e7]) ⟨hB.trans (hy.mono hB.size), (Nat.le_trans hz hy.size), (s0).below hy (s0).lt, (s1).below hy (s1).lt, h0, h1, h2, h3, h4, h5, h6, h7, (fun _ => rfl), h9⟩
        · intro L v W1 hd hn ⟨hB, hz, s0, s1, h0, h1, h2, h3, h4, h5, h6, h7, h8, h9⟩ K hK
          have e8 := h8 (hd ⟨8, .data⟩ (by simp) rfl)
          go_wp2_with fail
          exact hK _ (.bool false) _ (by simp only [Act.put, List.setIfInBounds_toArray, List.set_cons_zero, List.set_cons_succ, e8]) ⟨hB, hz, s0, s1, h0, h1, h2, h3, h4, h5, h6, h7, h8, (fun _ => rfl)⟩
      · intro L v W1 hL ⟨hB, hz, s0, s1, h0, h1, h2, h3, h4, h5, h6, h7, h8, h9⟩
        have e0 := h0 (hL 0 (by decide))
        have e1 := h1 (hL 1 (by decide))
        have e2 := h2 (hL 2 (by decide))
        have e3 := h3 (hL 3 (by decide))
        have e4 := h4 (hL 4 (by decide))
        have e5 := h5 (hL 5 (by decide))
        have e6 := h6 (hL 6 (by decide))
        have e7 := h7 (hL 7 (by decide))
        have e8 := h8 (hL 8 (by decide))
        have e9 := h9 (hL 9 (by decide))
        clear hL h0 h1 h2 h3 h4 h5 h6 h7 h8 h9
        simp only [Exit.then, e0, e1, e2, e3, e4, e5, e6, e7, e8, e9]
        clear e0 e1 e2 e3 e4 e5 e6 e7 e8 e9
        clear B0
        have B0 := s0
        clear s0
        clear B1
        have B1 := s1
        clear s1
        clear hb
        have hb := hB
        clear hB
        clear hbase hz lt_B0 lt_B1
        go_wp2_with fail
        go_roundw
        case rel => exact ⟨j + 1, by go_num, by omega, hb⟩
        case measure => simp [intOf] <;> omega
    · have hjl : ¬ (j : Int) < (R.length : Int) := by omega
      go_wp2_with fail
      go_ret
      exact ⟨rfl, hb⟩
end Go.Proofs.Ytpeehpaghdddgaa
namespace Go.Proofs.Ytpeehpaghdddgaa
open Go Go.RowKit
set_option linter.unusedVariables false
set_option linter.unusedSimpArgs false
/-- the mark of a cell -/
def mkF (q : Nat) : Value := if q % 65 = 64 then .int .i64 (1 + (q : Int)) else .int .u8 ((1 + (q : Int)) % 256)
theorem mkF_u {q : Nat} (h : ¬ q % 65 = 64) : mkF q = .int .u8 ((1 + (q : Int)) % 256) := by unfold mkF; rw [if_neg h]
theorem mkF_i {q : Nat} (h : q % 65 = 64) : mkF q = .int .i64 (1 + (q : Int)) := by unfold mkF; rw [if_pos h]
/-- the first q cells of a slice are marked -/
def MkF (w : World) (base : Nat) (v : Value) (n q : Nat) : Prop := ∃ ys, w.ownsRow base 102 65 v n ys ∧ ∀ k, k < q → ys[k]? = some (mkF k)
theorem mkF_some {w : World} {base n q cap : Nat} {a : Option Addr} (h : MkF w base (.slice a n cap) n q) (hn : 0 < n) : ∃ g, a = some ⟨g, 0, none⟩ := by
  obtain ⟨ys, h1, _⟩ := h
  rcases h1.2 with ⟨h2, h3⟩ | ⟨g, c, cur, h2, _⟩
  · omega
  · injection h2 with h2; exact ⟨g, h2⟩
theorem MkF.len {w : World} {base n q : Nat} {v : Value} (h : MkF w base v n q) : True := trivial
theorem SlL.marks {w : World} {base n : Nat} {v : Value} {cs : List (List Value)} (h : SlL w base 102 65 v cs) (hn : cs.length = n) : MkF w base v n 0 := by
  delta SlL at h
  exact ⟨cs.flatten, hn ▸ h.2.2, fun k hk => absurd hk (by omega)⟩
theorem MkF.own {w : World} {base n q : Nat} {v : Value} (h : MkF w base v n q) : ∀ r, v.ownBlock = Option.some r → base ≤ r ∧ r < w.heap.size := by
  obtain ⟨ys, h1, _⟩ := h
  exact fun r hr => h1.lt r hr
theorem MkF.grown {w w' : World} {base n q : Nat} {v : Value} {row : Option Nat} (h : MkF w base v n q) (hg : w.grownBy w' row) (hr : v.ownBlock = none ∨ v.ownBlock ≠ row) : MkF w' base v n q := by
  obtain ⟨ys, h1, h2⟩ := h
  exact ⟨ys, h1.kept hg hr, h2⟩
theorem MkF.below {w w' : World} {base n q : Nat} {v : Value} (h : MkF w base v n q) (hb : Below w.heap.size w w') : MkF w' base v n q :=
  h.grown (row := none) ⟨hb.os, hb.tape, hb.output, hb.size, fun k hk _ => hb.block k hk⟩ (by
    cases hv : v.ownBlock with
    | none => exact .inl rfl
    | some k => exact .inr (by simp))
theorem MkF.step {w : World} {base n q g cap : Nat} (h : MkF w base (.slice (some ⟨g, 0, none⟩) n cap) n q) (hq : q < n * 65) :
    (∃ u, w.cell? ⟨g, q, none⟩ = Option.some u) ∧ w.frozen? ⟨g, q, none⟩ = false ∧ MkF (w.setCell ⟨g, q, none⟩ (mkF q)) base (.slice (some ⟨g, 0, none⟩) n cap) n (q + 1) ∧ w.grownBy (w.setCell ⟨g, q, none⟩ (mkF q)) (Option.some g) := by
  obtain ⟨ys, h1, h2⟩ := h
  have hl : q < ys.length := by rw [h1.1]; exact hq
  obtain ⟨s1, s2⟩ := h1.stored q (mkF q)
  refine ⟨⟨ys[q], by rw [h1.cellAt q hq]; exact List.getElem?_eq_getElem hl⟩, h1.frozenAt q, ⟨_, s1, fun k hk => ?_⟩, s2⟩
  rw [List.getElem?_set]
  by_cases e : q = k
  · subst e; rw [if_pos rfl, if_pos hl]
  · rw [if_neg e]; exact h2 k (by omega)
theorem MkF.cell {w : World} {base n q g cap k : Nat} (h : MkF w base (.slice (some ⟨g, 0, none⟩) n cap) n q) (hk : k < q) (hq : q ≤ n * 65) : w.cell? ⟨g, k, none⟩ = Option.some (mkF k) := by
  obtain ⟨ys, h1, h2⟩ := h
  rw [h1.cellAt k (by omega)]
  exact h2 k hk
theorem MkF.same {w : World} {base n q : Nat} {v : Value} (h : MkF w base v n q) (r : Nat) (e : r = q) : MkF w base v n r := e ▸ h
theorem grown_trans {w w1 w2 : World} {row : Option Nat} (h1 : w.grownBy w1 row) (h2 : w1.grownBy w2 row) : w.grownBy w2 row :=
  ⟨h2.os.trans h1.os, h2.tape.trans h1.tape, h2.output.trans h1.output, Nat.le_trans h1.size h2.size, fun k hk hr => (h2.block k (Nat.lt_of_lt_of_le hk h1.size) hr).trans (h1.block k hk hr)⟩
theorem grown_refl (w : World) (row : Option Nat) : w.grownBy w row := ⟨rfl, rfl, rfl, Nat.le_refl _, fun _ _ _ => rfl⟩
theorem slL_apart {w w' : World} {base size : Nat} {e : TypeId} {v : Value} {cs : List (List Value)} {row : Option Nat} (h : SlL w base e size v cs) (hg : w.grownBy w' row) (hr : v.ownBlock = none ∨ v.ownBlock ≠ row) : SlL w' base e size v cs := by
  delta SlL at *
  exact ⟨Nat.le_trans h.1 hg.size, h.2.1, h.2.2.kept hg hr⟩
attribute [local irreducible] mkF MkF
set_option maxRecDepth 100000 in
set_option maxHeartbeats 3200000 in
theorem markFactorS_any (n : Nat) (a0 : Option Addr) (cap base : Nat) (w : World) (h : MkF w base (.slice a0 n cap) n 0) (hn : n ≤ 12) :
    Calls Try.prog 50 #[.slice a0 n cap, .int .i64 1] w fun e w' => e = .returned (.int .i64 ((1 + 65 * n : Nat) : Int)) ∧ MkF w' base (.slice a0 n cap) n (65 * n) ∧ w.grownBy w' (Value.slice a0 n cap).ownBlock := by
  go_enter Try.func50, Try.ntmps50
  go_wp2_with fail
  go_loopw [1, 5] (fun x i wr => ∃ j X : Nat, x = .int .i64 (X : Int) ∧ X = 1 + 65 * j ∧ i = .int .i64 (j : Int) ∧ j ≤ n ∧ MkF wr base (.slice a0 n cap) n (65 * j) ∧ w.grownBy wr (Value.slice a0 n cap).ownBlock) (fun _ i _ => n - (intOf i).toNat)
  case atStart => exact ⟨0, 1, rfl, rfl, rfl, Nat.zero_le _, h, grown_refl _ _⟩
  case round =>
    clear h
    obtain ⟨j, X, rfl, hX, rfl, hjn, hM, hG⟩ := hrel
    by_cases hj : j < n
    · have hjl : (j : Int) < (n : Int) := by omega
      obtain ⟨g, rfl⟩ := mkF_some hM (by omega)
      have hX2 : X ≤ 781 := by omega
      have HX := Lib.hid hX
      clear hX
      go_wp2_with fail
      go_loopw [1, 6] (fun x i wr => ∃ k X : Nat, x = .int .i64 (X : Int) ∧ X = 1 + 65 * j + k ∧ i = .int .i64 (k : Int) ∧ k ≤ 64 ∧ MkF wr base (.slice (some ⟨g, 0, none⟩) n cap) n (65 * j + k) ∧ w.grownBy wr (some g)) (fun _ i _ => 64 - (intOf i).toNat)
      case atStart => exact ⟨0, X, rfl, by have := HX.out; omega, rfl, by omega, hM, hG⟩
      case round =>
        clear hM hG HX
        obtain ⟨k, X, rfl, hX, rfl, hk, hM, hG⟩ := hrel
        have hX2 : X ≤ 845 := by omega
        have HX := Lib.hid hX
        clear hX
        have HQ := Lib.hid (show j * 65 + k = 65 * j + k by omega)
        by_cases hlt : k < 64
        · obtain ⟨⟨u, hc⟩, hz, hM2, hG2⟩ := hM.step (by omega)
          have e1 : mkF (65 * j + k) = .int .u8 ((X : Int) % 256) := by
            rw [mkF_u (by omega), show (1 + ((65 * j + k : Nat) : Int)) = (X : Int) by have := HX.out; omega]
          rw [e1, ← HQ.out] at hM2 hG2
          rw [← HQ.out] at hc hz
          have HM2 := Lib.hid hM2
          have HG2 := Lib.hid (grown_trans hG hG2)
          clear hM2 hG2 hM hG e1
          go_wp2_with fail
          go_roundw
          case rel => exact ⟨k + 1, X + 1, by go_num, by have := HX.out; omega, by go_num, by omega, HM2.out.same _ (by omega), HG2.out⟩
          case measure => simp [intOf] <;> omega
        · have e : k = 64 := by omega
          subst e
          obtain ⟨⟨u, hc⟩, hz, hM2, hG2⟩ := hM.step (by omega)
          have e1 : mkF (65 * j + 64) = .int .i64 (X : Int) := by
            rw [mkF_i (by omega), show (1 + ((65 * j + 64 : Nat) : Int)) = (X : Int) by have := HX.out; omega]
          rw [e1, ← HQ.out] at hM2 hG2
          rw [← HQ.out] at hc hz
          have HM2 := Lib.hid hM2
          have HG2 := Lib.hid (grown_trans hG hG2)
          clear hM2 hG2 hM hG e1
          go_wp2_with fail
          go_roundw
          case rel => exact ⟨j + 1, X + 1, by go_num, by have := HX.out; omega, by go_num, by omega, HM2.out.same _ (by omega), HG2.out⟩
          case measure => simp [intOf] <;> omega
    · have hjl : ¬ (j : Int) < (n : Int) := by omega
      have e : j = n := by omega
      subst e
      go_wp2_with fail
      go_ret
      exact ⟨ret_int (by push_cast; rfl), hM, hG⟩
set_option maxRecDepth 100000 in
set_option maxHeartbeats 3200000 in
theorem heldFactorS_any (n : Nat) (a0 : Option Addr) (cap base : Nat) (w : World) (h : MkF w base (.slice a0 n cap) n (65 * n)) (hn : n ≤ 12) :
    Calls Try.prog 51 #[.slice a0 n cap, .int .i64 1] w fun e w' => e = .returned (.int .i64 ((1 + 65 * n : Nat) : Int)) ∧ w = w' := by
  go_enter Try.func51, Try.ntmps51
  go_wp2_with fail
  go_loopw [1, 5] (fun x i wr => ∃ j X : Nat, x = .int .i64 (X : Int) ∧ X = 1 + 65 * j ∧ i = .int .i64 (j : Int) ∧ j ≤ n ∧ wr = w) (fun _ i _ => n - (intOf i).toNat)
  case atStart => exact ⟨0, 1, rfl, rfl, rfl, Nat.zero_le _, rfl⟩
  case round =>
    obtain ⟨j, X, rfl, hX, rfl, hjn, rfl⟩ := hrel
    by_cases hj : j < n
    · have hjl : (j : Int) < (n : Int) := by omega
      obtain ⟨g, rfl⟩ := mkF_some h (by omega)
      have hX2 : X ≤ 781 := by omega
      have HX := Lib.hid hX
      clear hX
      go_wp2_with fail
      go_loopw [1, 6] (fun x i wr2 => ∃ k X : Nat, x = .int .i64 (X : Int) ∧ X = 1 + 65 * j + k ∧ i = .int .i64 (k : Int) ∧ k ≤ 64 ∧ wr2 = wr) (fun _ i _ => 64 - (intOf i).toNat)
      case atStart => exact ⟨0, X, rfl, by have := HX.out; omega, rfl, by omega, rfl⟩
      case round =>
        clear HX
        obtain ⟨k, X, rfl, hX, rfl, hk, rfl⟩ := hrel
        have hX2 : X ≤ 845 := by omega
        have HX := Lib.hid hX
        clear hX
        have HQ := Lib.hid (show j * 65 + k = 65 * j + k by omega)
        by_cases hlt : k < 64
        · have e1 : mkF (65 * j + k) = .int .u8 ((X : Int) % 256) := by
            rw [mkF_u (by omega), show (1 + ((65 * j + k : Nat) : Int)) = (X : Int) by have := HX.out; omega]
          have hc := MkF.cell h (k := 65 * j + k) (by omega) (by omega)
          rw [e1, ← HQ.out] at hc
          have hne : (((X : Int) % 256) != ((X : Int) % 256)) = false := by simp
          clear e1
          go_wp2_with fail
          go_roundw
          case rel => exact ⟨k + 1, X + 1, by go_num, by have := HX.out; omega, by go_num, by omega, trivial⟩
          case measure => simp [intOf] <;> omega
        · have e : k = 64 := by omega
          subst e
          have e1 : mkF (65 * j + 64) = .int .i64 (X : Int) := by
            rw [mkF_i (by omega), show (1 + ((65 * j + 64 : Nat) : Int)) = (X : Int) by have := HX.out; omega]
          have hc := MkF.cell h (k := 65 * j + 64) (by omega) (by omega)
          rw [e1, ← HQ.out] at hc
          have hne : ((X : Int) != (X : Int)) = false := by simp
          clear e1
          go_wp2_with fail
          go_roundw
          case rel => exact ⟨j + 1, X + 1, by go_num, by have := HX.out; omega, by go_num, by omega, trivial⟩
          case measure => simp [intOf] <;> omega
    · have hjl : ¬ (j : Int) < (n : Int) := by omega
      have e : j = n := by omega
      subst e
      go_wp2_with fail
      go_ret
      exact ⟨ret_int (by push_cast; rfl), rfl⟩
end Go.Proofs.Ytpeehpaghdddgaa
namespace Go.Proofs.Ytpeehpaghdddgaa
open Go Go.RowKit
set_option linter.unusedVariables false
set_option linter.unusedSimpArgs false
/-- the rows of polynomials -/
def plR (L : List (Nat → Nat)) : List (List Value) := L.map fun f => bl 64 f
theorem plR_snoc (L : List (Nat → Nat)) (x : Nat → Nat) : plR (L ++ [x]) = plR L ++ [bl 64 x] := by simp [plR]
theorem plR_len (L : List (Nat → Nat)) : (plR L).length = L.length := by simp [plR]
theorem plR_nil : plR [] = [] := rfl
attribute [irreducible] plR
/-- the mark of a cell -/
def mkP (q : Nat) : Value := .int .u8 ((1 + (q : Int)) % 256)
/-- the first q cells of a slice are marked -/
def MkP (w : World) (base : Nat) (v : Value) (n q : Nat) : Prop := ∃ ys, w.ownsRow base 26 64 v n ys ∧ ∀ k, k < q → ys[k]? = some (mkP k)
theorem mkP_some {w : World} {base n q cap : Nat} {a : Option Addr} (h : MkP w base (.slice a n cap) n q) (hn : 0 < n) : ∃ g, a = some ⟨g, 0, none⟩ := by
  obtain ⟨ys, h1, _⟩ := h
  rcases h1.2 with ⟨h2, h3⟩ | ⟨g, c, cur, h2, _⟩
  · omega
  · injection h2 with h2; exact ⟨g, h2⟩
theorem MkP.len {w : World} {base n q : Nat} {v : Value} (h : MkP w base v n q) : True := trivial
theorem SlL.marksP {w : World} {base n : Nat} {v : Value} {cs : List (List Value)} (h : SlL w base 26 64 v cs) (hn : cs.length = n) : MkP w base v n 0 := by
  delta SlL at h
  exact ⟨cs.flatten, hn ▸ h.2.2, fun k hk => absurd hk (by omega)⟩
theorem MkP.own {w : World} {base n q : Nat} {v : Value} (h : MkP w base v n q) : ∀ r, v.ownBlock = Option.some r → base ≤ r ∧ r < w.heap.size := by
  obtain ⟨ys, h1, _⟩ := h
  exact fun r hr => h1.lt r hr
theorem MkP.grown {w w' : World} {base n q : Nat} {v : Value} {row : Option Nat} (h : MkP w base v n q) (hg : w.grownBy w' row) (hr : v.ownBlock = none ∨ v.ownBlock ≠ row) : MkP w' base v n q := by
  obtain ⟨ys, h1, h2⟩ := h
  exact ⟨ys, h1.kept hg hr, h2⟩
theorem MkP.below {w w' : World} {base n q : Nat} {v : Value} (h : MkP w base v n q) (hb : Below w.heap.size w w') : MkP w' base v n q :=
  h.grown (row := none) ⟨hb.os, hb.tape, hb.output, hb.size, fun k hk _ => hb.block k hk⟩ (by
    cases hv : v.ownBlock with
    | none => exact .inl rfl
    | some k => exact .inr (by simp))
theorem MkP.step {w : World} {base n q g cap : Nat} (h : MkP w base (.slice (some ⟨g, 0, none⟩) n cap) n q) (hq : q < n * 64) :
    (∃ u, w.cell? ⟨g, q, none⟩ = Option.some u) ∧ w.frozen? ⟨g, q, none⟩ = false ∧ MkP (w.setCell ⟨g, q, none⟩ (mkP q)) base (.slice (some ⟨g, 0, none⟩) n cap) n (q + 1) ∧ w.grownBy (w.setCell ⟨g, q, none⟩ (mkP q)) (Option.some g) := by
  obtain ⟨ys, h1, h2⟩ := h
  have hl : q < ys.length := by rw [h1.1]; exact hq
  obtain ⟨s1, s2⟩ := h1.stored q (mkP q)
  refine ⟨⟨ys[q], by rw [h1.cellAt q hq]; exact List.getElem?_eq_getElem hl⟩, h1.frozenAt q, ⟨_, s1, fun k hk => ?_⟩, s2⟩
  rw [List.getElem?_set]
  by_cases e : q = k
  · subst e; rw [if_pos rfl, if_pos hl]
  · rw [if_neg e]; exact h2 k (by omega)
theorem MkP.cell {w : World} {base n q g cap k : Nat} (h : MkP w base (.slice (some ⟨g, 0, none⟩) n cap) n q) (hk : k < q) (hq : q ≤ n * 64) : w.cell? ⟨g, k, none⟩ = Option.some (mkP k) := by
  obtain ⟨ys, h1, h2⟩ := h
  rw [h1.cellAt k (by omega)]
  exact h2 k hk
theorem MkP.same {w : World} {base n q : Nat} {v : Value} (h : MkP w base v n q) (r : Nat) (e : r = q) : MkP w base v n r := e ▸ h
attribute [local irreducible] mkP MkP
set_option maxRecDepth 100000 in
set_option maxHeartbeats 3200000 in
theorem eqPolyS_same (R : List (Nat → Nat)) (a1 a2 : Option Addr) (cap1 cap2 base1 base2 : Nat) (w : World) (h1 : SlL w base1 26 64 (.slice a1 R.length cap1) (plR R)) (h2 : SlL w base2 26 64 (.slice a2 R.length cap2) (plR R)) (hR : R.length ≤ 1000) :
    Calls Try.prog 36 #[.slice a1 R.length cap1, .slice a2 R.length cap2] w fun e w' => e = .returned (.bool true) ∧ Below w.heap.size w w' := by
  go_enter Try.func36, Try.ntmps36
  go_wp2_with fail
  go_loopw [5] (fun i wr => ∃ j : Nat, i = .int .i64 (j : Int) ∧ j ≤ R.length ∧ Below w.heap.size w wr) (fun i _ => R.length - (intOf i).toNat)
  case atStart => exact ⟨0, rfl, Nat.zero_le _, Below.refl _ _⟩
  case round =>
    obtain ⟨j, rfl, hjR, hb⟩ := hrel
    by_cases hj : j < R.length
    · obtain ⟨x, hx⟩ : ∃ x, R[j]? = some x := ⟨_, List.getElem?_eq_getElem hj⟩
      obtain ⟨g1, rfl⟩ := h1.some (by rw [plR_len]; omega)
      obtain ⟨g2, rfl⟩ := h2.some (by rw [plR_len]; omega)
      have hrow : (plR R)[j]? = some (bl 64 x) := by unfold plR; rw [List.getElem?_map, hx]; rfl
      have B0 : SlL wr base1 26 64 (.slice (some ⟨g1, 0, none⟩) R.length cap1) (plR R) := h1.below hb h1.lt
      have B1 : SlL wr base2 26 64 (.slice (some ⟨g2, 0, none⟩) R.length cap2) (plR R) := h2.below hb h2.lt
      have hjl : (j : Int) < (R.length : Int) := by omega
      clear h1 h2
      go_upto_region 6 with (fail)
      have lt_B0 : (base1) ≤ wr.heap.size := B0.lt
      have lt_B1 : (base2) ≤ wr.heap.size := B1.lt
      have hbase : w.heap.size ≤ wr.heap.size := hb.size
      refine wp_region_steps0 Try.mixed (by kernel_rfl) (by kernel_rfl) (fun v => by (simp only [frL, Act.put, List.setIfInBounds_toArray, List.set_cons_zero, List.set_cons_succ, Nat.reduceAdd, Nat.zero_add]; exact rfl))
        (fun L v W1 => Below w.heap.size w W1 ∧ wr.heap.size ≤ W1.heap.size ∧ SlL W1 base1 26 64 (.slice (some ⟨g1, 0, none⟩) R.length cap1) (plR R) ∧ SlL W1 base2 26 64 (.slice (some ⟨g2, 0, none⟩) R.length cap2) (plR R) ∧ (L 0 = true → v 0 = (.slice (some ⟨g1, 0, none⟩) R.length cap1)) ∧ (L 1 = true → v 1 = (.int .i64 (j : Int))) ∧ (L 2 = true → v 2 = (.pointer (some ⟨g1, j * 64, none⟩))) ∧ (L 3 = true → v 3 = (.agg (bl 64 x).toArray)) ∧ (L 4 = true → v 4 = (.slice (some ⟨g2, 0, none⟩) R.length cap2)) ∧ (L 5 = true → v 5 = (.int .i64 (j : Int))) ∧ (L 6 = true → v 6 = (.pointer (some ⟨g2, j * 64, none⟩))) ∧ (L 7 = true → v 7 = (.agg (bl 64 x).toArray)) ∧ (L 8 = true → v 8 = (.bool true)) ∧ (L 9 = true → v 9 = (.bool false))) ?_ ?_ ?_
      · intro v hv0
        exact ⟨hb.drew, Nat.le_refl _, B0.drew, B1.drew, (fun h => by cases h), (fun h => by cases h), (fun h => by cases h), (fun h => by cases h), (fun h => by cases h), (fun h => by cases h), (fun h => by cases h), (fun h => by cases h), (fun h => by cases h), (fun h => by cases h)⟩
      · refine (.cons rfl ?_ (.cons rfl ?_ (.cons rfl ?_ (.cons rfl ?_ (.cons rfl ?_ (.cons rfl ?_ (.cons rfl ?_ (.cons rfl ?_ (.cons rfl ?_ (.cons rfl ?_ (.nil _)))))))))))
        · intro L v W1 hd hn ⟨hB, hz, s0, s1, h0, h1, h2, h3, h4, h5, h6, h7, h8, h9⟩ K hK
          go_wp2_with fail
          exact hK _ (.slice (some ⟨g1, 0, none⟩) R.length cap1) _ (by simp only [Act.put, List.setIfInBounds_toArray, List.set_cons_zero, List.set_cons_succ ]) ⟨hB, hz, s0, s1, (fun _ => rfl), h1, h2, h3, h4, h5, h6, h7, h8, h9⟩
        · intro L v W1 hd hn ⟨hB, hz, s0, s1, h0, h1, h2, h3, h4, h5, h6, h7, h8, h9⟩ K hK
          go_wp2_with fail
          exact hK _ (.int .i64 (j : Int)) _ (by simp only [Act.put, List.setIfInBounds_toArray, List.set_cons_zero, List.set_cons_succ ]) ⟨hB, hz, s0, s1, h0, (fun _ => rfl), h2, h3, h4, h5, h6, h7, h8, h9⟩
        · intro L v W1 hd hn ⟨hB, hz, s0, s1, h0, h1, h2, h3, h4, h5, h6, h7, h8, h9⟩ K hK
          have e0 := h0 (hd ⟨0, .data⟩ (by simp) rfl)
          have e1 := h1 (hd ⟨1, .data⟩ (by simp) rfl)
          go_wp2_with fail
          exact hK _ (.pointer (some ⟨g1, j * 64, none⟩)) _ (by simp only [Act.put, List.setIfInBounds_toArray, List.set_cons_zero, List.set_cons_succ, e0, e1]) ⟨hB, hz, s0, s1, h0, h1, (fun _ => rfl), h3, h4, h5, h6, h7, h8, h9⟩
        · intro L v W1 hd hn ⟨hB, hz, s0, s1, h0, h1, h2, h3, h4, h5, h6, h7, h8, h9⟩ K hK
          have e2 := h2 (hd ⟨2, .data⟩ (by simp) rfl)
          have hr := (s0).range hrow
          refine wp_load_mid 26 _ rfl _ (j * 64) e2 _ _ hr Try.underlying26 rfl (by rw [bl_length]; exact Try.size26) ?_
          exact hK _ _ _ rfl ⟨hB, hz, s0, s1, h0, h1, h2, (fun _ => rfl), h4, h5, h6, h7, h8, h9⟩
        · intro L v W1 hd hn ⟨hB, hz, s0, s1, h0, h1, h2, h3, h4, h5, h6, h7, h8, h9⟩ K hK
          go_wp2_with fail
          exact hK _ (.slice (some ⟨g2, 0, none⟩) R.length cap2) _ (by simp only [Act.put, List.setIfInBounds_toArray, List.set_cons_zero, List.set_cons_succ ]) ⟨hB, hz, s0, s1, h0, h1, h2, h3, (fun _ => rfl), h5, h6, h7, h8, h9⟩
        · intro L v W1 hd hn ⟨hB, hz, s0, s1, h0, h1, h2, h3, h4, h5, h6, h7, h8, h9⟩ K hK
          go_wp2_with fail
          exact hK _ (.int .i64 (j : Int)) _ (by simp only [Act.put, List.setIfInBounds_toArray, List.set_cons_zero, List.set_cons_succ ]) ⟨hB, hz, s0, s1, h0, h1, h2, h3, h4, (fun _ => rfl), h6, h7, h8, h9⟩
        · intro L v W1 hd hn ⟨hB, hz, s0, s1, h0, h1, h2, h3, h4, h5, h6, h7, h8, h9⟩ K hK
          have e4 := h4 (hd ⟨4, .data⟩ (by simp) rfl)
          have e5 := h5 (hd ⟨5, .data⟩ (by simp) rfl)
          go_wp2_with fail
          exact hK _ (.pointer (some ⟨g2, j * 64, none⟩)) _ (by simp only [Act.put, List.setIfInBounds_toArray, List.set_cons_zero, List.set_cons_succ, e4, e5]) ⟨hB, hz, s0, s1, h0, h1, h2, h3, h4, h5, (fun _ => rfl), h7, h8, h9⟩
        · intro L v W1 hd hn ⟨hB, hz, s0, s1, h0, h1, h2, h3, h4, h5, h6, h7, h8, h9⟩ K hK
          have e6 := h6 (hd ⟨6, .data⟩ (by simp) rfl)
          have hr := (s1).range hrow
          refine wp_load_mid 26 _ rfl _ (j * 64) e6 _ _ hr Try.underlying26 rfl (by rw [bl_length]; exact Try.size26) ?_
          exact hK _ _ _ rfl ⟨hB, hz, s0, s1, h0, h1, h2, h3, h4, h5, h6, (fun _ => rfl), h8, h9⟩
        · intro L v W1 hd hn ⟨hB, hz, s0, s1, h0, h1, h2, h3, h4, h5, h6, h7, h8, h9⟩ K hK
          have e3 := h3 (hd ⟨3, .data⟩ (by simp) rfl)
          have e7 := h7 (hd ⟨7, .data⟩ (by simp) rfl)
          go_wp2_with (go_at_call 31; refine (eqPoly_same x x (fun _ _ => rfl) _).mono ?_; rintro e wy ⟨rfl, hy⟩)
          exact hK _ (.bool true) _ (by simp only [Act.put, List.setIfInBounds_toArray, List.set_cons_zero, List.set_cons_succ, e3, e7]) ⟨hB.trans (hy.mono hB.size), (Nat.le_trans hz hy.size), (s0).below hy (s0).lt, (s1).below hy (s1).lt, h0, h1, h2, h3, h4, h5, h6, h7, (fun _ => rfl), h9⟩
        · intro L v W1 hd hn ⟨hB, hz, s0, s1, h0, h1, h2, h3, h4, h5, h6, h7, h8, h9⟩ K hK
          have e8 := h8 (hd ⟨8, .data⟩ (by simp) rfl)
          go_wp2_with fail
          exact hK _ (.bool false) _ (by simp only [Act.put, List.setIfInBounds_toArray, List.set_cons_zero, List.set_cons_succ, e8]) ⟨hB, hz, s0, s1, h0, h1, h2, h3, h4, h5, h6, h7, h8, (fun _ => rfl)⟩
      · intro L v W1 hL ⟨hB, hz, s0, s1, h0, h1, h2, h3, h4, h5, h6, h7, h8, h9⟩
        have e0 := h0 (hL 0 (by decide))
        have e1 := h1 (hL 1 (by decide))
        have e2 := h2 (hL 2 (by decide))
        have e3 := h3 (hL 3 (by decide))
        have e4 := h4 (hL 4 (by decide))
        have e5 := h5 (hL 5 (by decide))
        have e6 := h6 (hL 6 (by decide))
        have e7 := h7 (hL 7 (by decide))
        have e8 := h8 (hL 8 (by decide))
        have e9 := h9 (hL 9 (by decide))
        clear hL h0 h1 h2 h3 h4 h5 h6 h7 h8 h9
        simp only [Exit.then, e0, e1, e2, e3, e4, e5, e6, e7, e8, e9]
        clear e0 e1 e2 e3 e4 e5 e6 e7 e8 e9
        clear B0
        have B0 := s0
        clear s0
        clear B1
        have B1 := s1
        clear s1
        clear hb
        have hb := hB
        clear hB
        clear hbase hz lt_B0 lt_B1
        go_wp2_with fail
        go_roundw
        case rel => exact ⟨j + 1, by go_num, by omega, hb⟩
        case measure => simp [intOf] <;> omega
    · have hjl : ¬ (j : Int) < (R.length : Int) := by omega
      go_wp2_with fail
      go_ret
      exact ⟨rfl, hb⟩
set_option maxRecDepth 100000 in
set_option maxHeartbeats 3200000 in
theorem markPolyS_any (n : Nat) (a0 : Option Addr) (cap base : Nat) (w : World) (h : MkP w base (.slice a0 n cap) n 0) (hn : n ≤ 1000) :
    Calls Try.prog 37 #[.slice a0 n cap, .int .i64 1] w fun e w' => e = .returned (.int .i64 ((1 + 64 * n : Nat) : Int)) ∧ MkP w' base (.slice a0 n cap) n (64 * n) ∧ w.grownBy w' (Value.slice a0 n cap).ownBlock := by
  go_enter Try.func37, Try.ntmps37
  go_wp2_with fail
  go_loopw [1, 5] (fun x i wr => ∃ j X : Nat, x = .int .i64 (X : Int) ∧ X = 1 + 64 * j ∧ i = .int .i64 (j : Int) ∧ j ≤ n ∧ MkP wr base (.slice a0 n cap) n (64 * j) ∧ w.grownBy wr (Value.slice a0 n cap).ownBlock) (fun _ i _ => n - (intOf i).toNat)
  case atStart => exact ⟨0, 1, rfl, rfl, rfl, Nat.zero_le _, h, grown_refl _ _⟩
  case round =>
    clear h; obtain ⟨j, X, rfl, hX, rfl, hjn, hM, hG⟩ := hrel
    by_cases hj : j < n
    · have hjl : (j : Int) < (n : Int) := by omega
      obtain ⟨g, rfl⟩ := mkP_some hM (by omega)
      have hX2 : X ≤ 64001 := by omega
      have HX := Lib.hid hX
      clear hX
      go_wp2_with fail
      go_loopw [1, 6] (fun x i wr2 => ∃ k X : Nat, x = .int .i64 (X : Int) ∧ X = 1 + 64 * j + k ∧ i = .int .i64 (k : Int) ∧ k ≤ 64 ∧ MkP wr2 base (.slice (some ⟨g, 0, none⟩) n cap) n (64 * j + k) ∧ w.grownBy wr2 (some g)) (fun _ i _ => 64 - (intOf i).toNat)
      case atStart => exact ⟨0, X, rfl, by have := HX.out; omega, rfl, by omega, hM, hG⟩
      case round =>
        clear hM hG HX; obtain ⟨k, X, rfl, hX, rfl, hk, hM, hG⟩ := hrel
        have hX2 : X ≤ 64065 := by omega
        have HX := Lib.hid hX
        clear hX
        have HQ := Lib.hid (show j * 64 + k = 64 * j + k by omega)
        by_cases hlt : k < 64
        · have e1 : mkP (64 * j + k) = .int .u8 ((X : Int) % 256) := by
            unfold mkP; rw [show (1 + ((64 * j + k : Nat) : Int)) = (X : Int) by have := HX.out; omega]
          obtain ⟨⟨u, hc⟩, hz, hM2, hG2⟩ := hM.step (by omega)
          rw [e1, ← HQ.out] at hM2 hG2
          rw [← HQ.out] at hc hz
          have HM2 := Lib.hid hM2
          have HG2 := Lib.hid (grown_trans hG hG2)
          clear hM2 hG2 hM hG e1
          go_wp2_with fail
          go_roundw
          case rel => exact ⟨k + 1, X + 1, by go_num, by have := HX.out; omega, by go_num, by omega, HM2.out.same _ (by omega), HG2.out⟩
          case measure => simp [intOf] <;> omega
        · have e : k = 64 := by omega
          subst e
          have HM2 := Lib.hid (hM.same (64 * (j + 1)) (by omega))
          have HG2 := Lib.hid hG
          clear hM hG
          go_wp2_with fail
          go_roundw
          case rel => exact ⟨j + 1, X, rfl, by have := HX.out; omega, by go_num, by omega, HM2.out, HG2.out⟩
          case measure => simp [intOf] <;> omega
    · have hjl : ¬ (j : Int) < (n : Int) := by omega
      have e : j = n := by omega
      subst e
      go_wp2_with fail
      go_ret
      exact ⟨ret_int (by push_cast; rfl), hM, hG⟩
set_option maxRecDepth 100000 in
set_option maxHeartbeats 3200000 in
theorem heldPolyS_any (n : Nat) (a0 : Option Addr) (cap base : Nat) (w : World) (h : MkP w base (.slice a0 n cap) n (64 * n)) (hn : n ≤ 1000) :
    Calls Try.prog 38 #[.slice a0 n cap, .int .i64 1] w fun e w' => e = .returned (.int .i64 ((1 + 64 * n : Nat) : Int)) ∧ w = w' := by
  go_enter Try.func38, Try.ntmps38
  go_wp2_with fail
  go_loopw [1, 5] (fun x i wr => ∃ j X : Nat, x = .int .i64 (X : Int) ∧ X = 1 + 64 * j ∧ i = .int .i64 (j : Int) ∧ j ≤ n ∧ wr = w) (fun _ i _ => n - (intOf i).toNat)
  case atStart => exact ⟨0, 1, rfl, rfl, rfl, Nat.zero_le _, rfl⟩
  case round =>
    obtain ⟨j, X, rfl, hX, rfl, hjn, rfl⟩ := hrel
    by_cases hj : j < n
    · have hjl : (j : Int) < (n : Int) := by omega
      obtain ⟨g, rfl⟩ := mkP_some h (by omega)
      have hX2 : X ≤ 64001 := by omega
      have HX := Lib.hid hX
      clear hX
      go_wp2_with fail
      go_loopw [1, 6] (fun x i wr2 => ∃ k X : Nat, x = .int .i64 (X : Int) ∧ X = 1 + 64 * j + k ∧ i = .int .i64 (k : Int) ∧ k ≤ 64 ∧ wr2 = wr) (fun _ i _ => 64 - (intOf i).toNat)
      case atStart => exact ⟨0, X, rfl, by have := HX.out; omega, rfl, by omega, rfl⟩
      case round =>
        clear HX; obtain ⟨k, X, rfl, hX, rfl, hk, rfl⟩ := hrel
        have hX2 : X ≤ 64065 := by omega
        have HX := Lib.hid hX
        clear hX
        have HQ := Lib.hid (show j * 64 + k = 64 * j + k by omega)
        by_cases hlt : k < 64
        · have e1 : mkP (64 * j + k) = .int .u8 ((X : Int) % 256) := by
            unfold mkP; rw [show (1 + ((64 * j + k : Nat) : Int)) = (X : Int) by have := HX.out; omega]
          have hc := MkP.cell h (k := 64 * j + k) (by omega) (by omega)
          rw [e1, ← HQ.out] at hc
          have hne : (((X : Int) % 256) != ((X : Int) % 256)) = false := by simp
          clear e1
          go_wp2_with fail
          go_roundw
          case rel => exact ⟨k + 1, X + 1, by go_num, by have := HX.out; omega, by go_num, by omega, trivial⟩
          case measure => simp [intOf] <;> omega
        · have e : k = 64 := by omega
          subst e
          go_wp2_with fail
          go_roundw
          case rel => exact ⟨j + 1, X, rfl, by have := HX.out; omega, by go_num, by omega, trivial⟩
          case measure => simp [intOf] <;> omega
    · have hjl : ¬ (j : Int) < (n : Int) := by omega
      have e : j = n := by omega
      subst e
      go_wp2_with fail
      go_ret
      exact ⟨ret_int (by push_cast; rfl), rfl⟩
end Go.Proofs.Ytpeehpaghdddgaa
namespace Go.Proofs.Ytpeehpaghdddgaa
open Go Go.RowKit
set_option linter.unusedVariables false
set_option linter.unusedSimpArgs false
attribute [local irreducible] ofN
/-- the list -/
def mpL (p n j : Nat) : List (Nat → Nat) := (List.range' (p ^ n) j).map (ofN p)
theorem mpL_len (p n j : Nat) : (mpL p n j).length = j := by unfold mpL; rw [List.length_map, List.length_range']
theorem mpL_zero (p n : Nat) : mpL p n 0 = [] := rfl
theorem mpL_snoc (p n j : Nat) : mpL p n (j + 1) = mpL p n j ++ [ofN p (p ^ n + j)] := by
  unfold mpL; rw [List.range'_concat, List.map_append, Nat.one_mul]; rfl
/-- both answers -/
def mpV (p n : Int) : List (Nat → Nat) × Int := if okP p then (if 0 ≤ n ∧ n ≤ 63 then (if p.toNat ^ n.toNat ≤ 343 then (mpL p.toNat n.toNat (p.toNat ^ n.toNat), 0) else ([], 3)) else ([], 2)) else ([], 1)
theorem mpV_1 {p n : Int} (h : okP p = false) : mpV p n = ([], 1) := by unfold mpV; rw [if_neg (by rw [h]; decide)]
theorem mpV_2 {p n : Int} (h : okP p = true) (h2 : ¬ (0 ≤ n ∧ n ≤ 63)) : mpV p n = ([], 2) := by unfold mpV; rw [if_pos h, if_neg h2]
theorem mpV_3 {p n : Nat} (h : okP (p : Int) = true) (h2 : n ≤ 63) (h3 : ¬ p ^ n ≤ 343) : mpV (p : Int) (n : Int) = ([], 3) := by unfold mpV; rw [if_pos h, if_pos (by omega), Int.toNat_natCast, Int.toNat_natCast, if_neg h3]
theorem mpV_0 {p n : Nat} (h : okP (p : Int) = true) (h2 : n ≤ 63) (h3 : p ^ n ≤ 343) : mpV (p : Int) (n : Int) = (mpL p n (p ^ n), 0) := by unfold mpV; rw [if_pos h, if_pos (by omega), Int.toNat_natCast, Int.toNat_natCast, if_pos h3]
theorem mpV_len (p n : Int) : (mpV p n).1.length ≤ 1000 := by
  unfold mpV
  split
  · split
    · split
      · rw [mpL_len]; omega
      · exact Nat.zero_le _
    · exact Nat.zero_le _
  · exact Nat.zero_le _
def MpF (p n : Int) (w : World) (e : Ending) (w' : World) : Prop := ∃ v, e = .returned (.tuple #[v, .int .i64 (mpV p n).2]) ∧ SlL w' w.heap.size 26 64 v (plR (mpV p n).1) ∧ Below w.heap.size w w'
/-- T^n and a number below -/
theorem ofN_plus {p n j : Nat} (hp : 2 ≤ p) (hj : j < p ^ n) (k : Nat) : upd (ofN p j) n 1 k = ofN p (p ^ n + j) k := by
  unfold upd
  by_cases e : k = n
  · subst e; rw [if_pos rfl]; exact (ofN_top hp (by omega) (by omega)).symm
  · rw [if_neg e]
    by_cases h : k < n
    · unfold ofN dgt
      obtain ⟨d, rfl⟩ : ∃ d, n = k + 1 + d := ⟨n - k - 1, by omega⟩
      have e1 : p ^ (k + 1 + d) = p ^ k * (p * p ^ d) := by rw [Nat.pow_add, Nat.pow_succ, Nat.mul_assoc]
      rw [e1, Nat.add_comm, Nat.add_mul_div_left _ _ (Nat.pow_pos (by omega)), Nat.add_mul_mod_self_left]
    · rw [ofN_high hp (n := n) (by omega) (by omega), ofN_high hp (n := n) (by omega) (by omega)]
set_option maxRecDepth 100000 in
set_option maxHeartbeats 3200000 in
theorem l01CountG (p n : Nat) (w : World) (hp1 : 2 ≤ p) (hp2 : p ≤ 7) (hn : n ≤ 63) :
    Calls Try.prog 91 #[.int .i64 (p : Int), .int .i64 (n : Int)] w fun e w' => (∃ c : Nat, e = .returned (.int .i64 (c : Int)) ∧ (p ^ n ≤ 343 → c = p ^ n) ∧ (343 < p ^ n → 343 < c)) ∧ w = w' := by
  go_enter Try.func91, Try.ntmps91
  go_wp2_with fail
  go_loopw [5, 1] (fun x i wr => ∃ k j X : Nat, k + j = n ∧ X = p ^ k ∧ X ≤ 7000000000000 ∧ x = .int .i64 (X : Int) ∧ i = .int .i64 (j : Int) ∧ wr = w) (fun _ i _ => (intOf i).toNat)
  case atStart => exact ⟨0, n, 1, by omega, rfl, by omega, rfl, rfl, rfl⟩
  case round =>
    obtain ⟨k, j, X, hk, hX, hXb, rfl, rfl, rfl⟩ := hrel
    have HK := Lib.hid hk
    have hj20 : j ≤ 63 := by omega
    have hmono : p ^ k ≤ p ^ n := Nat.pow_le_pow_right (by omega) (by omega)
    rw [← hX] at hmono
    have HMO := Lib.hid hmono
    clear hk hmono
    by_cases hb : X ≤ 1000000000000
    · have hbi : (X : Int) ≤ 1000000000000 := by omega
      by_cases hlt : 0 < j
      · have hm : ((X * p : Nat) : Int) ≤ 7000000000000 := by
          have : X * p ≤ 1000000000000 * 7 := Nat.mul_le_mul hb hp2
          omega
        have hm2 : 0 ≤ ((X * p : Nat) : Int) := by omega
        have HM := Lib.hid (show X * p ≤ 7000000000000 by omega)
        rw [Int.natCast_mul] at hm hm2
        have HX := Lib.hid hX; clear hX
        go_wp2_with fail
        go_roundw
        case rel => exact ⟨k + 1, j - 1, X * p, by have := HK.out; omega, by rw [Nat.pow_succ, ← HX.out], HM.out, by go_num, by rw [show ((j - 1 : Nat) : Int) = (j : Int) - 1 by omega], trivial⟩
        case measure => simp [intOf]; omega
      · have e : j = 0 := by omega
        subst e
        have hmn : (X : Int) < 1000000000001 := by omega
        have HV := Lib.hid (show X = p ^ n by rw [hX, show k = n by have := HK.out; omega])
        clear hX
        go_wp2_with fail
        go_ret
        exact ⟨⟨X, rfl, fun _ => HV.out, fun h => by rw [HV.out]; exact h⟩, rfl⟩
    · have hbi : ¬ (X : Int) ≤ 1000000000000 := by omega
      have hmn : ¬ (X : Int) < 1000000000001 := by omega
      have HV := Lib.hid (show 343 < p ^ n by have := HMO.out; omega)
      clear hX
      by_cases hlt : 0 < j
      · go_wp2_with fail
        all_goals go_ret
        all_goals first | exact ⟨⟨1000000000001, rfl, fun h => absurd h (by have := HV.out; omega), fun _ => by decide⟩, rfl⟩ | exact ⟨⟨X, rfl, fun h => absurd h (by have := HV.out; omega), fun _ => by omega⟩, rfl⟩
      · go_wp2_with fail
        all_goals go_ret
        all_goals first | exact ⟨⟨1000000000001, rfl, fun h => absurd h (by have := HV.out; omega), fun _ => by decide⟩, rfl⟩ | exact ⟨⟨X, rfl, fun h => absurd h (by have := HV.out; omega), fun _ => by omega⟩, rfl⟩
set_option maxRecDepth 100000 in
set_option maxHeartbeats 3200000 in
theorem spec_MonicPolys_any (p n : Int) (w : World) (hn1 : -9223372036854775808 ≤ n) (hn2 : n ≤ 9223372036854775807) :
    Calls Try.prog 34 #[.int .i64 p, .int .i64 n] w (MpF p n w) := by
  have hb : Below w.heap.size w w := Below.refl _ _
  go_enter Try.func34, Try.ntmps34
  cases hp : okP p with
  | false =>
    have HP := Lib.hid hp
    have HV := Lib.hid (mpV_1 (n := n) hp)
    clear hp
    go_wp2_with (first | (go_at_call 90; refine (l01Prime_any _ _).mono ?_; rintro e wS ⟨rfl, rfl⟩; rw [HP.out]))
    go_ret2
    exact ⟨_, by rw [HV.out]; rfl, by rw [HV.out]; exact (by rw [plR_nil]; exact SlL.nil _ _ hb.size), hb⟩
  | true =>
    by_cases hr : 0 ≤ n ∧ n ≤ 63
    · obtain ⟨n, rfl⟩ : ∃ j : Nat, n = (j : Int) := ⟨n.toNat, by omega⟩
      obtain ⟨p, rfl, p2, p7⟩ := okP_nat hp
      have hn63 : n ≤ 63 := by omega
      have HP := Lib.hid hp
      have HV3 := Lib.hid (fun h => mpV_3 (n := n) hp hn63 h)
      have HV0 := Lib.hid (fun h => mpV_0 (n := n) hp hn63 h)
      clear hp hn1 hn2
      obtain ⟨Q, hQ⟩ : ∃ Q, Q = p ^ n := ⟨_, rfl⟩
      rw [← hQ] at HV3 HV0
      have HQ := Lib.hid hQ
      have HCG := Lib.hid (fun W => l01CountG p n W p2 p7 hn63)
      rw [← hQ] at HCG
      clear hQ
      by_cases hq : Q ≤ 343
      · have HV := Lib.hid (HV0.out hq)
        have HC := Lib.hid (show ∀ W, Calls Try.prog 91 #[.int .i64 (p : Int), .int .i64 (n : Int)] W fun e w' => e = .returned (.int .i64 (Q : Int)) ∧ W = w' from fun W => (HCG.out W).mono (by rintro e w' ⟨⟨c, rfl, h1, h2⟩, rfl⟩; exact ⟨by rw [h1 hq], rfl⟩))
        clear HCG
        have hQi : (Q : Int) ≤ 343 := by omega
        have hn8 : n < 64 := by omega
        go_upto_region 8 with (first | (go_at_call 90; refine (l01Prime_any _ _).mono ?_; rintro e wS ⟨rfl, rfl⟩; rw [HP.out]) | (go_at_call 81; refine (l01In_any _ _ _ _).mono ?_; rintro e wS ⟨rfl, rfl⟩; rw [show decide ((0 : Int) ≤ (n : Int) ∧ (n : Int) ≤ 63) = true by simp; omega]) | (go_at_call 91; refine (HC.out _).mono ?_; rintro e wS ⟨rfl, rfl⟩))
        obtain ⟨base, hbase0⟩ : ∃ b, b = w.heap.size := ⟨_, rfl⟩
        have ybw : w.heap.size ≤ base := Nat.le_of_eq hbase0.symm
        have hS0 : SlL (w.alloc (.cells #[] 26)) base 26 64 (.slice (some ⟨w.heap.size, 0, none⟩) 0 0) (plR (mpL p n 0)) := by rw [mpL_zero, plR_nil]; exact slL_empty w 26 64 (Nat.le_of_eq hbase0)
        have hb1 : Below w.heap.size w (w.alloc (.cells #[] 26)) := hb.alloc hb.size _
        clear hbase0 hb
        go_wp2_with fail
        go_loopw [6, 7] (fun s i wr => ∃ (j : Nat) (lst : Value), lst = s ∧ i = .int .i64 (j : Int) ∧ j ≤ Q ∧ Below w.heap.size w wr ∧ SlL wr base 26 64 lst (plR (mpL p n j))) (fun _ i _ => Q - (intOf i).toNat)
        case atStart => exact ⟨0, _, rfl, rfl, Nat.zero_le _, hb1, hS0⟩
        case round =>
          clear hb1 hS0
          obtain ⟨j, lst, rfl, rfl, hjQ, hb, hS⟩ := hrel
          by_cases hj : j < Q
          · have hji : (j : Int) < (Q : Int) := by omega
            have HOF := Lib.hid (fun W => l01Of_any p j W p2 p7 (by omega))
            have HSN := Lib.hid (mpL_snoc p n j)
            have HPL := Lib.hid (fun k => ofN_plus (p := p) (n := n) (j := j) p2 (by rw [← HQ.out]; exact hj) k)
            rw [← HQ.out] at HSN HPL
            have B0 := hS.top
            have B1 : SzG wr.heap.size wr := Nat.le_refl _
            clear hS
            go_upto_region 11 with (first | (go_at_call 91; refine (HC.out _).mono ?_; rintro e wS ⟨rfl, rfl⟩))
            have lt_B0 := B0.lt
            have lt_B1 := B1.lt
            go_upto_region 12 with (first | rw [← zero64] | (go_at_call 92; refine (HOF.out _).mono ?_; rintro e W1 ⟨rfl, hW1⟩; replace B0 := B0.below hW1 B0.lt; replace B1 := B1.below hW1 B1.lt; replace hb := (hb).trans (hW1.mono (hb).size)) | (refine wpList_store_blk rfl 26 (.tmp 8) (.tmp 32) rfl _ 64 (ofN p j) rfl rfl 26 _ ((Blk.new W1 64 26 (fun _ => 0))) Try.size26 ?_; try simp only [Act.put]))
            have lt_B0 := B0.lt
            have lt_B1 := B1.lt
            have lhb := hb.size
            have qB0 : SlT ((W1.alloc (.cells (bcells 64 fun _ => 0) 26)).setRow (W1.heap.size) (bcells 64 (ofN p j))) base wr.heap.size 26 64 lst (plR (mpL p n j)) := ((B0.alloc (.cells (bcells 64 fun _ => 0) 26)).rowOther (by omega))
            have qB1 : SzG wr.heap.size ((W1.alloc (.cells (bcells 64 fun _ => 0) 26)).setRow (W1.heap.size) (bcells 64 (ofN p j))) := ((B1.alloc (.cells (bcells 64 fun _ => 0) 26)).rowOther (by omega))
            have qB2 : Blk ((W1.alloc (.cells (bcells 64 fun _ => 0) 26)).setRow (W1.heap.size) (bcells 64 (ofN p j))) (W1.heap.size) 64 26 (ofN p j) := ((Blk.new W1 64 26 (fun _ => 0)).row (ofN p j))
            have qhb : Below w.heap.size w ((W1.alloc (.cells (bcells 64 fun _ => 0) 26)).setRow (W1.heap.size) (bcells 64 (ofN p j))) := (below_row (hb.alloc (by have := hb.size; simp; omega) (.cells (bcells 64 fun _ => 0) 26)) (by omega) _)
            obtain ⟨W2, hwo⟩ : ∃ v : World, v = ((W1.alloc (.cells (bcells 64 fun _ => 0) 26)).setRow (W1.heap.size) (bcells 64 (ofN p j))) := ⟨_, rfl⟩
            rw [← hwo] at qB0 qB1 qB2 qhb ⊢
            clear hwo
            clear B0 B1 hb
            have B0 := qB0
            have B1 := qB1
            have B2 := qB2
            have hb := qhb
            clear qB0 qB1 qB2 qhb
            obtain ⟨N1, hNN⟩ : ∃ n : Nat, n = W1.heap.size := ⟨_, rfl⟩
            rw [← hNN] at lt_B0 lt_B1 lhb B2 ⊢
            clear hNN
            have zN1_0 := lt_B0
            have zN1_1 := lt_B1
            have zN1 := lhb
            clear lt_B0 lt_B1 lhb
            try simp only [Act.put, List.setIfInBounds_toArray, List.set_cons_zero, List.set_cons_succ]
            clear HOF
            have cc := B2.cell (i := n) hn8
            have zz := B2.frozen n
            go_upto_region 13 with (fail)
            clear cc zz
            have lt_B0 := B0.lt
            have lt_B1 := B1.lt
            have lt_B2 := B2.lt
            have qB0 : SlT (W2.setCell ⟨N1, n, none⟩ (.int .u8 (1))) base wr.heap.size 26 64 lst (plR (mpL p n j)) := (B0.setOther (by dsimp only; omega))
            have qB1 : SzG wr.heap.size (W2.setCell ⟨N1, n, none⟩ (.int .u8 (1))) := (B1.setOther (by dsimp only; omega))
            have qB2 : Blk (W2.setCell ⟨N1, n, none⟩ (.int .u8 (1))) (N1) 64 26 (ofN p (Q + j)) := ((B2.set (v := 1) (rfl)).congr (fun k _ => HPL.out k))
            have qhb : Below w.heap.size w (W2.setCell ⟨N1, n, none⟩ (.int .u8 (1))) := (hb.setCell (by show w.heap.size ≤ (N1); omega) _)
            obtain ⟨W3, hwo⟩ : ∃ v : World, v = (W2.setCell ⟨N1, n, none⟩ (.int .u8 (1))) := ⟨_, rfl⟩
            rw [← hwo] at qB0 qB1 qB2 qhb ⊢
            clear hwo
            clear B0 B1 B2 hb
            have B0 := qB0
            have B1 := qB1
            have B2 := qB2
            have hb := qhb
            clear qB0 qB1 qB2 qhb
            try simp only [Act.put, List.setIfInBounds_toArray, List.set_cons_zero, List.set_cons_succ]
            have lu_0 := B0.lt
            have lu_1 := B1.lt
            have lu_2 := B2.lt
            go_wp2_with (first | (refine wpList_load_any rfl 26 (.tmp 8) rfl _ rfl 64 26 _ B2 _ Try.underlying26 rfl Try.size26 ?_) | (refine wpList_build_polys rfl 37 _ [ofN p (Q + j)] rfl 26 rfl Try.underlying37 Try.elem26 (by simp) (by simp) rfl ?_; intro wa hwa hps hba; clear hwa; have eB0 := B0.below hba B0.lt; have eB1 := B1.below hba B1.lt; have eB2 := B2.below hba B2.lt; have ehb := hb.trans (hba.mono hb.size)) | (at_builtin; refine wpList_append_sl _ rfl _ _ 37 rfl base 26 (.agg (bcells 64 fun _ => 0)) 64 64 Try.underlying37 Try.infoPoly (by simp [Value.cells, bl]) (by decide) lst _ rfl eB0.1 W3.heap.size (bl 64 (ofN p (Q + j))) rfl (bl_length _ _) (by have := hps.range (i := 0) (f := ofN p (Q + j)) rfl; rwa [Nat.zero_mul] at this) bl_one (by rw [plR_len, mpL_len]; unfold maxLen; omega) (by rw [plR_len, mpL_len]; omega) ?_; intro vp wp hSp hg1; have fhb := ehb.grown hg1 ehb.size (fun k e => Nat.le_trans ybw (eB0.1.own k e))))
            go_roundw
            case rel => exact ⟨j + 1, vp, rfl, by go_num, by omega, fhb, (by rw [HSN.out, plR_snoc]; exact hSp)⟩
            case measure => simp [intOf] <;> omega
          · have hji : ¬ (j : Int) < (Q : Int) := by omega
            obtain rfl : j = Q := by omega
            go_wp2_with (first | (go_at_call 91; refine (HC.out _).mono ?_; rintro e wS ⟨rfl, rfl⟩))
            go_ret2
            exact ⟨_, by rw [HV.out]; rfl, by rw [HV.out]; exact hS.base ybw, hb⟩
      · have HV := Lib.hid (HV3.out hq)
        go_wp2_with (first | (go_at_call 90; refine (l01Prime_any _ _).mono ?_; rintro e wS ⟨rfl, rfl⟩; rw [HP.out]) | (go_at_call 81; refine (l01In_any _ _ _ _).mono ?_; rintro e wS ⟨rfl, rfl⟩; rw [show decide ((0 : Int) ≤ (n : Int) ∧ (n : Int) ≤ 63) = true by simp; omega]) | (go_at_call 91; refine (HCG.out _).mono ?_; rintro e wS ⟨⟨c, rfl, hc1, hc2⟩, rfl⟩; have hc3 : 343 < (c : Int) := (by have := hc2 (by omega); omega); clear hc1 hc2))
        go_ret2
        exact ⟨_, by rw [HV.out]; rfl, by rw [HV.out]; exact (by rw [plR_nil]; exact SlL.nil _ _ hb.size), hb⟩
    · have HP := Lib.hid hp
      have HV := Lib.hid (mpV_2 hp hr)
      clear hp
      go_wp2_with (first | (go_at_call 90; refine (l01Prime_any _ _).mono ?_; rintro e wS ⟨rfl, rfl⟩; rw [HP.out]) | (go_at_call 81; refine (l01In_any _ _ _ _).mono ?_; rintro e wS ⟨rfl, rfl⟩; rw [show decide ((0 : Int) ≤ n ∧ n ≤ 63) = false by simp; omega]))
      go_ret2
      exact ⟨_, by rw [HV.out]; rfl, by rw [HV.out]; exact (by rw [plR_nil]; exact SlL.nil _ _ hb.size), hb⟩
set_option maxRecDepth 100000 in
set_option maxHeartbeats 3200000 in
theorem impl_MonicPolys_any (p n : Int) (w : World) (hn1 : -9223372036854775808 ≤ n) (hn2 : n ≤ 9223372036854775807) :
    Calls Try.prog 35 #[.int .i64 p, .int .i64 n] w (MpF p n w) := by
  have hb : Below w.heap.size w w := Below.refl _ _
  go_enter Try.func35, Try.ntmps35
  cases hp : okP p with
  | false =>
    have HP := Lib.hid hp
    have HV := Lib.hid (mpV_1 (n := n) hp)
    clear hp
    go_wp2_with (first | (go_at_call 93; refine (isPrime_any _ _).mono ?_; rintro e wS ⟨rfl, rfl⟩; rw [HP.out]))
    go_ret2
    exact ⟨_, by rw [HV.out]; rfl, by rw [HV.out]; exact (by rw [plR_nil]; exact SlL.nil _ _ hb.size), hb⟩
  | true =>
    by_cases hr : 0 ≤ n ∧ n ≤ 63
    · obtain ⟨n, rfl⟩ : ∃ j : Nat, n = (j : Int) := ⟨n.toNat, by omega⟩
      obtain ⟨p, rfl, p2, p7⟩ := okP_nat hp
      have hn63 : n ≤ 63 := by omega
      have HP := Lib.hid hp
      have HV3 := Lib.hid (fun h => mpV_3 (n := n) hp hn63 h)
      have HV0 := Lib.hid (fun h => mpV_0 (n := n) hp hn63 h)
      clear hp hn1 hn2
      obtain ⟨Q, hQ⟩ : ∃ Q, Q = p ^ n := ⟨_, rfl⟩
      rw [← hQ] at HV3 HV0
      have HQ := Lib.hid hQ
      go_upto_region 6 with (first | (go_at_call 93; refine (isPrime_any _ _).mono ?_; rintro e wS ⟨rfl, rfl⟩; rw [HP.out]))
      go_wp2_with fail
      go_loopw [6, 19] (fun s i wr => ∃ j X : Nat, s = .int .i64 (X : Int) ∧ i = .int .i64 (j : Int) ∧ j ≤ n ∧ X = p ^ j ∧ X ≤ 343 ∧ w = wr) (fun _ i _ => n - (intOf i).toNat)
      case atStart => exact ⟨0, 1, rfl, rfl, Nat.zero_le _, rfl, by omega, rfl⟩
      case round =>
        obtain ⟨j, X, rfl, rfl, hjn, hX, hX3, rfl⟩ := hrel
        have HX := Lib.hid hX
        clear hX hQ
        by_cases hj : j < n
        · have hji : (j : Int) < (n : Int) := by omega
          have hm : ((X * p : Nat) : Int) ≤ 2401 := by
            have : X * p ≤ 343 * 7 := Nat.mul_le_mul hX3 p7
            omega
          have hm2 : 0 ≤ ((X * p : Nat) : Int) := by omega
          have HXP := Lib.hid (show X * p = p ^ (j + 1) by rw [Nat.pow_succ, ← HX.out])
          by_cases hbig : X * p ≤ 343
          · have hbi : ((X * p : Nat) : Int) ≤ 343 := by omega
            have HB := Lib.hid hbig
            rw [Int.natCast_mul] at hm hm2 hbi
            clear hbig
            go_wp2_with fail
            go_roundw
            case rel => exact ⟨j + 1, X * p, by go_num, by go_num, by omega, HXP.out, HB.out, trivial⟩
            case measure => simp [intOf] <;> omega
          · have hbi : 343 < ((X * p : Nat) : Int) := by omega
            have HV := Lib.hid (HV3.out (by
              have h1 : p ^ (j + 1) ≤ p ^ n := Nat.pow_le_pow_right (by omega) (by omega)
              rw [← HXP.out, ← HQ.out] at h1
              omega))
            rw [Int.natCast_mul] at hm hm2 hbi
            clear hbig
            go_wp2_with fail
            go_ret2
            exact ⟨_, by rw [HV.out]; rfl, by rw [HV.out]; exact (by rw [plR_nil]; exact SlL.nil _ _ hb.size), hb⟩
        · have hji : ¬ (j : Int) < (n : Int) := by omega
          obtain rfl : j = n := by omega
          obtain rfl : X = Q := by rw [HX.out, HQ.out]
          have HV := Lib.hid (HV0.out hX3)
          have hQi : (X : Int) ≤ 343 := by omega
          obtain ⟨base, hbase0⟩ : ∃ b, b = w.heap.size := ⟨_, rfl⟩
          have ybw : w.heap.size ≤ base := Nat.le_of_eq hbase0.symm
          have hS0 : SlL w base 26 64 (.slice none 0 0) (plR (mpL p j 0)) := by rw [mpL_zero, plR_nil]; exact SlL.nil _ _ (Nat.le_of_eq hbase0)
          clear hbase0
          go_wp2_with fail
          go_loopw [7, 8] (fun s i wr => ∃ (i0 : Nat) (lst : Value), lst = s ∧ i = .int .i64 ((X : Int) + (i0 : Int)) ∧ i0 ≤ X ∧ Below w.heap.size w wr ∧ SlL wr base 26 64 lst (plR (mpL p j i0))) (fun _ i _ => X + X - (intOf i).toNat)
          case atStart => exact ⟨0, _, rfl, by simp, Nat.zero_le _, hb, hS0⟩
          case round =>
            clear hb hS0
            obtain ⟨i0, lst, rfl, rfl, hiX, hb, hS⟩ := hrel
            by_cases hi : i0 < X
            · have hii : (X : Int) + (i0 : Int) < 2 * (X : Int) := by omega
              have HSN := Lib.hid (mpL_snoc p j i0)
              rw [← HX.out] at HSN
              have HOF := Lib.hid (show ∀ W, Calls Try.prog 94 #[.int .i64 (p : Int), .int .i64 ((X : Int) + (i0 : Int))] W fun e w' => e = .returned (.agg (bcells 64 (ofN p (X + i0)))) ∧ Below W.heap.size W w' from fun W => polyOfNumber_any p (X + i0) W p2 p7 (by omega))
              have B0 := hS.top
              have B1 : SzG wr.heap.size wr := Nat.le_refl _
              clear hS
              go_wp2_with (first | (go_at_call 94; refine (HOF.out _).mono ?_; rintro e W1 ⟨rfl, hW2⟩; replace B0 := B0.below hW2 B0.lt; replace B1 := B1.below hW2 B1.lt; replace hb := hb.trans (hW2.mono hb.size)) | (refine wpList_build_polys rfl 37 _ [ofN p (X + i0)] rfl 26 rfl Try.underlying37 Try.elem26 (by simp) (by simp) rfl ?_; intro wa hwa hps hba; clear hwa; have eB0 := B0.below hba B0.lt; have eB1 := B1.below hba B1.lt; have ehb := hb.trans (hba.mono hb.size)) | (at_builtin; refine wpList_append_sl _ rfl _ _ 37 rfl base 26 (.agg (bcells 64 fun _ => 0)) 64 64 Try.underlying37 Try.infoPoly (by simp [Value.cells, bl]) (by decide) lst _ rfl eB0.1 W1.heap.size (bl 64 (ofN p (X + i0))) rfl (bl_length _ _) (by have := hps.range (i := 0) (f := ofN p (X + i0)) rfl; rwa [Nat.zero_mul] at this) bl_one (by rw [plR_len, mpL_len]; unfold maxLen; omega) (by rw [plR_len, mpL_len]; omega) ?_; intro vp wp hSp hg1; have fhb := ehb.grown hg1 ehb.size (fun k e => Nat.le_trans ybw (eB0.1.own k e))))
              go_roundw
              case rel => exact ⟨i0 + 1, vp, rfl, by go_num, by omega, fhb, (by rw [HSN.out, plR_snoc]; exact hSp)⟩
              case measure => simp [intOf] <;> omega
            · have hii : ¬ (X : Int) + (i0 : Int) < 2 * (X : Int) := by omega
              obtain rfl : i0 = X := by omega
              go_wp2_with fail
              go_ret2
              exact ⟨_, by rw [HV.out]; rfl, by rw [HV.out]; exact hS.base ybw, hb⟩
    · have HP := Lib.hid hp
      have HV := Lib.hid (mpV_2 hp hr)
      clear hp
      by_cases h1 : n < 0
      · clear hr
        go_wp2_with (first | (go_at_call 93; refine (isPrime_any _ _).mono ?_; rintro e wS ⟨rfl, rfl⟩; rw [HP.out]))
        go_ret2
        exact ⟨_, by rw [HV.out]; rfl, by rw [HV.out]; exact (by rw [plR_nil]; exact SlL.nil _ _ hb.size), hb⟩
      · have h2 : 63 < n := by omega
        clear hr
        go_wp2_with (first | (go_at_call 93; refine (isPrime_any _ _).mono ?_; rintro e wS ⟨rfl, rfl⟩; rw [HP.out]))
        go_ret2
        exact ⟨_, by rw [HV.out]; rfl, by rw [HV.out]; exact (by rw [plR_nil]; exact SlL.nil _ _ hb.size), hb⟩
end Go.Proofs.Ytpeehpaghdddgaa
