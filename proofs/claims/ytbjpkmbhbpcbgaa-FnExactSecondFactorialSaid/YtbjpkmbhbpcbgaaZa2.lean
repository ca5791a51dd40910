/-
  What the rows of this claim rest on: arrays of bytes, walks of the functions, plain mathematics.
-/
import Derived.Test.YtbjpkmbhbpcbgaaZa1
section
namespace Go.Proofs.Ytbjpkmbhbpcbgaa
open Go Go.RowKit
set_option linter.unusedVariables false
set_option linter.unusedSimpArgs false
theorem rsV_two {p i : Nat} {a : Nat → Nat} : ((rsV p a i).2 = true ∧ deg a * ((p ^ i : Nat) : Int) ≤ 63) ∨ ((rsV p a i).2 = false ∧ 63 < deg a * ((p ^ i : Nat) : Int)) := by
  by_cases h : deg a * ((p ^ i : Nat) : Int) ≤ 63
  · left; rw [rsV_ok h]; exact ⟨rfl, h⟩
  · right; rw [rsV_no (by omega)]; exact ⟨rfl, by omega⟩
theorem apart_yes (p i j : Nat) (w : World) (p2 : 2 ≤ p) (p7 : p ≤ 7) (hi : smI p i) (hj : smI p j) (h : (bkV p i j).2 = true) :
    Calls Try.prog 131 #[.int .i64 (p : Int), .int .i64 (i : Int), .int .i64 (j : Int)] w fun e w' => e = .returned (.agg (bcells 64 (bkV p i j).1)) ∧ Below w.heap.size w w' := by
  have h' : ((rsV p TP i).2 && (rsV p TP j).2) = true := h
  rw [Bool.and_eq_true] at h'
  rcases rsV_two (p := p) (i := i) (a := TP) with ⟨_, a⟩ | ⟨a, _⟩
  · rcases rsV_two (p := p) (i := j) (a := TP) with ⟨_, b⟩ | ⟨b, _⟩
    · exact apart_ok p i j w p2 p7 hi hj a b
    · rw [b] at h'; exact absurd h'.2 (by simp)
  · rw [a] at h'; exact absurd h'.1 (by simp)
theorem apart_not (p i j : Nat) (w : World) (p2 : 2 ≤ p) (p7 : p ≤ 7) (hi : smI p i) (hj : smI p j) (h : (bkV p i j).2 = false) :
    Calls Try.prog 131 #[.int .i64 (p : Int), .int .i64 (i : Int), .int .i64 (j : Int)] w fun e w' => e = .panicked [{ v := .iface 138 (.int .i64 3), recovered := false }] ∧ Below w.heap.size w w' := by
  have h' : ((rsV p TP i).2 && (rsV p TP j).2) = false := h
  rcases rsV_two (p := p) (i := i) (a := TP) with ⟨a0, a⟩ | ⟨_, a⟩
  · rcases rsV_two (p := p) (i := j) (a := TP) with ⟨b0, b⟩ | ⟨_, b⟩
    · rw [a0, b0] at h'; exact absurd h' (by simp)
    · exact apart_no2 p i j w p2 p7 hi hj a b
  · exact apart_no1 p i j w p2 p7 hi hj a
/-- the bracket of a round -/
def bkS (p i : Nat) (s : Bool) (j : Nat) : (Nat → Nat) × Bool := if s = true then bkV p (j + 1) 0 else bkV p i j
theorem bkS_lt {p i j : Nat} {s : Bool} (hp : 2 ≤ p) (k : Nat) : (bkS p i s j).1 k < p := by
  unfold bkS; split <;> exact bkV_lt hp k
/-- the factorial up to a round, if it fits -/
def fcR (p i : Nat) (s : Bool) : Nat → Option (Nat → Nat)
  | 0 => some oneP
  | j + 1 => match fcR p i s j with
    | none => none
    | some f => if (bkS p i s j).2 = true ∧ deg f + deg (bkS p i s j).1 ≤ 63 then some (prd p f (bkS p i s j).1) else none
theorem fcR_z (p i : Nat) (s : Bool) : fcR p i s 0 = some oneP := by unfold fcR; rfl
theorem fcR_yes {p i j : Nat} {s : Bool} {f : Nat → Nat} (h : fcR p i s j = some f) (h1 : (bkS p i s j).2 = true) (h2 : deg f + deg (bkS p i s j).1 ≤ 63) : fcR p i s (j + 1) = some (prd p f (bkS p i s j).1) := by
  rw [fcR, h]; exact if_pos ⟨h1, h2⟩
theorem fcR_no {p i j : Nat} {s : Bool} {f : Nat → Nat} (h : fcR p i s j = some f) (h1 : ¬ ((bkS p i s j).2 = true ∧ deg f + deg (bkS p i s j).1 ≤ 63)) : fcR p i s (j + 1) = none := by
  rw [fcR, h]; exact if_neg h1
theorem fcR_none {p i : Nat} {s : Bool} {j : Nat} (h : fcR p i s j = none) : ∀ d, fcR p i s (j + d) = none
  | 0 => h
  | d + 1 => by rw [← Nat.add_assoc, fcR, fcR_none h d]
theorem fcR_lt {p i : Nat} {s : Bool} (hp : 2 ≤ p) : ∀ (j : Nat) (f : Nat → Nat), fcR p i s j = some f → ∀ k, k < 64 → f k < p
  | 0, f, h => by
    rw [fcR_z] at h; injection h with h; subst h
    intro k _; unfold oneP; split <;> omega
  | j + 1, f, h => by
    cases hj : fcR p i s j with
    | none => have := fcR_none hj 1; rw [this] at h; cases h
    | some g =>
      by_cases h1 : (bkS p i s j).2 = true ∧ deg g + deg (bkS p i s j).1 ≤ 63
      · rw [fcR_yes hj h1.1 h1.2] at h; injection h with h; subst h
        exact fun k _ => prd_lt (by omega) k
      · rw [fcR_no hj h1] at h; cases h
attribute [local irreducible] deg resP oneP addK TP strP prd bkV fcR bkS
theorem refuse_okB (x : Int) (h : x ≤ 63) (w : World) : Calls Try.prog 194 #[.int .i64 x] w fun e w' => e = .returned (.tuple #[]) ∧ Below w.heap.size w w' := (refuse_ok x h w).mono (by rintro e w' ⟨rfl, rfl⟩; exact ⟨rfl, Below.refl _ _⟩)
theorem refuse_noB (x : Int) (h : 63 < x) (w : World) : Calls Try.prog 194 #[.int .i64 x] w fun e w' => e = .panicked [{ v := .iface 138 (.int .i64 3), recovered := false }] ∧ Below w.heap.size w w' := (refuse_no x h w).mono (by rintro e w' ⟨rfl, rfl⟩; exact ⟨rfl, Below.refl _ _⟩)
set_option maxRecDepth 100000 in
set_option maxHeartbeats 1600000 in
theorem bounded_ok (p : Nat) (f g : Nat → Nat) (w : World) (p2 : 2 ≤ p) (p7 : p ≤ 7) (lf : ∀ k, k < 64 → f k < p) (lg : ∀ k, k < 64 → g k < p) (hds : deg f + deg g ≤ 63) :
    Calls Try.prog 177 #[.int .i64 (p : Int), .agg (bcells 64 f), .agg (bcells 64 g)] w fun e w' => e = .returned (.agg (bcells 64 (prd p f g))) ∧ Below w.heap.size w w' := by
  obtain ⟨fb1, fb2⟩ := deg_bounds f
  obtain ⟨gb1, gb2⟩ := deg_bounds g
  have HPR := Lib.hid (fun W => product_any p f g W p2 p7 lf lg)
  go_enter Try.func177, Try.ntmps177
  go_upto_region 1 with (fail)
  rw [← zero64]
  obtain ⟨W1, hwo⟩ : ∃ v : World, v = (((w.alloc (.cells (bcells 64 (f)) 23)).alloc (.cells (bcells 64 (g)) 23)).alloc (.cells (bcells 64 fun _ => 0) 23)) := ⟨_, rfl⟩
  have B0 : Blk W1 (w.heap.size) 64 23 (f) := by subst hwo; have := (((Blk.new w 64 23 (f)).alloc (.cells (bcells 64 (g)) 23)).alloc (.cells (bcells 64 fun _ => 0) 23)); simpa using this
  have B1 : Blk W1 (w.heap.size + 1) 64 23 (g) := by subst hwo; have := ((Blk.new (w.alloc (.cells (bcells 64 (f)) 23)) 64 23 (g)).alloc (.cells (bcells 64 fun _ => 0) 23)); simpa using this
  have B2 : Blk W1 (w.heap.size + 1 + 1) 64 23 (fun _ => 0) := by subst hwo; have := (Blk.new ((w.alloc (.cells (bcells 64 (f)) 23)).alloc (.cells (bcells 64 (g)) 23)) 64 23 (fun _ => 0)); simpa using this
  have hb : Below w.heap.size w W1 := by subst hwo; exact ((((Below.refl _ _).alloc (Nat.le_refl _) _).alloc (by simp) _).alloc (by simp; omega) _)
  rw [← hwo]
  clear hwo
  have lt_B0 : (w.heap.size) < W1.heap.size := B0.lt
  have lt_B1 : (w.heap.size + 1) < W1.heap.size := B1.lt
  have lt_B2 : (w.heap.size + 1 + 1) < W1.heap.size := B2.lt
  have hbase : w.heap.size ≤ W1.heap.size := hb.size
  refine wp_region_steps0 Try.mixed (by kernel_rfl) (by kernel_rfl) (fun v => by (simp only [frL, Act.put, List.setIfInBounds_toArray, List.set_cons_zero, List.set_cons_succ, Nat.reduceAdd, Nat.zero_add]; exact rfl))
    (fun L v W2 => Below w.heap.size w W2 ∧ W1.heap.size ≤ W2.heap.size ∧ Blk W2 (w.heap.size) 64 23 (f) ∧ Blk W2 (w.heap.size + 1) 64 23 (g) ∧ Blk W2 (w.heap.size + 1 + 1) 64 23 (fun _ => 0) ∧ (L 0 = true → v 0 = (.agg (bcells 64 (f)))) ∧ (L 1 = true → v 1 = (.int .i64 (deg f))) ∧ (L 2 = true → v 2 = (.agg (bcells 64 (g)))) ∧ (L 3 = true → v 3 = (.int .i64 (deg g))) ∧ (L 4 = true → v 4 = (.int .i64 (deg f + deg g))) ∧ (L 5 = true → v 5 = (.tuple #[]))) ?_ ?_ ?_
  · intro v hv0
    exact ⟨hb.drew, Nat.le_refl _, B0.drew, B1.drew, B2.drew, (fun h => by cases h), (fun h => by cases h), (fun h => by cases h), (fun h => by cases h), (fun h => by cases h), (fun h => by cases h)⟩
  · refine (.cons rfl ?_ (.cons rfl ?_ (.cons rfl ?_ (.cons rfl ?_ (.cons rfl ?_ (.cons rfl ?_ (.nil _)))))))
    · intro L v W2 hd hn ⟨hB, hz, s0, s1, s2, h0, h1, h2, h3, h4, h5⟩ K hK
      refine wp_load_any 23 _ rfl _ rfl 64 23 _ s0 _ Try.underlying23 rfl Try.size23 ?_
      exact hK _ _ _ rfl ⟨hB, hz, s0, s1, s2, (fun _ => rfl), h1, h2, h3, h4, h5⟩
    · intro L v W2 hd hn ⟨hB, hz, s0, s1, s2, h0, h1, h2, h3, h4, h5⟩ K hK
      have e0 := h0 (hd ⟨0, .data⟩ (by simp) rfl)
      go_wp2_with (go_at_call 78; refine (degree_any f _).mono ?_; rintro e wy ⟨rfl, hy⟩)
      exact hK _ (.int .i64 (deg f)) _ (by simp only [Act.put, List.setIfInBounds_toArray, List.set_cons_zero, List.set_cons_succ, e0]) ⟨hB.trans (hy.mono hB.size), (Nat.le_trans hz hy.size), (s0).below hy (s0).lt, (s1).below hy (s1).lt, (s2).below hy (s2).lt, h0, (fun _ => rfl), h2, h3, h4, h5⟩
    · intro L v W2 hd hn ⟨hB, hz, s0, s1, s2, h0, h1, h2, h3, h4, h5⟩ K hK
      refine wp_load_any 23 _ rfl _ rfl 64 23 _ s1 _ Try.underlying23 rfl Try.size23 ?_
      exact hK _ _ _ rfl ⟨hB, hz, s0, s1, s2, h0, h1, (fun _ => rfl), h3, h4, h5⟩
    · intro L v W2 hd hn ⟨hB, hz, s0, s1, s2, h0, h1, h2, h3, h4, h5⟩ K hK
      have e2 := h2 (hd ⟨2, .data⟩ (by simp) rfl)
      go_wp2_with (go_at_call 78; refine (degree_any g _).mono ?_; rintro e wy ⟨rfl, hy⟩)
      exact hK _ (.int .i64 (deg g)) _ (by simp only [Act.put, List.setIfInBounds_toArray, List.set_cons_zero, List.set_cons_succ, e2]) ⟨hB.trans (hy.mono hB.size), (Nat.le_trans hz hy.size), (s0).below hy (s0).lt, (s1).below hy (s1).lt, (s2).below hy (s2).lt, h0, h1, h2, (fun _ => rfl), h4, h5⟩
    · intro L v W2 hd hn ⟨hB, hz, s0, s1, s2, h0, h1, h2, h3, h4, h5⟩ K hK
      have e1 := h1 (hd ⟨1, .data⟩ (by simp) rfl)
      have e3 := h3 (hd ⟨3, .data⟩ (by simp) rfl)
      go_wp2_with fail
      exact hK _ (.int .i64 (deg f + deg g)) _ (by simp only [Act.put, List.setIfInBounds_toArray, List.set_cons_zero, List.set_cons_succ, e1, e3]) ⟨hB, hz, s0, s1, s2, h0, h1, h2, h3, (fun _ => rfl), h5⟩
    · intro L v W2 hd hn ⟨hB, hz, s0, s1, s2, h0, h1, h2, h3, h4, h5⟩ K hK
      have e4 := h4 (hd ⟨4, .data⟩ (by simp) rfl)
      go_wp2_with (go_at_call 194; refine (refuse_okB _ hds _).mono ?_; rintro e wy ⟨rfl, hy⟩)
      exact hK _ (.tuple #[]) _ (by simp only [Act.put, List.setIfInBounds_toArray, List.set_cons_zero, List.set_cons_succ, e4]) ⟨hB.trans (hy.mono hB.size), (Nat.le_trans hz hy.size), (s0).below hy (s0).lt, (s1).below hy (s1).lt, (s2).below hy (s2).lt, h0, h1, h2, h3, h4, (fun _ => rfl)⟩
  · intro L v W2 hL ⟨hB, hz, s0, s1, s2, h0, h1, h2, h3, h4, h5⟩
    have e0 := h0 (hL 0 (by decide))
    have e1 := h1 (hL 1 (by decide))
    have e2 := h2 (hL 2 (by decide))
    have e3 := h3 (hL 3 (by decide))
    have e4 := h4 (hL 4 (by decide))
    have e5 := h5 (hL 5 (by decide))
    clear hL h0 h1 h2 h3 h4 h5
    simp only [Exit.then, e0, e1, e2, e3, e4, e5]
    clear e0 e1 e2 e3 e4 e5
    clear B0
    have B0 := s0
    clear s0
    clear B1
    have B1 := s1
    clear s1
    clear B2
    have B2 := s2
    clear s2
    clear hb
    have hb := hB
    clear hB
    clear hbase hz lt_B0 lt_B1 lt_B2
    go_upto_region 2 with (fail)
    have lt_B0 := B0.lt
    have lt_B1 := B1.lt
    have lt_B2 := B2.lt
    go_wp2_with (first | rw [← zero64] | (refine wpList_load_any rfl 23 (.tmp 4) rfl _ rfl 64 23 _ (B0) _ Try.underlying23 rfl Try.size23 ?_) | (refine wpList_load_any rfl 23 (.tmp 5) rfl _ rfl 64 23 _ (B1) _ Try.underlying23 rfl Try.size23 ?_) | (go_at_call 80; refine (HPR.out _).mono ?_; rintro e W3 ⟨rfl, hW3⟩; replace B0 := B0.below hW3 B0.lt; replace B1 := B1.below hW3 B1.lt; replace B2 := B2.below hW3 B2.lt; replace hb := (hb).trans (hW3.mono (hb).size)) | (refine wpList_store_blk rfl 23 (.tmp 6) (.tmp 16) rfl _ 64 (prd p f g) rfl rfl 23 _ (B2) Try.size23 ?_; try simp only [Act.put]))
    have qB0 : Blk (W3.setRow (w.heap.size + 1 + 1) (bcells 64 (prd p f g))) (w.heap.size) 64 23 (f) := (B0.rowOther (by omega))
    have qB1 : Blk (W3.setRow (w.heap.size + 1 + 1) (bcells 64 (prd p f g))) (w.heap.size + 1) 64 23 (g) := (B1.rowOther (by omega))
    have qB2 : Blk (W3.setRow (w.heap.size + 1 + 1) (bcells 64 (prd p f g))) (w.heap.size + 1 + 1) 64 23 (prd p f g) := (B2.row (prd p f g))
    have qhb : Below w.heap.size w (W3.setRow (w.heap.size + 1 + 1) (bcells 64 (prd p f g))) := (below_row hb (by omega) _)
    obtain ⟨W4, hwo⟩ : ∃ v : World, v = (W3.setRow (w.heap.size + 1 + 1) (bcells 64 (prd p f g))) := ⟨_, rfl⟩
    rw [← hwo] at qB0 qB1 qB2 qhb ⊢
    clear hwo
    clear B0 B1 B2 hb
    have B0 := qB0
    have B1 := qB1
    have B2 := qB2
    have hb := qhb
    clear qB0 qB1 qB2 qhb
    try simp only [Act.put, List.setIfInBounds_toArray, List.set_cons_zero, List.set_cons_succ]
    refine bodyPost_ret (results_blk rfl _ _ _ 64 23 5 _ rfl B2 Try.underlying23 Try.size23) rfl ⟨rfl, hb⟩
set_option maxRecDepth 100000 in
set_option maxHeartbeats 1600000 in
theorem bounded_no (p : Nat) (f g : Nat → Nat) (w : World) (p2 : 2 ≤ p) (p7 : p ≤ 7) (lf : ∀ k, k < 64 → f k < p) (lg : ∀ k, k < 64 → g k < p) (hds : 63 < deg f + deg g) :
    Calls Try.prog 177 #[.int .i64 (p : Int), .agg (bcells 64 f), .agg (bcells 64 g)] w fun e w' => e = .panicked [{ v := .iface 138 (.int .i64 3), recovered := false }] ∧ Below w.heap.size w w' := by
  obtain ⟨fb1, fb2⟩ := deg_bounds f
  obtain ⟨gb1, gb2⟩ := deg_bounds g
  have HPR := Lib.hid (fun W => product_any p f g W p2 p7 lf lg)
  go_enter Try.func177, Try.ntmps177
  go_upto_region 1 with (fail)
  rw [← zero64]
  obtain ⟨W1, hwo⟩ : ∃ v : World, v = (((w.alloc (.cells (bcells 64 (f)) 23)).alloc (.cells (bcells 64 (g)) 23)).alloc (.cells (bcells 64 fun _ => 0) 23)) := ⟨_, rfl⟩
  have B0 : Blk W1 (w.heap.size) 64 23 (f) := by subst hwo; have := (((Blk.new w 64 23 (f)).alloc (.cells (bcells 64 (g)) 23)).alloc (.cells (bcells 64 fun _ => 0) 23)); simpa using this
  have B1 : Blk W1 (w.heap.size + 1) 64 23 (g) := by subst hwo; have := ((Blk.new (w.alloc (.cells (bcells 64 (f)) 23)) 64 23 (g)).alloc (.cells (bcells 64 fun _ => 0) 23)); simpa using this
  have B2 : Blk W1 (w.heap.size + 1 + 1) 64 23 (fun _ => 0) := by subst hwo; have := (Blk.new ((w.alloc (.cells (bcells 64 (f)) 23)).alloc (.cells (bcells 64 (g)) 23)) 64 23 (fun _ => 0)); simpa using this
  have hb : Below w.heap.size w W1 := by subst hwo; exact ((((Below.refl _ _).alloc (Nat.le_refl _) _).alloc (by simp) _).alloc (by simp; omega) _)
  rw [← hwo]
  clear hwo
  have lt_B0 : (w.heap.size) < W1.heap.size := B0.lt
  have lt_B1 : (w.heap.size + 1) < W1.heap.size := B1.lt
  have lt_B2 : (w.heap.size + 1 + 1) < W1.heap.size := B2.lt
  have hbase : w.heap.size ≤ W1.heap.size := hb.size
  refine wp_region_steps0 Try.mixed (by kernel_rfl) (by kernel_rfl) (fun v => by (simp only [frL, Act.put, List.setIfInBounds_toArray, List.set_cons_zero, List.set_cons_succ, Nat.reduceAdd, Nat.zero_add]; exact rfl))
    (fun L v W2 => Below w.heap.size w W2 ∧ W1.heap.size ≤ W2.heap.size ∧ Blk W2 (w.heap.size) 64 23 (f) ∧ Blk W2 (w.heap.size + 1) 64 23 (g) ∧ Blk W2 (w.heap.size + 1 + 1) 64 23 (fun _ => 0) ∧ (L 0 = true → v 0 = (.agg (bcells 64 (f)))) ∧ (L 1 = true → v 1 = (.int .i64 (deg f))) ∧ (L 2 = true → v 2 = (.agg (bcells 64 (g)))) ∧ (L 3 = true → v 3 = (.int .i64 (deg g))) ∧ (L 4 = true → v 4 = (.int .i64 (deg f + deg g))) ∧ (L 5 = true → False)) ?_ ?_ ?_
  · intro v hv0
    exact ⟨hb.drew, Nat.le_refl _, B0.drew, B1.drew, B2.drew, (fun h => by cases h), (fun h => by cases h), (fun h => by cases h), (fun h => by cases h), (fun h => by cases h), (fun h => by cases h)⟩
  · refine (.cons rfl ?_ (.cons rfl ?_ (.cons rfl ?_ (.cons rfl ?_ (.cons rfl ?_ (.cons rfl ?_ (.nil _)))))))
    · intro L v W2 hd hn ⟨hB, hz, s0, s1, s2, h0, h1, h2, h3, h4, h5⟩ K hK
      refine wp_load_any 23 _ rfl _ rfl 64 23 _ s0 _ Try.underlying23 rfl Try.size23 ?_
      exact hK _ _ _ rfl ⟨hB, hz, s0, s1, s2, (fun _ => rfl), h1, h2, h3, h4, h5⟩
    · intro L v W2 hd hn ⟨hB, hz, s0, s1, s2, h0, h1, h2, h3, h4, h5⟩ K hK
      have e0 := h0 (hd ⟨0, .data⟩ (by simp) rfl)
      go_wp2_with (go_at_call 78; refine (degree_any f _).mono ?_; rintro e wy ⟨rfl, hy⟩)
      exact hK _ (.int .i64 (deg f)) _ (by simp only [Act.put, List.setIfInBounds_toArray, List.set_cons_zero, List.set_cons_succ, e0]) ⟨hB.trans (hy.mono hB.size), (Nat.le_trans hz hy.size), (s0).below hy (s0).lt, (s1).below hy (s1).lt, (s2).below hy (s2).lt, h0, (fun _ => rfl), h2, h3, h4, h5⟩
    · intro L v W2 hd hn ⟨hB, hz, s0, s1, s2, h0, h1, h2, h3, h4, h5⟩ K hK
      refine wp_load_any 23 _ rfl _ rfl 64 23 _ s1 _ Try.underlying23 rfl Try.size23 ?_
      exact hK _ _ _ rfl ⟨hB, hz, s0, s1, s2, h0, h1, (fun _ => rfl), h3, h4, h5⟩
    · intro L v W2 hd hn ⟨hB, hz, s0, s1, s2, h0, h1, h2, h3, h4, h5⟩ K hK
      have e2 := h2 (hd ⟨2, .data⟩ (by simp) rfl)
      go_wp2_with (go_at_call 78; refine (degree_any g _).mono ?_; rintro e wy ⟨rfl, hy⟩)
      exact hK _ (.int .i64 (deg g)) _ (by simp only [Act.put, List.setIfInBounds_toArray, List.set_cons_zero, List.set_cons_succ, e2]) ⟨hB.trans (hy.mono hB.size), (Nat.le_trans hz hy.size), (s0).below hy (s0).lt, (s1).below hy (s1).lt, (s2).below hy (s2).lt, h0, h1, h2, (fun _ => rfl), h4, h5⟩
    · intro L v W2 hd hn ⟨hB, hz, s0, s1, s2, h0, h1, h2, h3, h4, h5⟩ K hK
      have e1 := h1 (hd ⟨1, .data⟩ (by simp) rfl)
      have e3 := h3 (hd ⟨3, .data⟩ (by simp) rfl)
      go_wp2_with fail
      exact hK _ (.int .i64 (deg f + deg g)) _ (by simp only [Act.put, List.setIfInBounds_toArray, List.set_cons_zero, List.set_cons_succ, e1, e3]) ⟨hB, hz, s0, s1, s2, h0, h1, h2, h3, (fun _ => rfl), h5⟩
    · intro L v W2 hd hn ⟨hB, hz, s0, s1, s2, h0, h1, h2, h3, h4, h5⟩ K hK
      have e4 := h4 (hd ⟨4, .data⟩ (by simp) rfl)
      go_wp2_with (go_at_call 194; refine (refuse_noB _ hds _).mono ?_; rintro e wy ⟨rfl, hy⟩)
      first | exact ⟨rfl, rfl, hB.trans (hy.mono hB.size)⟩ | (go_wp2_with fail; exact ⟨rfl, rfl, hB.trans (hy.mono hB.size)⟩)
  · intro L v W2 hL ⟨hB, hz, s0, s1, s2, h0, h1, h2, h3, h4, h5⟩
    exact (h5 (hL 5 (by decide))).elim
set_option maxRecDepth 100000 in
set_option maxHeartbeats 1600000 in
theorem firstFact_ok (p i : Nat) (w : World) (p2 : 2 ≤ p) (p7 : p ≤ 7) (hi : smI p i) (F : Nat → Nat) (hF : fcR p i false i = some F) :
    Calls Try.prog 134 #[.int .i64 (p : Int), .int .i64 (i : Int)] w fun e w' => e = .returned (.agg (bcells 64 (F))) ∧ Below w.heap.size w w' := by
  have hi20 := hi.1
  have HF := Lib.hid hF
  have HZ := Lib.hid (fcR_z p i false)
  have HLT := Lib.hid (fun j f => fcR_lt (p := p) (i := i) (s := false) p2 j f)
  have HBL := Lib.hid (fun j k => bkS_lt (p := p) (i := i) (s := false) (j := j) p2 k)
  have HPY := Lib.hid (show ∀ j, j < i → (bkS p i false j).2 = true → ∀ W, Calls Try.prog 131 #[.int .i64 (p : Int), .int .i64 (i : Int), .int .i64 (j : Int)] W fun e w' => e = .returned (.agg (bcells 64 (bkS p i false j).1)) ∧ Below W.heap.size W w' from fun j hj h W => by
    have e : bkS p i false j = bkV p i j := by unfold bkS; rfl
    rw [e] at h ⊢
    exact apart_yes p i j W p2 p7 (smI_le p2 hi (by omega)) (smI_le p2 hi (by omega)) h)
  have HPN := Lib.hid (show ∀ j, j < i → (bkS p i false j).2 = false → ∀ W, Calls Try.prog 131 #[.int .i64 (p : Int), .int .i64 (i : Int), .int .i64 (j : Int)] W fun e w' => e = .panicked [{ v := .iface 138 (.int .i64 3), recovered := false }] ∧ Below W.heap.size W w' from fun j hj h W => by
    have e : bkS p i false j = bkV p i j := by unfold bkS; rfl
    rw [e] at h
    exact apart_not p i j W p2 p7 (smI_le p2 hi (by omega)) (smI_le p2 hi (by omega)) h)
  clear hF
  go_enter Try.func134, Try.ntmps134
  go_upto_region 1 with (fail)
  rw [← zero64]
  obtain ⟨W1, hwo⟩ : ∃ v : World, v = (w.alloc (.cells (bcells 64 fun _ => 0) 23)) := ⟨_, rfl⟩
  have B0 : Blk W1 (w.heap.size) 64 23 (fun _ => 0) := by subst hwo; have := (Blk.new w 64 23 (fun _ => 0)); simpa using this
  have hb : Below w.heap.size w W1 := by subst hwo; exact ((Below.refl _ _).alloc (Nat.le_refl _) _)
  rw [← hwo]
  clear hwo
  have lt_B0 := B0.lt
  go_upto_region 2 with (first | rw [← zero64] | (refine wpList_build_of rfl 23 _ rfl (bcells 64 oneP) (by rw [Array.toList_map]; exact built_one) ?_) | (refine wpList_store_blk rfl 23 (.tmp 5) (.tmp 7) rfl _ 64 (oneP) rfl rfl 23 _ ((Blk.new W1 64 23 (fun _ => 0))) Try.size23 ?_; try simp only [Act.put]))
  have lt_B0 := B0.lt
  have lhb := hb.size
  have qB0 : Blk ((W1.alloc (.cells (bcells 64 fun _ => 0) 23)).setRow (W1.heap.size) (bcells 64 (oneP))) (w.heap.size) 64 23 (fun _ => 0) := ((B0.alloc (.cells (bcells 64 fun _ => 0) 23)).rowOther (by omega))
  have qB1 : Blk ((W1.alloc (.cells (bcells 64 fun _ => 0) 23)).setRow (W1.heap.size) (bcells 64 (oneP))) (W1.heap.size) 64 23 (oneP) := ((Blk.new W1 64 23 (fun _ => 0)).row (oneP))
  have qhb : Below w.heap.size w ((W1.alloc (.cells (bcells 64 fun _ => 0) 23)).setRow (W1.heap.size) (bcells 64 (oneP))) := (below_row (hb.alloc (by have := hb.size; simp; omega) (.cells (bcells 64 fun _ => 0) 23)) (by omega) _)
  obtain ⟨W2, hwo⟩ : ∃ v : World, v = ((W1.alloc (.cells (bcells 64 fun _ => 0) 23)).setRow (W1.heap.size) (bcells 64 (oneP))) := ⟨_, rfl⟩
  rw [← hwo] at qB0 qB1 qhb ⊢
  clear hwo
  clear B0 hb
  have B0 := qB0
  have B1 := qB1
  have hb := qhb
  clear qB0 qB1 qhb
  obtain ⟨N1, hNN⟩ : ∃ n : Nat, n = W1.heap.size := ⟨_, rfl⟩
  rw [← hNN] at lt_B0 lhb B1 ⊢
  clear hNN
  have zN1_0 := lt_B0
  have zN1 := lhb
  clear lt_B0 lhb
  try simp only [Act.put, List.setIfInBounds_toArray, List.set_cons_zero, List.set_cons_succ]
  go_wp2_with fail
  go_loopw [9] (fun x wr => ∃ (j : Nat) (f : Nat → Nat), Hid (fcR p i false j = some f) ∧ x = .int .i64 (j : Int) ∧ j ≤ i ∧ Below w.heap.size w wr ∧ Blk wr (w.heap.size) 64 23 (fun _ => 0) ∧ Blk wr (N1) 64 23 f) (fun x _ => i - (intOf x).toNat)
  case atStart => exact ⟨0, _, HZ, rfl, Nat.zero_le _, hb, B0, B1⟩
  case round =>
    clear hb B0 B1
    obtain ⟨j, f, hf, rfl, hji, hb, B0, B1⟩ := hrel
    by_cases hj : j < i
    · have hjI : (j : Int) < (i : Int) := by omega
      have lf := HLT.out j f hf.out
      have lb := HBL.out j
      have HLF := Lib.hid lf
      have HLB := Lib.hid lb
      clear lf lb
      by_cases hgood : (bkS p i false j).2 = true ∧ deg f + deg (bkS p i false j).1 ≤ 63
      · have HN := Lib.hid (fcR_yes hf.out hgood.1 hgood.2)
        have HP := Lib.hid (fun W => HPY.out j hj hgood.1 W)
        have HB := Lib.hid (fun W => bounded_ok p f (bkS p i false j).1 W p2 p7 HLF.out (fun k _ => HLB.out k) hgood.2)
        clear hgood
        go_upto_region 5 with (fail)
        have lt_B0 : (w.heap.size) < wr.heap.size := B0.lt
        have lt_B1 : (N1) < wr.heap.size := B1.lt
        have hbase : w.heap.size ≤ wr.heap.size := hb.size
        refine wp_region_steps0 Try.mixed (by kernel_rfl) (by kernel_rfl) (fun v => by (simp only [frL, Act.put, List.setIfInBounds_toArray, List.set_cons_zero, List.set_cons_succ, Nat.reduceAdd, Nat.zero_add]; exact rfl))
          (fun L v W3 => Below w.heap.size w W3 ∧ wr.heap.size ≤ W3.heap.size ∧ Blk W3 (w.heap.size) 64 23 (fun _ => 0) ∧ (∃ g, Blk W3 (N1) 64 23 (g)) ∧ (L 7 = false → Blk W3 (N1) 64 23 (f)) ∧ (L 7 = true → Blk W3 (N1) 64 23 (prd p f (bkS p i false j).1)) ∧ (L 0 = true → v 0 = (.int .i64 (p : Int))) ∧ (L 1 = true → v 1 = (.agg (bcells 64 (f)))) ∧ (L 2 = true → v 2 = (.int .i64 (p : Int))) ∧ (L 3 = true → v 3 = (.int .i64 (i : Int))) ∧ (L 4 = true → v 4 = (.int .i64 (j : Int))) ∧ (L 5 = true → v 5 = (.agg (bcells 64 ((bkS p i false j).1)))) ∧ (L 6 = true → v 6 = (.agg (bcells 64 (prd p f (bkS p i false j).1))))) ?_ ?_ ?_
        · intro v hv0
          exact ⟨hb.drew, Nat.le_refl _, B0.drew, ⟨_, B1.drew⟩, (fun _ => B1.drew), (fun h => by cases h), (fun h => by cases h), (fun h => by cases h), (fun h => by cases h), (fun h => by cases h), (fun h => by cases h), (fun h => by cases h), (fun h => by cases h)⟩
        · refine (.cons rfl ?_ (.cons rfl ?_ (.cons rfl ?_ (.cons rfl ?_ (.cons rfl ?_ (.cons rfl ?_ (.cons rfl ?_ (.cons rfl ?_ (.nil _)))))))))
          · intro L v W3 hd hn ⟨hB, hz, s0, x1, q1, n1, h0, h1, h2, h3, h4, h5, h6⟩ K hK
            go_wp2_with fail
            exact hK _ (.int .i64 (p : Int)) _ (by simp only [Act.put, List.setIfInBounds_toArray, List.set_cons_zero, List.set_cons_succ ]) ⟨hB, hz, s0, x1, q1, n1, (fun _ => rfl), h1, h2, h3, h4, h5, h6⟩
          · intro L v W3 hd hn ⟨hB, hz, s0, x1, q1, n1, h0, h1, h2, h3, h4, h5, h6⟩ K hK
            have s1 := q1 (by
              cases hL : L 7 with
              | false => rfl
              | true => exact absurd rfl (hn 7 _ rfl hL ⟨1, .phase⟩ (by simp) rfl))
            refine wp_load_any 23 _ rfl _ rfl 64 23 _ s1 _ Try.underlying23 rfl Try.size23 ?_
            exact hK _ _ _ rfl ⟨hB, hz, s0, x1, q1, n1, h0, (fun _ => rfl), h2, h3, h4, h5, h6⟩
          · intro L v W3 hd hn ⟨hB, hz, s0, x1, q1, n1, h0, h1, h2, h3, h4, h5, h6⟩ K hK
            go_wp2_with fail
            exact hK _ (.int .i64 (p : Int)) _ (by simp only [Act.put, List.setIfInBounds_toArray, List.set_cons_zero, List.set_cons_succ ]) ⟨hB, hz, s0, x1, q1, n1, h0, h1, (fun _ => rfl), h3, h4, h5, h6⟩
          · intro L v W3 hd hn ⟨hB, hz, s0, x1, q1, n1, h0, h1, h2, h3, h4, h5, h6⟩ K hK
            go_wp2_with fail
            exact hK _ (.int .i64 (i : Int)) _ (by simp only [Act.put, List.setIfInBounds_toArray, List.set_cons_zero, List.set_cons_succ ]) ⟨hB, hz, s0, x1, q1, n1, h0, h1, h2, (fun _ => rfl), h4, h5, h6⟩
          · intro L v W3 hd hn ⟨hB, hz, s0, x1, q1, n1, h0, h1, h2, h3, h4, h5, h6⟩ K hK
            go_wp2_with fail
            exact hK _ (.int .i64 (j : Int)) _ (by simp only [Act.put, List.setIfInBounds_toArray, List.set_cons_zero, List.set_cons_succ ]) ⟨hB, hz, s0, x1, q1, n1, h0, h1, h2, h3, (fun _ => rfl), h5, h6⟩
          · intro L v W3 hd hn ⟨hB, hz, s0, x1, q1, n1, h0, h1, h2, h3, h4, h5, h6⟩ K hK
            have e2 := h2 (hd ⟨2, .data⟩ (by simp) rfl)
            have e3 := h3 (hd ⟨3, .data⟩ (by simp) rfl)
            have e4 := h4 (hd ⟨4, .data⟩ (by simp) rfl)
            go_wp2_with (go_at_call 131; refine (HP.out _).mono ?_; rintro e wy ⟨rfl, hy⟩)
            exact hK _ (.agg (bcells 64 ((bkS p i false j).1))) _ (by simp only [Act.put, List.setIfInBounds_toArray, List.set_cons_zero, List.set_cons_succ, e2, e3, e4]) ⟨hB.trans (hy.mono hB.size), (Nat.le_trans hz hy.size), (s0).below hy (s0).lt, (let ⟨g, h⟩ := x1; ⟨g, (h).below hy (h).lt⟩), (fun h => (q1 h).below hy (q1 h).lt), (fun h => (n1 h).below hy (n1 h).lt), h0, h1, h2, h3, h4, (fun _ => rfl), h6⟩
          · intro L v W3 hd hn ⟨hB, hz, s0, x1, q1, n1, h0, h1, h2, h3, h4, h5, h6⟩ K hK
            have e0 := h0 (hd ⟨0, .data⟩ (by simp) rfl)
            have e1 := h1 (hd ⟨1, .data⟩ (by simp) rfl)
            have e5 := h5 (hd ⟨5, .data⟩ (by simp) rfl)
            go_wp2_with (go_at_call 177; refine (HB.out _).mono ?_; rintro e wy ⟨rfl, hy⟩)
            exact hK _ (.agg (bcells 64 (prd p f (bkS p i false j).1))) _ (by simp only [Act.put, List.setIfInBounds_toArray, List.set_cons_zero, List.set_cons_succ, e0, e1, e5]) ⟨hB.trans (hy.mono hB.size), (Nat.le_trans hz hy.size), (s0).below hy (s0).lt, (let ⟨g, h⟩ := x1; ⟨g, (h).below hy (h).lt⟩), (fun h => (q1 h).below hy (q1 h).lt), (fun h => (n1 h).below hy (n1 h).lt), h0, h1, h2, h3, h4, h5, (fun _ => rfl)⟩
          · intro L v W3 hd hn ⟨hB, hz, s0, x1, q1, n1, h0, h1, h2, h3, h4, h5, h6⟩ K hK
            have e6 := h6 (hd ⟨6, .data⟩ (by simp) rfl)
            obtain ⟨gz, hk⟩ := x1
            refine wp_store_blk 23 _ _ rfl _ 64 (prd p f (bkS p i false j).1) rfl e6 23 gz hk Try.size23 ?_
            exact hK _ undef _ rfl ⟨below_row hB (by omega) _, (by simpa [World.setRow] using hz), (s0).rowOther (by omega), ⟨_, hk.row _⟩, (fun h => absurd h (by simp [setL])), (fun _ => hk.row _), h0, h1, h2, h3, h4, h5, h6⟩
        · intro L v W3 hL ⟨hB, hz, s0, x1, q1, n1, h0, h1, h2, h3, h4, h5, h6⟩
          have r1 := n1 (hL 7 (by decide))
          have e0 := h0 (hL 0 (by decide))
          have e1 := h1 (hL 1 (by decide))
          have e2 := h2 (hL 2 (by decide))
          have e3 := h3 (hL 3 (by decide))
          have e4 := h4 (hL 4 (by decide))
          have e5 := h5 (hL 5 (by decide))
          have e6 := h6 (hL 6 (by decide))
          clear hL x1 q1 n1 h0 h1 h2 h3 h4 h5 h6
          simp only [Exit.then, e0, e1, e2, e3, e4, e5, e6]
          clear e0 e1 e2 e3 e4 e5 e6
          clear B0
          have B0 := s0
          clear s0
          clear B1
          have B1 := r1
          clear r1
          clear hb
          have hb := hB
          clear hB
          clear hbase hz lt_B0 lt_B1
          go_wp2_with fail
          go_roundw
          case rel => exact ⟨j + 1, _, HN, by go_num, by omega, hb, B0, B1⟩
          case measure => simp [intOf] <;> omega
      · have HN := Lib.hid (fcR_no hf.out hgood)
        exfalso
        have h1 := fcR_none HN.out (i - (j + 1))
        rw [show j + 1 + (i - (j + 1)) = i by omega, HF.out] at h1
        cases h1
    · have hjI : ¬ (j : Int) < (i : Int) := by omega
      obtain rfl : j = i := by omega
      have hfF : f = F := by have h1 := hf.out; rw [HF.out] at h1; injection h1 with h1; exact h1.symm
      rw [hfF] at B1
      clear hfF
      go_upto_region 7 with (fail)
      have lt_B0 := B0.lt
      have lt_B1 := B1.lt
      go_wp2_with (first | rw [← zero64] | (refine wpList_load_any rfl 23 (.tmp 5) rfl _ rfl 64 23 _ (B1) _ Try.underlying23 rfl Try.size23 ?_) | (refine wpList_store_blk rfl 23 (.tmp 4) (.tmp 20) rfl _ 64 (F) rfl rfl 23 _ (B0) Try.size23 ?_; try simp only [Act.put]))
      have qB0 : Blk (wr.setRow (w.heap.size) (bcells 64 (F))) (w.heap.size) 64 23 (F) := (B0.row (F))
      have qB1 : Blk (wr.setRow (w.heap.size) (bcells 64 (F))) (N1) 64 23 (F) := (B1.rowOther (by omega))
      have qhb : Below w.heap.size w (wr.setRow (w.heap.size) (bcells 64 (F))) := (below_row hb (by omega) _)
      obtain ⟨W3, hwo⟩ : ∃ v : World, v = (wr.setRow (w.heap.size) (bcells 64 (F))) := ⟨_, rfl⟩
      rw [← hwo] at qB0 qB1 qhb ⊢
      clear hwo
      clear B0 B1 hb
      have B0 := qB0
      have B1 := qB1
      have hb := qhb
      clear qB0 qB1 qhb
      try simp only [Act.put, List.setIfInBounds_toArray, List.set_cons_zero, List.set_cons_succ]
      refine bodyPost_ret (results_blk rfl _ _ _ 64 23 5 _ rfl B0 Try.underlying23 Try.size23) rfl ⟨rfl, hb⟩
set_option maxRecDepth 100000 in
set_option maxHeartbeats 1600000 in
theorem firstFact_no (p i : Nat) (w : World) (p2 : 2 ≤ p) (p7 : p ≤ 7) (hi : smI p i) (hF : fcR p i false i = none) :
    Calls Try.prog 134 #[.int .i64 (p : Int), .int .i64 (i : Int)] w fun e w' => e = .panicked [{ v := .iface 138 (.int .i64 3), recovered := false }] ∧ Below w.heap.size w w' := by
  have hi20 := hi.1
  have HF := Lib.hid hF
  have HZ := Lib.hid (fcR_z p i false)
  have HLT := Lib.hid (fun j f => fcR_lt (p := p) (i := i) (s := false) p2 j f)
  have HBL := Lib.hid (fun j k => bkS_lt (p := p) (i := i) (s := false) (j := j) p2 k)
  have HPY := Lib.hid (show ∀ j, j < i → (bkS p i false j).2 = true → ∀ W, Calls Try.prog 131 #[.int .i64 (p : Int), .int .i64 (i : Int), .int .i64 (j : Int)] W fun e w' => e = .returned (.agg (bcells 64 (bkS p i false j).1)) ∧ Below W.heap.size W w' from fun j hj h W => by
    have e : bkS p i false j = bkV p i j := by unfold bkS; rfl
    rw [e] at h ⊢
    exact apart_yes p i j W p2 p7 (smI_le p2 hi (by omega)) (smI_le p2 hi (by omega)) h)
  have HPN := Lib.hid (show ∀ j, j < i → (bkS p i false j).2 = false → ∀ W, Calls Try.prog 131 #[.int .i64 (p : Int), .int .i64 (i : Int), .int .i64 (j : Int)] W fun e w' => e = .panicked [{ v := .iface 138 (.int .i64 3), recovered := false }] ∧ Below W.heap.size W w' from fun j hj h W => by
    have e : bkS p i false j = bkV p i j := by unfold bkS; rfl
    rw [e] at h
    exact apart_not p i j W p2 p7 (smI_le p2 hi (by omega)) (smI_le p2 hi (by omega)) h)
  clear hF
  go_enter Try.func134, Try.ntmps134
  go_upto_region 1 with (fail)
  rw [← zero64]
  obtain ⟨W1, hwo⟩ : ∃ v : World, v = (w.alloc (.cells (bcells 64 fun _ => 0) 23)) := ⟨_, rfl⟩
  have B0 : Blk W1 (w.heap.size) 64 23 (fun _ => 0) := by subst hwo; have := (Blk.new w 64 23 (fun _ => 0)); simpa using this
  have hb : Below w.heap.size w W1 := by subst hwo; exact ((Below.refl _ _).alloc (Nat.le_refl _) _)
  rw [← hwo]
  clear hwo
  have lt_B0 := B0.lt
  go_upto_region 2 with (first | rw [← zero64] | (refine wpList_build_of rfl 23 _ rfl (bcells 64 oneP) (by rw [Array.toList_map]; exact built_one) ?_) | (refine wpList_store_blk rfl 23 (.tmp 5) (.tmp 7) rfl _ 64 (oneP) rfl rfl 23 _ ((Blk.new W1 64 23 (fun _ => 0))) Try.size23 ?_; try simp only [Act.put]))
  have lt_B0 := B0.lt
  have lhb := hb.size
  have qB0 : Blk ((W1.alloc (.cells (bcells 64 fun _ => 0) 23)).setRow (W1.heap.size) (bcells 64 (oneP))) (w.heap.size) 64 23 (fun _ => 0) := ((B0.alloc (.cells (bcells 64 fun _ => 0) 23)).rowOther (by omega))
  have qB1 : Blk ((W1.alloc (.cells (bcells 64 fun _ => 0) 23)).setRow (W1.heap.size) (bcells 64 (oneP))) (W1.heap.size) 64 23 (oneP) := ((Blk.new W1 64 23 (fun _ => 0)).row (oneP))
  have qhb : Below w.heap.size w ((W1.alloc (.cells (bcells 64 fun _ => 0) 23)).setRow (W1.heap.size) (bcells 64 (oneP))) := (below_row (hb.alloc (by have := hb.size; simp; omega) (.cells (bcells 64 fun _ => 0) 23)) (by omega) _)
  obtain ⟨W2, hwo⟩ : ∃ v : World, v = ((W1.alloc (.cells (bcells 64 fun _ => 0) 23)).setRow (W1.heap.size) (bcells 64 (oneP))) := ⟨_, rfl⟩
  rw [← hwo] at qB0 qB1 qhb ⊢
  clear hwo
  clear B0 hb
  have B0 := qB0
  have B1 := qB1
  have hb := qhb
  clear qB0 qB1 qhb
  obtain ⟨N1, hNN⟩ : ∃ n : Nat, n = W1.heap.size := ⟨_, rfl⟩
  rw [← hNN] at lt_B0 lhb B1 ⊢
  clear hNN
  have zN1_0 := lt_B0
  have zN1 := lhb
  clear lt_B0 lhb
  try simp only [Act.put, List.setIfInBounds_toArray, List.set_cons_zero, List.set_cons_succ]
  go_wp2_with fail
  go_loopw [9] (fun x wr => ∃ (j : Nat) (f : Nat → Nat), Hid (fcR p i false j = some f) ∧ x = .int .i64 (j : Int) ∧ j ≤ i ∧ Below w.heap.size w wr ∧ Blk wr (w.heap.size) 64 23 (fun _ => 0) ∧ Blk wr (N1) 64 23 f) (fun x _ => i - (intOf x).toNat)
  case atStart => exact ⟨0, _, HZ, rfl, Nat.zero_le _, hb, B0, B1⟩
  case round =>
    clear hb B0 B1
    obtain ⟨j, f, hf, rfl, hji, hb, B0, B1⟩ := hrel
    by_cases hj : j < i
    · have hjI : (j : Int) < (i : Int) := by omega
      have lf := HLT.out j f hf.out
      have lb := HBL.out j
      have HLF := Lib.hid lf
      have HLB := Lib.hid lb
      clear lf lb
      by_cases hgood : (bkS p i false j).2 = true ∧ deg f + deg (bkS p i false j).1 ≤ 63
      · have HN := Lib.hid (fcR_yes hf.out hgood.1 hgood.2)
        have HP := Lib.hid (fun W => HPY.out j hj hgood.1 W)
        have HB := Lib.hid (fun W => bounded_ok p f (bkS p i false j).1 W p2 p7 HLF.out (fun k _ => HLB.out k) hgood.2)
        clear hgood
        go_upto_region 5 with (fail)
        have lt_B0 : (w.heap.size) < wr.heap.size := B0.lt
        have lt_B1 : (N1) < wr.heap.size := B1.lt
        have hbase : w.heap.size ≤ wr.heap.size := hb.size
        refine wp_region_steps0 Try.mixed (by kernel_rfl) (by kernel_rfl) (fun v => by (simp only [frL, Act.put, List.setIfInBounds_toArray, List.set_cons_zero, List.set_cons_succ, Nat.reduceAdd, Nat.zero_add]; exact rfl))
          (fun L v W3 => Below w.heap.size w W3 ∧ wr.heap.size ≤ W3.heap.size ∧ Blk W3 (w.heap.size) 64 23 (fun _ => 0) ∧ (∃ g, Blk W3 (N1) 64 23 (g)) ∧ (L 7 = false → Blk W3 (N1) 64 23 (f)) ∧ (L 7 = true → Blk W3 (N1) 64 23 (prd p f (bkS p i false j).1)) ∧ (L 0 = true → v 0 = (.int .i64 (p : Int))) ∧ (L 1 = true → v 1 = (.agg (bcells 64 (f)))) ∧ (L 2 = true → v 2 = (.int .i64 (p : Int))) ∧ (L 3 = true → v 3 = (.int .i64 (i : Int))) ∧ (L 4 = true → v 4 = (.int .i64 (j : Int))) ∧ (L 5 = true → v 5 = (.agg (bcells 64 ((bkS p i false j).1)))) ∧ (L 6 = true → v 6 = (.agg (bcells 64 (prd p f (bkS p i false j).1))))) ?_ ?_ ?_
        · intro v hv0
          exact ⟨hb.drew, Nat.le_refl _, B0.drew, ⟨_, B1.drew⟩, (fun _ => B1.drew), (fun h => by cases h), (fun h => by cases h), (fun h => by cases h), (fun h => by cases h), (fun h => by cases h), (fun h => by cases h), (fun h => by cases h), (fun h => by cases h)⟩
        · refine (.cons rfl ?_ (.cons rfl ?_ (.cons rfl ?_ (.cons rfl ?_ (.cons rfl ?_ (.cons rfl ?_ (.cons rfl ?_ (.cons rfl ?_ (.nil _)))))))))
          · intro L v W3 hd hn ⟨hB, hz, s0, x1, q1, n1, h0, h1, h2, h3, h4, h5, h6⟩ K hK
            go_wp2_with fail
            exact hK _ (.int .i64 (p : Int)) _ (by simp only [Act.put, List.setIfInBounds_toArray, List.set_cons_zero, List.set_cons_succ ]) ⟨hB, hz, s0, x1, q1, n1, (fun _ => rfl), h1, h2, h3, h4, h5, h6⟩
          · intro L v W3 hd hn ⟨hB, hz, s0, x1, q1, n1, h0, h1, h2, h3, h4, h5, h6⟩ K hK
            have s1 := q1 (by
              cases hL : L 7 with
              | false => rfl
              | true => exact absurd rfl (hn 7 _ rfl hL ⟨1, .phase⟩ (by simp) rfl))
            refine wp_load_any 23 _ rfl _ rfl 64 23 _ s1 _ Try.underlying23 rfl Try.size23 ?_
            exact hK _ _ _ rfl ⟨hB, hz, s0, x1, q1, n1, h0, (fun _ => rfl), h2, h3, h4, h5, h6⟩
          · intro L v W3 hd hn ⟨hB, hz, s0, x1, q1, n1, h0, h1, h2, h3, h4, h5, h6⟩ K hK
            go_wp2_with fail
            exact hK _ (.int .i64 (p : Int)) _ (by simp only [Act.put, List.setIfInBounds_toArray, List.set_cons_zero, List.set_cons_succ ]) ⟨hB, hz, s0, x1, q1, n1, h0, h1, (fun _ => rfl), h3, h4, h5, h6⟩
          · intro L v W3 hd hn ⟨hB, hz, s0, x1, q1, n1, h0, h1, h2, h3, h4, h5, h6⟩ K hK
            go_wp2_with fail
            exact hK _ (.int .i64 (i : Int)) _ (by simp only [Act.put, List.setIfInBounds_toArray, List.set_cons_zero, List.set_cons_succ ]) ⟨hB, hz, s0, x1, q1, n1, h0, h1, h2, (fun _ => rfl), h4, h5, h6⟩
          · intro L v W3 hd hn ⟨hB, hz, s0, x1, q1, n1, h0, h1, h2, h3, h4, h5, h6⟩ K hK
            go_wp2_with fail
            exact hK _ (.int .i64 (j : Int)) _ (by simp only [Act.put, List.setIfInBounds_toArray, List.set_cons_zero, List.set_cons_succ ]) ⟨hB, hz, s0, x1, q1, n1, h0, h1, h2, h3, (fun _ => rfl), h5, h6⟩
          · intro L v W3 hd hn ⟨hB, hz, s0, x1, q1, n1, h0, h1, h2, h3, h4, h5, h6⟩ K hK
            have e2 := h2 (hd ⟨2, .data⟩ (by simp) rfl)
            have e3 := h3 (hd ⟨3, .data⟩ (by simp) rfl)
            have e4 := h4 (hd ⟨4, .data⟩ (by simp) rfl)
            go_wp2_with (go_at_call 131; refine (HP.out _).mono ?_; rintro e wy ⟨rfl, hy⟩)
            exact hK _ (.agg (bcells 64 ((bkS p i false j).1))) _ (by simp only [Act.put, List.setIfInBounds_toArray, List.set_cons_zero, List.set_cons_succ, e2, e3, e4]) ⟨hB.trans (hy.mono hB.size), (Nat.le_trans hz hy.size), (s0).below hy (s0).lt, (let ⟨g, h⟩ := x1; ⟨g, (h).below hy (h).lt⟩), (fun h => (q1 h).below hy (q1 h).lt), (fun h => (n1 h).below hy (n1 h).lt), h0, h1, h2, h3, h4, (fun _ => rfl), h6⟩
          · intro L v W3 hd hn ⟨hB, hz, s0, x1, q1, n1, h0, h1, h2, h3, h4, h5, h6⟩ K hK
            have e0 := h0 (hd ⟨0, .data⟩ (by simp) rfl)
            have e1 := h1 (hd ⟨1, .data⟩ (by simp) rfl)
            have e5 := h5 (hd ⟨5, .data⟩ (by simp) rfl)
            go_wp2_with (go_at_call 177; refine (HB.out _).mono ?_; rintro e wy ⟨rfl, hy⟩)
            exact hK _ (.agg (bcells 64 (prd p f (bkS p i false j).1))) _ (by simp only [Act.put, List.setIfInBounds_toArray, List.set_cons_zero, List.set_cons_succ, e0, e1, e5]) ⟨hB.trans (hy.mono hB.size), (Nat.le_trans hz hy.size), (s0).below hy (s0).lt, (let ⟨g, h⟩ := x1; ⟨g, (h).below hy (h).lt⟩), (fun h => (q1 h).below hy (q1 h).lt), (fun h => (n1 h).below hy (n1 h).lt), h0, h1, h2, h3, h4, h5, (fun _ => rfl)⟩
          · intro L v W3 hd hn ⟨hB, hz, s0, x1, q1, n1, h0, h1, h2, h3, h4, h5, h6⟩ K hK
            have e6 := h6 (hd ⟨6, .data⟩ (by simp) rfl)
            obtain ⟨gz, hk⟩ := x1
            refine wp_store_blk 23 _ _ rfl _ 64 (prd p f (bkS p i false j).1) rfl e6 23 gz hk Try.size23 ?_
            exact hK _ undef _ rfl ⟨below_row hB (by omega) _, (by simpa [World.setRow] using hz), (s0).rowOther (by omega), ⟨_, hk.row _⟩, (fun h => absurd h (by simp [setL])), (fun _ => hk.row _), h0, h1, h2, h3, h4, h5, h6⟩
        · intro L v W3 hL ⟨hB, hz, s0, x1, q1, n1, h0, h1, h2, h3, h4, h5, h6⟩
          have r1 := n1 (hL 7 (by decide))
          have e0 := h0 (hL 0 (by decide))
          have e1 := h1 (hL 1 (by decide))
          have e2 := h2 (hL 2 (by decide))
          have e3 := h3 (hL 3 (by decide))
          have e4 := h4 (hL 4 (by decide))
          have e5 := h5 (hL 5 (by decide))
          have e6 := h6 (hL 6 (by decide))
          clear hL x1 q1 n1 h0 h1 h2 h3 h4 h5 h6
          simp only [Exit.then, e0, e1, e2, e3, e4, e5, e6]
          clear e0 e1 e2 e3 e4 e5 e6
          clear B0
          have B0 := s0
          clear s0
          clear B1
          have B1 := r1
          clear r1
          clear hb
          have hb := hB
          clear hB
          clear hbase hz lt_B0 lt_B1
          go_wp2_with fail
          go_roundw
          case rel => exact ⟨j + 1, _, HN, by go_num, by omega, hb, B0, B1⟩
          case measure => simp [intOf] <;> omega
      · have HN := Lib.hid (fcR_no hf.out hgood)
        cases hbb : (bkS p i false j).2 with
        | false =>
          have HP := Lib.hid (fun W => HPN.out j hj hbb W)
          clear hgood hbb
          go_upto_region 5 with (fail)
          have lt_B0 : (w.heap.size) < wr.heap.size := B0.lt
          have lt_B1 : (N1) < wr.heap.size := B1.lt
          have hbase : w.heap.size ≤ wr.heap.size := hb.size
          refine wp_region_steps0 Try.mixed (by kernel_rfl) (by kernel_rfl) (fun v => by (simp only [frL, Act.put, List.setIfInBounds_toArray, List.set_cons_zero, List.set_cons_succ, Nat.reduceAdd, Nat.zero_add]; exact rfl))
            (fun L v W3 => Below w.heap.size w W3 ∧ wr.heap.size ≤ W3.heap.size ∧ Blk W3 (w.heap.size) 64 23 (fun _ => 0) ∧ (∃ g, Blk W3 (N1) 64 23 (g)) ∧ (L 7 = false → Blk W3 (N1) 64 23 (f)) ∧ (L 7 = true → Blk W3 (N1) 64 23 (prd p f (bkS p i false j).1)) ∧ (L 0 = true → v 0 = (.int .i64 (p : Int))) ∧ (L 1 = true → v 1 = (.agg (bcells 64 (f)))) ∧ (L 2 = true → v 2 = (.int .i64 (p : Int))) ∧ (L 3 = true → v 3 = (.int .i64 (i : Int))) ∧ (L 4 = true → v 4 = (.int .i64 (j : Int))) ∧ (L 5 = true → False) ∧ (L 6 = true → v 6 = (.agg (bcells 64 (prd p f (bkS p i false j).1))))) ?_ ?_ ?_
          · intro v hv0
            exact ⟨hb.drew, Nat.le_refl _, B0.drew, ⟨_, B1.drew⟩, (fun _ => B1.drew), (fun h => by cases h), (fun h => by cases h), (fun h => by cases h), (fun h => by cases h), (fun h => by cases h), (fun h => by cases h), (fun h => by cases h), (fun h => by cases h)⟩
          · refine (.cons rfl ?_ (.cons rfl ?_ (.cons rfl ?_ (.cons rfl ?_ (.cons rfl ?_ (.cons rfl ?_ (.cons rfl ?_ (.cons rfl ?_ (.nil _)))))))))
            · intro L v W3 hd hn ⟨hB, hz, s0, x1, q1, n1, h0, h1, h2, h3, h4, h5, h6⟩ K hK
              go_wp2_with fail
              exact hK _ (.int .i64 (p : Int)) _ (by simp only [Act.put, List.setIfInBounds_toArray, List.set_cons_zero, List.set_cons_succ ]) ⟨hB, hz, s0, x1, q1, n1, (fun _ => rfl), h1, h2, h3, h4, h5, h6⟩
            · intro L v W3 hd hn ⟨hB, hz, s0, x1, q1, n1, h0, h1, h2, h3, h4, h5, h6⟩ K hK
              have s1 := q1 (by
                cases hL : L 7 with
                | false => rfl
                | true => exact absurd rfl (hn 7 _ rfl hL ⟨1, .phase⟩ (by simp) rfl))
              refine wp_load_any 23 _ rfl _ rfl 64 23 _ s1 _ Try.underlying23 rfl Try.size23 ?_
              exact hK _ _ _ rfl ⟨hB, hz, s0, x1, q1, n1, h0, (fun _ => rfl), h2, h3, h4, h5, h6⟩
            · intro L v W3 hd hn ⟨hB, hz, s0, x1, q1, n1, h0, h1, h2, h3, h4, h5, h6⟩ K hK
              go_wp2_with fail
              exact hK _ (.int .i64 (p : Int)) _ (by simp only [Act.put, List.setIfInBounds_toArray, List.set_cons_zero, List.set_cons_succ ]) ⟨hB, hz, s0, x1, q1, n1, h0, h1, (fun _ => rfl), h3, h4, h5, h6⟩
            · intro L v W3 hd hn ⟨hB, hz, s0, x1, q1, n1, h0, h1, h2, h3, h4, h5, h6⟩ K hK
              go_wp2_with fail
              exact hK _ (.int .i64 (i : Int)) _ (by simp only [Act.put, List.setIfInBounds_toArray, List.set_cons_zero, List.set_cons_succ ]) ⟨hB, hz, s0, x1, q1, n1, h0, h1, h2, (fun _ => rfl), h4, h5, h6⟩
            · intro L v W3 hd hn ⟨hB, hz, s0, x1, q1, n1, h0, h1, h2, h3, h4, h5, h6⟩ K hK
              go_wp2_with fail
              exact hK _ (.int .i64 (j : Int)) _ (by simp only [Act.put, List.setIfInBounds_toArray, List.set_cons_zero, List.set_cons_succ ]) ⟨hB, hz, s0, x1, q1, n1, h0, h1, h2, h3, (fun _ => rfl), h5, h6⟩
            · intro L v W3 hd hn ⟨hB, hz, s0, x1, q1, n1, h0, h1, h2, h3, h4, h5, h6⟩ K hK
              have e2 := h2 (hd ⟨2, .data⟩ (by simp) rfl)
              have e3 := h3 (hd ⟨3, .data⟩ (by simp) rfl)
              have e4 := h4 (hd ⟨4, .data⟩ (by simp) rfl)
              go_wp2_with (go_at_call 131; refine (HP.out _).mono ?_; rintro e wy ⟨rfl, hy⟩)
              first | exact ⟨rfl, rfl, hB.trans (hy.mono hB.size)⟩ | (go_wp2_with fail; exact ⟨rfl, rfl, hB.trans (hy.mono hB.size)⟩)
            · intro L v W3 hd hn ⟨hB, hz, s0, x1, q1, n1, h0, h1, h2, h3, h4, h5, h6⟩ K hK
              exact (h5 (hd ⟨5, .data⟩ (by simp) rfl)).elim
            · intro L v W3 hd hn ⟨hB, hz, s0, x1, q1, n1, h0, h1, h2, h3, h4, h5, h6⟩ K hK
              exact (h5 (hd ⟨5, .phase⟩ (by simp) rfl)).elim
          · intro L v W3 hL ⟨hB, hz, s0, x1, q1, n1, h0, h1, h2, h3, h4, h5, h6⟩
            exact (h5 (hL 5 (by decide))).elim
        | true =>
          have hgt : 63 < deg f + deg (bkS p i false j).1 := by
            apply Classical.byContradiction
            intro h
            exact hgood ⟨hbb, by omega⟩
          have HP := Lib.hid (fun W => HPY.out j hj hbb W)
          have HB := Lib.hid (fun W => bounded_no p f (bkS p i false j).1 W p2 p7 HLF.out (fun k _ => HLB.out k) hgt)
          clear hgood hbb hgt
          go_upto_region 5 with (fail)
          have lt_B0 : (w.heap.size) < wr.heap.size := B0.lt
          have lt_B1 : (N1) < wr.heap.size := B1.lt
          have hbase : w.heap.size ≤ wr.heap.size := hb.size
          refine wp_region_steps0 Try.mixed (by kernel_rfl) (by kernel_rfl) (fun v => by (simp only [frL, Act.put, List.setIfInBounds_toArray, List.set_cons_zero, List.set_cons_succ, Nat.reduceAdd, Nat.zero_add]; exact rfl))
            (fun L v W3 => Below w.heap.size w W3 ∧ wr.heap.size ≤ W3.heap.size ∧ Blk W3 (w.heap.size) 64 23 (fun _ => 0) ∧ (∃ g, Blk W3 (N1) 64 23 (g)) ∧ (L 7 = false → Blk W3 (N1) 64 23 (f)) ∧ (L 7 = true → Blk W3 (N1) 64 23 (fun _ => 0)) ∧ (L 0 = true → v 0 = (.int .i64 (p : Int))) ∧ (L 1 = true → v 1 = (.agg (bcells 64 (f)))) ∧ (L 2 = true → v 2 = (.int .i64 (p : Int))) ∧ (L 3 = true → v 3 = (.int .i64 (i : Int))) ∧ (L 4 = true → v 4 = (.int .i64 (j : Int))) ∧ (L 5 = true → v 5 = (.agg (bcells 64 ((bkS p i false j).1)))) ∧ (L 6 = true → False)) ?_ ?_ ?_
          · intro v hv0
            exact ⟨hb.drew, Nat.le_refl _, B0.drew, ⟨_, B1.drew⟩, (fun _ => B1.drew), (fun h => by cases h), (fun h => by cases h), (fun h => by cases h), (fun h => by cases h), (fun h => by cases h), (fun h => by cases h), (fun h => by cases h), (fun h => by cases h)⟩
          · refine (.cons rfl ?_ (.cons rfl ?_ (.cons rfl ?_ (.cons rfl ?_ (.cons rfl ?_ (.cons rfl ?_ (.cons rfl ?_ (.cons rfl ?_ (.nil _)))))))))
            · intro L v W3 hd hn ⟨hB, hz, s0, x1, q1, n1, h0, h1, h2, h3, h4, h5, h6⟩ K hK
              go_wp2_with fail
              exact hK _ (.int .i64 (p : Int)) _ (by simp only [Act.put, List.setIfInBounds_toArray, List.set_cons_zero, List.set_cons_succ ]) ⟨hB, hz, s0, x1, q1, n1, (fun _ => rfl), h1, h2, h3, h4, h5, h6⟩
            · intro L v W3 hd hn ⟨hB, hz, s0, x1, q1, n1, h0, h1, h2, h3, h4, h5, h6⟩ K hK
              have s1 := q1 (by
                cases hL : L 7 with
                | false => rfl
                | true => exact absurd rfl (hn 7 _ rfl hL ⟨1, .phase⟩ (by simp) rfl))
              refine wp_load_any 23 _ rfl _ rfl 64 23 _ s1 _ Try.underlying23 rfl Try.size23 ?_
              exact hK _ _ _ rfl ⟨hB, hz, s0, x1, q1, n1, h0, (fun _ => rfl), h2, h3, h4, h5, h6⟩
            · intro L v W3 hd hn ⟨hB, hz, s0, x1, q1, n1, h0, h1, h2, h3, h4, h5, h6⟩ K hK
              go_wp2_with fail
              exact hK _ (.int .i64 (p : Int)) _ (by simp only [Act.put, List.setIfInBounds_toArray, List.set_cons_zero, List.set_cons_succ ]) ⟨hB, hz, s0, x1, q1, n1, h0, h1, (fun _ => rfl), h3, h4, h5, h6⟩
            · intro L v W3 hd hn ⟨hB, hz, s0, x1, q1, n1, h0, h1, h2, h3, h4, h5, h6⟩ K hK
              go_wp2_with fail
              exact hK _ (.int .i64 (i : Int)) _ (by simp only [Act.put, List.setIfInBounds_toArray, List.set_cons_zero, List.set_cons_succ ]) ⟨hB, hz, s0, x1, q1, n1, h0, h1, h2, (fun _ => rfl), h4, h5, h6⟩
            · intro L v W3 hd hn ⟨hB, hz, s0, x1, q1, n1, h0, h1, h2, h3, h4, h5, h6⟩ K hK
              go_wp2_with fail
              exact hK _ (.int .i64 (j : Int)) _ (by simp only [Act.put, List.setIfInBounds_toArray, List.set_cons_zero, List.set_cons_succ ]) ⟨hB, hz, s0, x1, q1, n1, h0, h1, h2, h3, (fun _ => rfl), h5, h6⟩
            · intro L v W3 hd hn ⟨hB, hz, s0, x1, q1, n1, h0, h1, h2, h3, h4, h5, h6⟩ K hK
              have e2 := h2 (hd ⟨2, .data⟩ (by simp) rfl)
              have e3 := h3 (hd ⟨3, .data⟩ (by simp) rfl)
              have e4 := h4 (hd ⟨4, .data⟩ (by simp) rfl)
              go_wp2_with (go_at_call 131; refine (HP.out _).mono ?_; rintro e wy ⟨rfl, hy⟩)
              exact hK _ (.agg (bcells 64 ((bkS p i false j).1))) _ (by simp only [Act.put, List.setIfInBounds_toArray, List.set_cons_zero, List.set_cons_succ, e2, e3, e4]) ⟨hB.trans (hy.mono hB.size), (Nat.le_trans hz hy.size), (s0).below hy (s0).lt, (let ⟨g, h⟩ := x1; ⟨g, (h).below hy (h).lt⟩), (fun h => (q1 h).below hy (q1 h).lt), (fun h => (n1 h).below hy (n1 h).lt), h0, h1, h2, h3, h4, (fun _ => rfl), h6⟩
            · intro L v W3 hd hn ⟨hB, hz, s0, x1, q1, n1, h0, h1, h2, h3, h4, h5, h6⟩ K hK
              have e0 := h0 (hd ⟨0, .data⟩ (by simp) rfl)
              have e1 := h1 (hd ⟨1, .data⟩ (by simp) rfl)
              have e5 := h5 (hd ⟨5, .data⟩ (by simp) rfl)
              go_wp2_with (go_at_call 177; refine (HB.out _).mono ?_; rintro e wy ⟨rfl, hy⟩)
              first | exact ⟨rfl, rfl, hB.trans (hy.mono hB.size)⟩ | (go_wp2_with fail; exact ⟨rfl, rfl, hB.trans (hy.mono hB.size)⟩)
            · intro L v W3 hd hn ⟨hB, hz, s0, x1, q1, n1, h0, h1, h2, h3, h4, h5, h6⟩ K hK
              exact (h6 (hd ⟨6, .data⟩ (by simp) rfl)).elim
          · intro L v W3 hL ⟨hB, hz, s0, x1, q1, n1, h0, h1, h2, h3, h4, h5, h6⟩
            exact (h6 (hL 6 (by decide))).elim
    · have hjI : ¬ (j : Int) < (i : Int) := by omega
      obtain rfl : j = i := by omega
      exfalso
      have h1 := hf.out
      rw [HF.out] at h1
      cases h1
set_option maxRecDepth 100000 in
set_option maxHeartbeats 1600000 in
theorem secondFact_ok (p i : Nat) (w : World) (p2 : 2 ≤ p) (p7 : p ≤ 7) (hi : smI p i) (F : Nat → Nat) (hF : fcR p i true i = some F) :
    Calls Try.prog 136 #[.int .i64 (p : Int), .int .i64 (i : Int)] w fun e w' => e = .returned (.agg (bcells 64 (F))) ∧ Below w.heap.size w w' := by
  have hi20 := hi.1
  have HF := Lib.hid hF
  have HZ := Lib.hid (fcR_z p i true)
  have HLT := Lib.hid (fun j f => fcR_lt (p := p) (i := i) (s := true) p2 j f)
  have HBL := Lib.hid (fun j k => bkS_lt (p := p) (i := i) (s := true) (j := j) p2 k)
  have HPY := Lib.hid (show ∀ j, j < i → (bkS p i true j).2 = true → ∀ W, Calls Try.prog 131 #[.int .i64 (p : Int), .int .i64 ((j : Int) + 1), .int .i64 0] W fun e w' => e = .returned (.agg (bcells 64 (bkS p i true j).1)) ∧ Below W.heap.size W w' from fun j hj h W => by
    have e : bkS p i true j = bkV p (j + 1) 0 := by unfold bkS; rfl
    rw [e] at h ⊢
    exact apart_yes p (j + 1) 0 W p2 p7 (smI_le p2 hi (by omega)) (smI_le p2 hi (by omega)) h)
  have HPN := Lib.hid (show ∀ j, j < i → (bkS p i true j).2 = false → ∀ W, Calls Try.prog 131 #[.int .i64 (p : Int), .int .i64 ((j : Int) + 1), .int .i64 0] W fun e w' => e = .panicked [{ v := .iface 138 (.int .i64 3), recovered := false }] ∧ Below W.heap.size W w' from fun j hj h W => by
    have e : bkS p i true j = bkV p (j + 1) 0 := by unfold bkS; rfl
    rw [e] at h
    exact apart_not p (j + 1) 0 W p2 p7 (smI_le p2 hi (by omega)) (smI_le p2 hi (by omega)) h)
  clear hF
  go_enter Try.func136, Try.ntmps136
  go_upto_region 1 with (fail)
  rw [← zero64]
  obtain ⟨W1, hwo⟩ : ∃ v : World, v = (w.alloc (.cells (bcells 64 fun _ => 0) 23)) := ⟨_, rfl⟩
  have B0 : Blk W1 (w.heap.size) 64 23 (fun _ => 0) := by subst hwo; have := (Blk.new w 64 23 (fun _ => 0)); simpa using this
  have hb : Below w.heap.size w W1 := by subst hwo; exact ((Below.refl _ _).alloc (Nat.le_refl _) _)
  rw [← hwo]
  clear hwo
  have lt_B0 := B0.lt
  go_upto_region 2 with (first | rw [← zero64] | (refine wpList_build_of rfl 23 _ rfl (bcells 64 oneP) (by rw [Array.toList_map]; exact built_one) ?_) | (refine wpList_store_blk rfl 23 (.tmp 5) (.tmp 7) rfl _ 64 (oneP) rfl rfl 23 _ ((Blk.new W1 64 23 (fun _ => 0))) Try.size23 ?_; try simp only [Act.put]))
  have lt_B0 := B0.lt
  have lhb := hb.size
  have qB0 : Blk ((W1.alloc (.cells (bcells 64 fun _ => 0) 23)).setRow (W1.heap.size) (bcells 64 (oneP))) (w.heap.size) 64 23 (fun _ => 0) := ((B0.alloc (.cells (bcells 64 fun _ => 0) 23)).rowOther (by omega))
  have qB1 : Blk ((W1.alloc (.cells (bcells 64 fun _ => 0) 23)).setRow (W1.heap.size) (bcells 64 (oneP))) (W1.heap.size) 64 23 (oneP) := ((Blk.new W1 64 23 (fun _ => 0)).row (oneP))
  have qhb : Below w.heap.size w ((W1.alloc (.cells (bcells 64 fun _ => 0) 23)).setRow (W1.heap.size) (bcells 64 (oneP))) := (below_row (hb.alloc (by have := hb.size; simp; omega) (.cells (bcells 64 fun _ => 0) 23)) (by omega) _)
  obtain ⟨W2, hwo⟩ : ∃ v : World, v = ((W1.alloc (.cells (bcells 64 fun _ => 0) 23)).setRow (W1.heap.size) (bcells 64 (oneP))) := ⟨_, rfl⟩
  rw [← hwo] at qB0 qB1 qhb ⊢
  clear hwo
  clear B0 hb
  have B0 := qB0
  have B1 := qB1
  have hb := qhb
  clear qB0 qB1 qhb
  obtain ⟨N1, hNN⟩ : ∃ n : Nat, n = W1.heap.size := ⟨_, rfl⟩
  rw [← hNN] at lt_B0 lhb B1 ⊢
  clear hNN
  have zN1_0 := lt_B0
  have zN1 := lhb
  clear lt_B0 lhb
  try simp only [Act.put, List.setIfInBounds_toArray, List.set_cons_zero, List.set_cons_succ]
  go_wp2_with fail
  go_loopw [9] (fun x wr => ∃ (j : Nat) (f : Nat → Nat), Hid (fcR p i true j = some f) ∧ x = .int .i64 (j : Int) ∧ j ≤ i ∧ Below w.heap.size w wr ∧ Blk wr (w.heap.size) 64 23 (fun _ => 0) ∧ Blk wr (N1) 64 23 f) (fun x _ => i - (intOf x).toNat)
  case atStart => exact ⟨0, _, HZ, rfl, Nat.zero_le _, hb, B0, B1⟩
  case round =>
    clear hb B0 B1
    obtain ⟨j, f, hf, rfl, hji, hb, B0, B1⟩ := hrel
    by_cases hj : j < i
    · have hjI : (j : Int) < (i : Int) := by omega
      have lf := HLT.out j f hf.out
      have lb := HBL.out j
      have HLF := Lib.hid lf
      have HLB := Lib.hid lb
      clear lf lb
      by_cases hgood : (bkS p i true j).2 = true ∧ deg f + deg (bkS p i true j).1 ≤ 63
      · have HN := Lib.hid (fcR_yes hf.out hgood.1 hgood.2)
        have HP := Lib.hid (fun W => HPY.out j hj hgood.1 W)
        have HB := Lib.hid (fun W => bounded_ok p f (bkS p i true j).1 W p2 p7 HLF.out (fun k _ => HLB.out k) hgood.2)
        clear hgood
        go_upto_region 5 with (fail)
        have lt_B0 : (w.heap.size) < wr.heap.size := B0.lt
        have lt_B1 : (N1) < wr.heap.size := B1.lt
        have hbase : w.heap.size ≤ wr.heap.size := hb.size
        refine wp_region_steps0 Try.mixed (by kernel_rfl) (by kernel_rfl) (fun v => by (simp only [frL, Act.put, List.setIfInBounds_toArray, List.set_cons_zero, List.set_cons_succ, Nat.reduceAdd, Nat.zero_add]; exact rfl))
          (fun L v W3 => Below w.heap.size w W3 ∧ wr.heap.size ≤ W3.heap.size ∧ Blk W3 (w.heap.size) 64 23 (fun _ => 0) ∧ (∃ g, Blk W3 (N1) 64 23 (g)) ∧ (L 7 = false → Blk W3 (N1) 64 23 (f)) ∧ (L 7 = true → Blk W3 (N1) 64 23 (prd p f (bkS p i true j).1)) ∧ (L 0 = true → v 0 = (.int .i64 (p : Int))) ∧ (L 1 = true → v 1 = (.agg (bcells 64 (f)))) ∧ (L 2 = true → v 2 = (.int .i64 (p : Int))) ∧ (L 3 = true → v 3 = (.int .i64 (j : Int))) ∧ (L 4 = true → v 4 = (.int .i64 ((j : Int) + 1))) ∧ (L 5 = true → v 5 = (.agg (bcells 64 ((bkS p i true j).1)))) ∧ (L 6 = true → v 6 = (.agg (bcells 64 (prd p f (bkS p i true j).1))))) ?_ ?_ ?_
        · intro v hv0
          exact ⟨hb.drew, Nat.le_refl _, B0.drew, ⟨_, B1.drew⟩, (fun _ => B1.drew), (fun h => by cases h), (fun h => by cases h), (fun h => by cases h), (fun h => by cases h), (fun h => by cases h), (fun h => by cases h), (fun h => by cases h), (fun h => by cases h)⟩
        · refine (.cons rfl ?_ (.cons rfl ?_ (.cons rfl ?_ (.cons rfl ?_ (.cons rfl ?_ (.cons rfl ?_ (.cons rfl ?_ (.cons rfl ?_ (.nil _)))))))))
          · intro L v W3 hd hn ⟨hB, hz, s0, x1, q1, n1, h0, h1, h2, h3, h4, h5, h6⟩ K hK
            go_wp2_with fail
            exact hK _ (.int .i64 (p : Int)) _ (by simp only [Act.put, List.setIfInBounds_toArray, List.set_cons_zero, List.set_cons_succ ]) ⟨hB, hz, s0, x1, q1, n1, (fun _ => rfl), h1, h2, h3, h4, h5, h6⟩
          · intro L v W3 hd hn ⟨hB, hz, s0, x1, q1, n1, h0, h1, h2, h3, h4, h5, h6⟩ K hK
            have s1 := q1 (by
              cases hL : L 7 with
              | false => rfl
              | true => exact absurd rfl (hn 7 _ rfl hL ⟨1, .phase⟩ (by simp) rfl))
            refine wp_load_any 23 _ rfl _ rfl 64 23 _ s1 _ Try.underlying23 rfl Try.size23 ?_
            exact hK _ _ _ rfl ⟨hB, hz, s0, x1, q1, n1, h0, (fun _ => rfl), h2, h3, h4, h5, h6⟩
          · intro L v W3 hd hn ⟨hB, hz, s0, x1, q1, n1, h0, h1, h2, h3, h4, h5, h6⟩ K hK
            go_wp2_with fail
            exact hK _ (.int .i64 (p : Int)) _ (by simp only [Act.put, List.setIfInBounds_toArray, List.set_cons_zero, List.set_cons_succ ]) ⟨hB, hz, s0, x1, q1, n1, h0, h1, (fun _ => rfl), h3, h4, h5, h6⟩
          · intro L v W3 hd hn ⟨hB, hz, s0, x1, q1, n1, h0, h1, h2, h3, h4, h5, h6⟩ K hK
            go_wp2_with fail
            exact hK _ (.int .i64 (j : Int)) _ (by simp only [Act.put, List.setIfInBounds_toArray, List.set_cons_zero, List.set_cons_succ ]) ⟨hB, hz, s0, x1, q1, n1, h0, h1, h2, (fun _ => rfl), h4, h5, h6⟩
          · intro L v W3 hd hn ⟨hB, hz, s0, x1, q1, n1, h0, h1, h2, h3, h4, h5, h6⟩ K hK
            have e3 := h3 (hd ⟨3, .data⟩ (by simp) rfl)
            go_wp2_with fail
            exact hK _ (.int .i64 ((j : Int) + 1)) _ (by simp only [Act.put, List.setIfInBounds_toArray, List.set_cons_zero, List.set_cons_succ, e3]) ⟨hB, hz, s0, x1, q1, n1, h0, h1, h2, h3, (fun _ => rfl), h5, h6⟩
          · intro L v W3 hd hn ⟨hB, hz, s0, x1, q1, n1, h0, h1, h2, h3, h4, h5, h6⟩ K hK
            have e2 := h2 (hd ⟨2, .data⟩ (by simp) rfl)
            have e4 := h4 (hd ⟨4, .data⟩ (by simp) rfl)
            go_wp2_with (go_at_call 131; refine (HP.out _).mono ?_; rintro e wy ⟨rfl, hy⟩)
            exact hK _ (.agg (bcells 64 ((bkS p i true j).1))) _ (by simp only [Act.put, List.setIfInBounds_toArray, List.set_cons_zero, List.set_cons_succ, e2, e4]) ⟨hB.trans (hy.mono hB.size), (Nat.le_trans hz hy.size), (s0).below hy (s0).lt, (let ⟨g, h⟩ := x1; ⟨g, (h).below hy (h).lt⟩), (fun h => (q1 h).below hy (q1 h).lt), (fun h => (n1 h).below hy (n1 h).lt), h0, h1, h2, h3, h4, (fun _ => rfl), h6⟩
          · intro L v W3 hd hn ⟨hB, hz, s0, x1, q1, n1, h0, h1, h2, h3, h4, h5, h6⟩ K hK
            have e0 := h0 (hd ⟨0, .data⟩ (by simp) rfl)
            have e1 := h1 (hd ⟨1, .data⟩ (by simp) rfl)
            have e5 := h5 (hd ⟨5, .data⟩ (by simp) rfl)
            go_wp2_with (go_at_call 177; refine (HB.out _).mono ?_; rintro e wy ⟨rfl, hy⟩)
            exact hK _ (.agg (bcells 64 (prd p f (bkS p i true j).1))) _ (by simp only [Act.put, List.setIfInBounds_toArray, List.set_cons_zero, List.set_cons_succ, e0, e1, e5]) ⟨hB.trans (hy.mono hB.size), (Nat.le_trans hz hy.size), (s0).below hy (s0).lt, (let ⟨g, h⟩ := x1; ⟨g, (h).below hy (h).lt⟩), (fun h => (q1 h).below hy (q1 h).lt), (fun h => (n1 h).below hy (n1 h).lt), h0, h1, h2, h3, h4, h5, (fun _ => rfl)⟩
          · intro L v W3 hd hn ⟨hB, hz, s0, x1, q1, n1, h0, h1, h2, h3, h4, h5, h6⟩ K hK
            have e6 := h6 (hd ⟨6, .data⟩ (by simp) rfl)
            obtain ⟨gz, hk⟩ := x1
            refine wp_store_blk 23 _ _ rfl _ 64 (prd p f (bkS p i true j).1) rfl e6 23 gz hk Try.size23 ?_
            exact hK _ undef _ rfl ⟨below_row hB (by omega) _, (by simpa [World.setRow] using hz), (s0).rowOther (by omega), ⟨_, hk.row _⟩, (fun h => absurd h (by simp [setL])), (fun _ => hk.row _), h0, h1, h2, h3, h4, h5, h6⟩
        · intro L v W3 hL ⟨hB, hz, s0, x1, q1, n1, h0, h1, h2, h3, h4, h5, h6⟩
          have r1 := n1 (hL 7 (by decide))
          have e0 := h0 (hL 0 (by decide))
          have e1 := h1 (hL 1 (by decide))
          have e2 := h2 (hL 2 (by decide))
          have e3 := h3 (hL 3 (by decide))
          have e4 := h4 (hL 4 (by decide))
          have e5 := h5 (hL 5 (by decide))
          have e6 := h6 (hL 6 (by decide))
          clear hL x1 q1 n1 h0 h1 h2 h3 h4 h5 h6
          simp only [Exit.then, e0, e1, e2, e3, e4, e5, e6]
          clear e0 e1 e2 e3 e4 e5 e6
          clear B0
          have B0 := s0
          clear s0
          clear B1
          have B1 := r1
          clear r1
          clear hb
          have hb := hB
          clear hB
          clear hbase hz lt_B0 lt_B1
          go_wp2_with fail
          go_roundw
          case rel => exact ⟨j + 1, _, HN, by go_num, by omega, hb, B0, B1⟩
          case measure => simp [intOf] <;> omega
      · have HN := Lib.hid (fcR_no hf.out hgood)
        exfalso
        have h1 := fcR_none HN.out (i - (j + 1))
        rw [show j + 1 + (i - (j + 1)) = i by omega, HF.out] at h1
        cases h1
    · have hjI : ¬ (j : Int) < (i : Int) := by omega
      obtain rfl : j = i := by omega
      have hfF : f = F := by have h1 := hf.out; rw [HF.out] at h1; injection h1 with h1; exact h1.symm
      rw [hfF] at B1
      clear hfF
      go_upto_region 7 with (fail)
      have lt_B0 := B0.lt
      have lt_B1 := B1.lt
      go_wp2_with (first | rw [← zero64] | (refine wpList_load_any rfl 23 (.tmp 5) rfl _ rfl 64 23 _ (B1) _ Try.underlying23 rfl Try.size23 ?_) | (refine wpList_store_blk rfl 23 (.tmp 4) (.tmp 20) rfl _ 64 (F) rfl rfl 23 _ (B0) Try.size23 ?_; try simp only [Act.put]))
      have qB0 : Blk (wr.setRow (w.heap.size) (bcells 64 (F))) (w.heap.size) 64 23 (F) := (B0.row (F))
      have qB1 : Blk (wr.setRow (w.heap.size) (bcells 64 (F))) (N1) 64 23 (F) := (B1.rowOther (by omega))
      have qhb : Below w.heap.size w (wr.setRow (w.heap.size) (bcells 64 (F))) := (below_row hb (by omega) _)
      obtain ⟨W3, hwo⟩ : ∃ v : World, v = (wr.setRow (w.heap.size) (bcells 64 (F))) := ⟨_, rfl⟩
      rw [← hwo] at qB0 qB1 qhb ⊢
      clear hwo
      clear B0 B1 hb
      have B0 := qB0
      have B1 := qB1
      have hb := qhb
      clear qB0 qB1 qhb
      try simp only [Act.put, List.setIfInBounds_toArray, List.set_cons_zero, List.set_cons_succ]
      refine bodyPost_ret (results_blk rfl _ _ _ 64 23 5 _ rfl B0 Try.underlying23 Try.size23) rfl ⟨rfl, hb⟩
set_option maxRecDepth 100000 in
set_option maxHeartbeats 1600000 in
theorem secondFact_no (p i : Nat) (w : World) (p2 : 2 ≤ p) (p7 : p ≤ 7) (hi : smI p i) (hF : fcR p i true i = none) :
    Calls Try.prog 136 #[.int .i64 (p : Int), .int .i64 (i : Int)] w fun e w' => e = .panicked [{ v := .iface 138 (.int .i64 3), recovered := false }] ∧ Below w.heap.size w w' := by
  have hi20 := hi.1
  have HF := Lib.hid hF
  have HZ := Lib.hid (fcR_z p i true)
  have HLT := Lib.hid (fun j f => fcR_lt (p := p) (i := i) (s := true) p2 j f)
  have HBL := Lib.hid (fun j k => bkS_lt (p := p) (i := i) (s := true) (j := j) p2 k)
  have HPY := Lib.hid (show ∀ j, j < i → (bkS p i true j).2 = true → ∀ W, Calls Try.prog 131 #[.int .i64 (p : Int), .int .i64 ((j : Int) + 1), .int .i64 0] W fun e w' => e = .returned (.agg (bcells 64 (bkS p i true j).1)) ∧ Below W.heap.size W w' from fun j hj h W => by
    have e : bkS p i true j = bkV p (j + 1) 0 := by unfold bkS; rfl
    rw [e] at h ⊢
    exact apart_yes p (j + 1) 0 W p2 p7 (smI_le p2 hi (by omega)) (smI_le p2 hi (by omega)) h)
  have HPN := Lib.hid (show ∀ j, j < i → (bkS p i true j).2 = false → ∀ W, Calls Try.prog 131 #[.int .i64 (p : Int), .int .i64 ((j : Int) + 1), .int .i64 0] W fun e w' => e = .panicked [{ v := .iface 138 (.int .i64 3), recovered := false }] ∧ Below W.heap.size W w' from fun j hj h W => by
    have e : bkS p i true j = bkV p (j + 1) 0 := by unfold bkS; rfl
    rw [e] at h
    exact apart_not p (j + 1) 0 W p2 p7 (smI_le p2 hi (by omega)) (smI_le p2 hi (by omega)) h)
  clear hF
  go_enter Try.func136, Try.ntmps136
  go_upto_region 1 with (fail)
  rw [← zero64]
  obtain ⟨W1, hwo⟩ : ∃ v : World, v = (w.alloc (.cells (bcells 64 fun _ => 0) 23)) := ⟨_, rfl⟩
  have B0 : Blk W1 (w.heap.size) 64 23 (fun _ => 0) := by subst hwo; have := (Blk.new w 64 23 (fun _ => 0)); simpa using this
  have hb : Below w.heap.size w W1 := by subst hwo; exact ((Below.refl _ _).alloc (Nat.le_refl _) _)
  rw [← hwo]
  clear hwo
  have lt_B0 := B0.lt
  go_upto_region 2 with (first | rw [← zero64] | (refine wpList_build_of rfl 23 _ rfl (bcells 64 oneP) (by rw [Array.toList_map]; exact built_one) ?_) | (refine wpList_store_blk rfl 23 (.tmp 5) (.tmp 7) rfl _ 64 (oneP) rfl rfl 23 _ ((Blk.new W1 64 23 (fun _ => 0))) Try.size23 ?_; try simp only [Act.put]))
  have lt_B0 := B0.lt
  have lhb := hb.size
  have qB0 : Blk ((W1.alloc (.cells (bcells 64 fun _ => 0) 23)).setRow (W1.heap.size) (bcells 64 (oneP))) (w.heap.size) 64 23 (fun _ => 0) := ((B0.alloc (.cells (bcells 64 fun _ => 0) 23)).rowOther (by omega))
  have qB1 : Blk ((W1.alloc (.cells (bcells 64 fun _ => 0) 23)).setRow (W1.heap.size) (bcells 64 (oneP))) (W1.heap.size) 64 23 (oneP) := ((Blk.new W1 64 23 (fun _ => 0)).row (oneP))
  have qhb : Below w.heap.size w ((W1.alloc (.cells (bcells 64 fun _ => 0) 23)).setRow (W1.heap.size) (bcells 64 (oneP))) := (below_row (hb.alloc (by have := hb.size; simp; omega) (.cells (bcells 64 fun _ => 0) 23)) (by omega) _)
  obtain ⟨W2, hwo⟩ : ∃ v : World, v = ((W1.alloc (.cells (bcells 64 fun _ => 0) 23)).setRow (W1.heap.size) (bcells 64 (oneP))) := ⟨_, rfl⟩
  rw [← hwo] at qB0 qB1 qhb ⊢
  clear hwo
  clear B0 hb
  have B0 := qB0
  have B1 := qB1
  have hb := qhb
  clear qB0 qB1 qhb
  obtain ⟨N1, hNN⟩ : ∃ n : Nat, n = W1.heap.size := ⟨_, rfl⟩
  rw [← hNN] at lt_B0 lhb B1 ⊢
  clear hNN
  have zN1_0 := lt_B0
  have zN1 := lhb
  clear lt_B0 lhb
  try simp only [Act.put, List.setIfInBounds_toArray, List.set_cons_zero, List.set_cons_succ]
  go_wp2_with fail
  go_loopw [9] (fun x wr => ∃ (j : Nat) (f : Nat → Nat), Hid (fcR p i true j = some f) ∧ x = .int .i64 (j : Int) ∧ j ≤ i ∧ Below w.heap.size w wr ∧ Blk wr (w.heap.size) 64 23 (fun _ => 0) ∧ Blk wr (N1) 64 23 f) (fun x _ => i - (intOf x).toNat)
  case atStart => exact ⟨0, _, HZ, rfl, Nat.zero_le _, hb, B0, B1⟩
  case round =>
    clear hb B0 B1
    obtain ⟨j, f, hf, rfl, hji, hb, B0, B1⟩ := hrel
    by_cases hj : j < i
    · have hjI : (j : Int) < (i : Int) := by omega
      have lf := HLT.out j f hf.out
      have lb := HBL.out j
      have HLF := Lib.hid lf
      have HLB := Lib.hid lb
      clear lf lb
      by_cases hgood : (bkS p i true j).2 = true ∧ deg f + deg (bkS p i true j).1 ≤ 63
      · have HN := Lib.hid (fcR_yes hf.out hgood.1 hgood.2)
        have HP := Lib.hid (fun W => HPY.out j hj hgood.1 W)
        have HB := Lib.hid (fun W => bounded_ok p f (bkS p i true j).1 W p2 p7 HLF.out (fun k _ => HLB.out k) hgood.2)
        clear hgood
        go_upto_region 5 with (fail)
        have lt_B0 : (w.heap.size) < wr.heap.size := B0.lt
        have lt_B1 : (N1) < wr.heap.size := B1.lt
        have hbase : w.heap.size ≤ wr.heap.size := hb.size
        refine wp_region_steps0 Try.mixed (by kernel_rfl) (by kernel_rfl) (fun v => by (simp only [frL, Act.put, List.setIfInBounds_toArray, List.set_cons_zero, List.set_cons_succ, Nat.reduceAdd, Nat.zero_add]; exact rfl))
          (fun L v W3 => Below w.heap.size w W3 ∧ wr.heap.size ≤ W3.heap.size ∧ Blk W3 (w.heap.size) 64 23 (fun _ => 0) ∧ (∃ g, Blk W3 (N1) 64 23 (g)) ∧ (L 7 = false → Blk W3 (N1) 64 23 (f)) ∧ (L 7 = true → Blk W3 (N1) 64 23 (prd p f (bkS p i true j).1)) ∧ (L 0 = true → v 0 = (.int .i64 (p : Int))) ∧ (L 1 = true → v 1 = (.agg (bcells 64 (f)))) ∧ (L 2 = true → v 2 = (.int .i64 (p : Int))) ∧ (L 3 = true → v 3 = (.int .i64 (j : Int))) ∧ (L 4 = true → v 4 = (.int .i64 ((j : Int) + 1))) ∧ (L 5 = true → v 5 = (.agg (bcells 64 ((bkS p i true j).1)))) ∧ (L 6 = true → v 6 = (.agg (bcells 64 (prd p f (bkS p i true j).1))))) ?_ ?_ ?_
        · intro v hv0
          exact ⟨hb.drew, Nat.le_refl _, B0.drew, ⟨_, B1.drew⟩, (fun _ => B1.drew), (fun h => by cases h), (fun h => by cases h), (fun h => by cases h), (fun h => by cases h), (fun h => by cases h), (fun h => by cases h), (fun h => by cases h), (fun h => by cases h)⟩
        · refine (.cons rfl ?_ (.cons rfl ?_ (.cons rfl ?_ (.cons rfl ?_ (.cons rfl ?_ (.cons rfl ?_ (.cons rfl ?_ (.cons rfl ?_ (.nil _)))))))))
          · intro L v W3 hd hn ⟨hB, hz, s0, x1, q1, n1, h0, h1, h2, h3, h4, h5, h6⟩ K hK
            go_wp2_with fail
            exact hK _ (.int .i64 (p : Int)) _ (by simp only [Act.put, List.setIfInBounds_toArray, List.set_cons_zero, List.set_cons_succ ]) ⟨hB, hz, s0, x1, q1, n1, (fun _ => rfl), h1, h2, h3, h4, h5, h6⟩
          · intro L v W3 hd hn ⟨hB, hz, s0, x1, q1, n1, h0, h1, h2, h3, h4, h5, h6⟩ K hK
            have s1 := q1 (by
              cases hL : L 7 with
              | false => rfl
              | true => exact absurd rfl (hn 7 _ rfl hL ⟨1, .phase⟩ (by simp) rfl))
            refine wp_load_any 23 _ rfl _ rfl 64 23 _ s1 _ Try.underlying23 rfl Try.size23 ?_
            exact hK _ _ _ rfl ⟨hB, hz, s0, x1, q1, n1, h0, (fun _ => rfl), h2, h3, h4, h5, h6⟩
          · intro L v W3 hd hn ⟨hB, hz, s0, x1, q1, n1, h0, h1, h2, h3, h4, h5, h6⟩ K hK
            go_wp2_with fail
            exact hK _ (.int .i64 (p : Int)) _ (by simp only [Act.put, List.setIfInBounds_toArray, List.set_cons_zero, List.set_cons_succ ]) ⟨hB, hz, s0, x1, q1, n1, h0, h1, (fun _ => rfl), h3, h4, h5, h6⟩
          · intro L v W3 hd hn ⟨hB, hz, s0, x1, q1, n1, h0, h1, h2, h3, h4, h5, h6⟩ K hK
            go_wp2_with fail
            exact hK _ (.int .i64 (j : Int)) _ (by simp only [Act.put, List.setIfInBounds_toArray, List.set_cons_zero, List.set_cons_succ ]) ⟨hB, hz, s0, x1, q1, n1, h0, h1, h2, (fun _ => rfl), h4, h5, h6⟩
          · intro L v W3 hd hn ⟨hB, hz, s0, x1, q1, n1, h0, h1, h2, h3, h4, h5, h6⟩ K hK
            have e3 := h3 (hd ⟨3, .data⟩ (by simp) rfl)
            go_wp2_with fail
            exact hK _ (.int .i64 ((j : Int) + 1)) _ (by simp only [Act.put, List.setIfInBounds_toArray, List.set_cons_zero, List.set_cons_succ, e3]) ⟨hB, hz, s0, x1, q1, n1, h0, h1, h2, h3, (fun _ => rfl), h5, h6⟩
          · intro L v W3 hd hn ⟨hB, hz, s0, x1, q1, n1, h0, h1, h2, h3, h4, h5, h6⟩ K hK
            have e2 := h2 (hd ⟨2, .data⟩ (by simp) rfl)
            have e4 := h4 (hd ⟨4, .data⟩ (by simp) rfl)
            go_wp2_with (go_at_call 131; refine (HP.out _).mono ?_; rintro e wy ⟨rfl, hy⟩)
            exact hK _ (.agg (bcells 64 ((bkS p i true j).1))) _ (by simp only [Act.put, List.setIfInBounds_toArray, List.set_cons_zero, List.set_cons_succ, e2, e4]) ⟨hB.trans (hy.mono hB.size), (Nat.le_trans hz hy.size), (s0).below hy (s0).lt, (let ⟨g, h⟩ := x1; ⟨g, (h).below hy (h).lt⟩), (fun h => (q1 h).below hy (q1 h).lt), (fun h => (n1 h).below hy (n1 h).lt), h0, h1, h2, h3, h4, (fun _ => rfl), h6⟩
          · intro L v W3 hd hn ⟨hB, hz, s0, x1, q1, n1, h0, h1, h2, h3, h4, h5, h6⟩ K hK
            have e0 := h0 (hd ⟨0, .data⟩ (by simp) rfl)
            have e1 := h1 (hd ⟨1, .data⟩ (by simp) rfl)
            have e5 := h5 (hd ⟨5, .data⟩ (by simp) rfl)
            go_wp2_with (go_at_call 177; refine (HB.out _).mono ?_; rintro e wy ⟨rfl, hy⟩)
            exact hK _ (.agg (bcells 64 (prd p f (bkS p i true j).1))) _ (by simp only [Act.put, List.setIfInBounds_toArray, List.set_cons_zero, List.set_cons_succ, e0, e1, e5]) ⟨hB.trans (hy.mono hB.size), (Nat.le_trans hz hy.size), (s0).below hy (s0).lt, (let ⟨g, h⟩ := x1; ⟨g, (h).below hy (h).lt⟩), (fun h => (q1 h).below hy (q1 h).lt), (fun h => (n1 h).below hy (n1 h).lt), h0, h1, h2, h3, h4, h5, (fun _ => rfl)⟩
          · intro L v W3 hd hn ⟨hB, hz, s0, x1, q1, n1, h0, h1, h2, h3, h4, h5, h6⟩ K hK
            have e6 := h6 (hd ⟨6, .data⟩ (by simp) rfl)
            obtain ⟨gz, hk⟩ := x1
            refine wp_store_blk 23 _ _ rfl _ 64 (prd p f (bkS p i true j).1) rfl e6 23 gz hk Try.size23 ?_
            exact hK _ undef _ rfl ⟨below_row hB (by omega) _, (by simpa [World.setRow] using hz), (s0).rowOther (by omega), ⟨_, hk.row _⟩, (fun h => absurd h (by simp [setL])), (fun _ => hk.row _), h0, h1, h2, h3, h4, h5, h6⟩
        · intro L v W3 hL ⟨hB, hz, s0, x1, q1, n1, h0, h1, h2, h3, h4, h5, h6⟩
          have r1 := n1 (hL 7 (by decide))
          have e0 := h0 (hL 0 (by decide))
          have e1 := h1 (hL 1 (by decide))
          have e2 := h2 (hL 2 (by decide))
          have e3 := h3 (hL 3 (by decide))
          have e4 := h4 (hL 4 (by decide))
          have e5 := h5 (hL 5 (by decide))
          have e6 := h6 (hL 6 (by decide))
          clear hL x1 q1 n1 h0 h1 h2 h3 h4 h5 h6
          simp only [Exit.then, e0, e1, e2, e3, e4, e5, e6]
          clear e0 e1 e2 e3 e4 e5 e6
          clear B0
          have B0 := s0
          clear s0
          clear B1
          have B1 := r1
          clear r1
          clear hb
          have hb := hB
          clear hB
          clear hbase hz lt_B0 lt_B1
          go_wp2_with fail
          go_roundw
          case rel => exact ⟨j + 1, _, HN, by go_num, by omega, hb, B0, B1⟩
          case measure => simp [intOf] <;> omega
      · have HN := Lib.hid (fcR_no hf.out hgood)
        cases hbb : (bkS p i true j).2 with
        | false =>
          have HP := Lib.hid (fun W => HPN.out j hj hbb W)
          clear hgood hbb
          go_upto_region 5 with (fail)
          have lt_B0 : (w.heap.size) < wr.heap.size := B0.lt
          have lt_B1 : (N1) < wr.heap.size := B1.lt
          have hbase : w.heap.size ≤ wr.heap.size := hb.size
          refine wp_region_steps0 Try.mixed (by kernel_rfl) (by kernel_rfl) (fun v => by (simp only [frL, Act.put, List.setIfInBounds_toArray, List.set_cons_zero, List.set_cons_succ, Nat.reduceAdd, Nat.zero_add]; exact rfl))
            (fun L v W3 => Below w.heap.size w W3 ∧ wr.heap.size ≤ W3.heap.size ∧ Blk W3 (w.heap.size) 64 23 (fun _ => 0) ∧ (∃ g, Blk W3 (N1) 64 23 (g)) ∧ (L 7 = false → Blk W3 (N1) 64 23 (f)) ∧ (L 7 = true → Blk W3 (N1) 64 23 (prd p f (bkS p i true j).1)) ∧ (L 0 = true → v 0 = (.int .i64 (p : Int))) ∧ (L 1 = true → v 1 = (.agg (bcells 64 (f)))) ∧ (L 2 = true → v 2 = (.int .i64 (p : Int))) ∧ (L 3 = true → v 3 = (.int .i64 (j : Int))) ∧ (L 4 = true → v 4 = (.int .i64 ((j : Int) + 1))) ∧ (L 5 = true → False) ∧ (L 6 = true → v 6 = (.agg (bcells 64 (prd p f (bkS p i true j).1))))) ?_ ?_ ?_
          · intro v hv0
            exact ⟨hb.drew, Nat.le_refl _, B0.drew, ⟨_, B1.drew⟩, (fun _ => B1.drew), (fun h => by cases h), (fun h => by cases h), (fun h => by cases h), (fun h => by cases h), (fun h => by cases h), (fun h => by cases h), (fun h => by cases h), (fun h => by cases h)⟩
          · refine (.cons rfl ?_ (.cons rfl ?_ (.cons rfl ?_ (.cons rfl ?_ (.cons rfl ?_ (.cons rfl ?_ (.cons rfl ?_ (.cons rfl ?_ (.nil _)))))))))
            · intro L v W3 hd hn ⟨hB, hz, s0, x1, q1, n1, h0, h1, h2, h3, h4, h5, h6⟩ K hK
              go_wp2_with fail
              exact hK _ (.int .i64 (p : Int)) _ (by simp only [Act.put, List.setIfInBounds_toArray, List.set_cons_zero, List.set_cons_succ ]) ⟨hB, hz, s0, x1, q1, n1, (fun _ => rfl), h1, h2, h3, h4, h5, h6⟩
            · intro L v W3 hd hn ⟨hB, hz, s0, x1, q1, n1, h0, h1, h2, h3, h4, h5, h6⟩ K hK
              have s1 := q1 (by
                cases hL : L 7 with
                | false => rfl
                | true => exact absurd rfl (hn 7 _ rfl hL ⟨1, .phase⟩ (by simp) rfl))
              refine wp_load_any 23 _ rfl _ rfl 64 23 _ s1 _ Try.underlying23 rfl Try.size23 ?_
              exact hK _ _ _ rfl ⟨hB, hz, s0, x1, q1, n1, h0, (fun _ => rfl), h2, h3, h4, h5, h6⟩
            · intro L v W3 hd hn ⟨hB, hz, s0, x1, q1, n1, h0, h1, h2, h3, h4, h5, h6⟩ K hK
              go_wp2_with fail
              exact hK _ (.int .i64 (p : Int)) _ (by simp only [Act.put, List.setIfInBounds_toArray, List.set_cons_zero, List.set_cons_succ ]) ⟨hB, hz, s0, x1, q1, n1, h0, h1, (fun _ => rfl), h3, h4, h5, h6⟩
            · intro L v W3 hd hn ⟨hB, hz, s0, x1, q1, n1, h0, h1, h2, h3, h4, h5, h6⟩ K hK
              go_wp2_with fail
              exact hK _ (.int .i64 (j : Int)) _ (by simp only [Act.put, List.setIfInBounds_toArray, List.set_cons_zero, List.set_cons_succ ]) ⟨hB, hz, s0, x1, q1, n1, h0, h1, h2, (fun _ => rfl), h4, h5, h6⟩
            · intro L v W3 hd hn ⟨hB, hz, s0, x1, q1, n1, h0, h1, h2, h3, h4, h5, h6⟩ K hK
              have e3 := h3 (hd ⟨3, .data⟩ (by simp) rfl)
              go_wp2_with fail
              exact hK _ (.int .i64 ((j : Int) + 1)) _ (by simp only [Act.put, List.setIfInBounds_toArray, List.set_cons_zero, List.set_cons_succ, e3]) ⟨hB, hz, s0, x1, q1, n1, h0, h1, h2, h3, (fun _ => rfl), h5, h6⟩
            · intro L v W3 hd hn ⟨hB, hz, s0, x1, q1, n1, h0, h1, h2, h3, h4, h5, h6⟩ K hK
              have e2 := h2 (hd ⟨2, .data⟩ (by simp) rfl)
              have e4 := h4 (hd ⟨4, .data⟩ (by simp) rfl)
              go_wp2_with (go_at_call 131; refine (HP.out _).mono ?_; rintro e wy ⟨rfl, hy⟩)
              first | exact ⟨rfl, rfl, hB.trans (hy.mono hB.size)⟩ | (go_wp2_with fail; exact ⟨rfl, rfl, hB.trans (hy.mono hB.size)⟩)
            · intro L v W3 hd hn ⟨hB, hz, s0, x1, q1, n1, h0, h1, h2, h3, h4, h5, h6⟩ K hK
              exact (h5 (hd ⟨5, .data⟩ (by simp) rfl)).elim
            · intro L v W3 hd hn ⟨hB, hz, s0, x1, q1, n1, h0, h1, h2, h3, h4, h5, h6⟩ K hK
              exact (h5 (hd ⟨5, .phase⟩ (by simp) rfl)).elim
          · intro L v W3 hL ⟨hB, hz, s0, x1, q1, n1, h0, h1, h2, h3, h4, h5, h6⟩
            exact (h5 (hL 5 (by decide))).elim
        | true =>
          have hgt : 63 < deg f + deg (bkS p i true j).1 := by
            apply Classical.byContradiction
            intro h
            exact hgood ⟨hbb, by omega⟩
          have HP := Lib.hid (fun W => HPY.out j hj hbb W)
          have HB := Lib.hid (fun W => bounded_no p f (bkS p i true j).1 W p2 p7 HLF.out (fun k _ => HLB.out k) hgt)
          clear hgood hbb hgt
          go_upto_region 5 with (fail)
          have lt_B0 : (w.heap.size) < wr.heap.size := B0.lt
          have lt_B1 : (N1) < wr.heap.size := B1.lt
          have hbase : w.heap.size ≤ wr.heap.size := hb.size
          refine wp_region_steps0 Try.mixed (by kernel_rfl) (by kernel_rfl) (fun v => by (simp only [frL, Act.put, List.setIfInBounds_toArray, List.set_cons_zero, List.set_cons_succ, Nat.reduceAdd, Nat.zero_add]; exact rfl))
            (fun L v W3 => Below w.heap.size w W3 ∧ wr.heap.size ≤ W3.heap.size ∧ Blk W3 (w.heap.size) 64 23 (fun _ => 0) ∧ (∃ g, Blk W3 (N1) 64 23 (g)) ∧ (L 7 = false → Blk W3 (N1) 64 23 (f)) ∧ (L 7 = true → Blk W3 (N1) 64 23 (fun _ => 0)) ∧ (L 0 = true → v 0 = (.int .i64 (p : Int))) ∧ (L 1 = true → v 1 = (.agg (bcells 64 (f)))) ∧ (L 2 = true → v 2 = (.int .i64 (p : Int))) ∧ (L 3 = true → v 3 = (.int .i64 (j : Int))) ∧ (L 4 = true → v 4 = (.int .i64 ((j : Int) + 1))) ∧ (L 5 = true → v 5 = (.agg (bcells 64 ((bkS p i true j).1)))) ∧ (L 6 = true → False)) ?_ ?_ ?_
          · intro v hv0
            exact ⟨hb.drew, Nat.le_refl _, B0.drew, ⟨_, B1.drew⟩, (fun _ => B1.drew), (fun h => by cases h), (fun h => by cases h), (fun h => by cases h), (fun h => by cases h), (fun h => by cases h), (fun h => by cases h), (fun h => by cases h), (fun h => by cases h)⟩
          · refine (.cons rfl ?_ (.cons rfl ?_ (.cons rfl ?_ (.cons rfl ?_ (.cons rfl ?_ (.cons rfl ?_ (.cons rfl ?_ (.cons rfl ?_ (.nil _)))))))))
            · intro L v W3 hd hn ⟨hB, hz, s0, x1, q1, n1, h0, h1, h2, h3, h4, h5, h6⟩ K hK
              go_wp2_with fail
              exact hK _ (.int .i64 (p : Int)) _ (by simp only [Act.put, List.setIfInBounds_toArray, List.set_cons_zero, List.set_cons_succ ]) ⟨hB, hz, s0, x1, q1, n1, (fun _ => rfl), h1, h2, h3, h4, h5, h6⟩
            · intro L v W3 hd hn ⟨hB, hz, s0, x1, q1, n1, h0, h1, h2, h3, h4, h5, h6⟩ K hK
              have s1 := q1 (by
                cases hL : L 7 with
                | false => rfl
                | true => exact absurd rfl (hn 7 _ rfl hL ⟨1, .phase⟩ (by simp) rfl))
              refine wp_load_any 23 _ rfl _ rfl 64 23 _ s1 _ Try.underlying23 rfl Try.size23 ?_
              exact hK _ _ _ rfl ⟨hB, hz, s0, x1, q1, n1, h0, (fun _ => rfl), h2, h3, h4, h5, h6⟩
            · intro L v W3 hd hn ⟨hB, hz, s0, x1, q1, n1, h0, h1, h2, h3, h4, h5, h6⟩ K hK
              go_wp2_with fail
              exact hK _ (.int .i64 (p : Int)) _ (by simp only [Act.put, List.setIfInBounds_toArray, List.set_cons_zero, List.set_cons_succ ]) ⟨hB, hz, s0, x1, q1, n1, h0, h1, (fun _ => rfl), h3, h4, h5, h6⟩
            · intro L v W3 hd hn ⟨hB, hz, s0, x1, q1, n1, h0, h1, h2, h3, h4, h5, h6⟩ K hK
              go_wp2_with fail
              exact hK _ (.int .i64 (j : Int)) _ (by simp only [Act.put, List.setIfInBounds_toArray, List.set_cons_zero, List.set_cons_succ ]) ⟨hB, hz, s0, x1, q1, n1, h0, h1, h2, (fun _ => rfl), h4, h5, h6⟩
            · intro L v W3 hd hn ⟨hB, hz, s0, x1, q1, n1, h0, h1, h2, h3, h4, h5, h6⟩ K hK
              have e3 := h3 (hd ⟨3, .data⟩ (by simp) rfl)
              go_wp2_with fail
              exact hK _ (.int .i64 ((j : Int) + 1)) _ (by simp only [Act.put, List.setIfInBounds_toArray, List.set_cons_zero, List.set_cons_succ, e3]) ⟨hB, hz, s0, x1, q1, n1, h0, h1, h2, h3, (fun _ => rfl), h5, h6⟩
            · intro L v W3 hd hn ⟨hB, hz, s0, x1, q1, n1, h0, h1, h2, h3, h4, h5, h6⟩ K hK
              have e2 := h2 (hd ⟨2, .data⟩ (by simp) rfl)
              have e4 := h4 (hd ⟨4, .data⟩ (by simp) rfl)
              go_wp2_with (go_at_call 131; refine (HP.out _).mono ?_; rintro e wy ⟨rfl, hy⟩)
              exact hK _ (.agg (bcells 64 ((bkS p i true j).1))) _ (by simp only [Act.put, List.setIfInBounds_toArray, List.set_cons_zero, List.set_cons_succ, e2, e4]) ⟨hB.trans (hy.mono hB.size), (Nat.le_trans hz hy.size), (s0).below hy (s0).lt, (let ⟨g, h⟩ := x1; ⟨g, (h).below hy (h).lt⟩), (fun h => (q1 h).below hy (q1 h).lt), (fun h => (n1 h).below hy (n1 h).lt), h0, h1, h2, h3, h4, (fun _ => rfl), h6⟩
            · intro L v W3 hd hn ⟨hB, hz, s0, x1, q1, n1, h0, h1, h2, h3, h4, h5, h6⟩ K hK
              have e0 := h0 (hd ⟨0, .data⟩ (by simp) rfl)
              have e1 := h1 (hd ⟨1, .data⟩ (by simp) rfl)
              have e5 := h5 (hd ⟨5, .data⟩ (by simp) rfl)
              go_wp2_with (go_at_call 177; refine (HB.out _).mono ?_; rintro e wy ⟨rfl, hy⟩)
              first | exact ⟨rfl, rfl, hB.trans (hy.mono hB.size)⟩ | (go_wp2_with fail; exact ⟨rfl, rfl, hB.trans (hy.mono hB.size)⟩)
            · intro L v W3 hd hn ⟨hB, hz, s0, x1, q1, n1, h0, h1, h2, h3, h4, h5, h6⟩ K hK
              exact (h6 (hd ⟨6, .data⟩ (by simp) rfl)).elim
          · intro L v W3 hL ⟨hB, hz, s0, x1, q1, n1, h0, h1, h2, h3, h4, h5, h6⟩
            exact (h6 (hL 6 (by decide))).elim
    · have hjI : ¬ (j : Int) < (i : Int) := by omega
      obtain rfl : j = i := by omega
      exfalso
      have h1 := hf.out
      rw [HF.out] at h1
      cases h1
end Go.Proofs.Ytbjpkmbhbpcbgaa
end
