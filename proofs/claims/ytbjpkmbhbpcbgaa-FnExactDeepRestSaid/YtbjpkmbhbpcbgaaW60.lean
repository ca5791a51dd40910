/-
  Walks: what T makes of a residue, and what a polynomial makes of it (the model).
-/
import Derived.Test.YtbjpkmbhbpcbgaaQc
namespace Go.Proofs.Ytbjpkmbhbpcbgaa
open Go.RowKit
set_option linter.unusedVariables false
set_option linter.unusedSimpArgs false
attribute [local irreducible] deg invN dS qS stp stpr quoP resP oneP upP upF hmR mmP shA addK pgR mmC pmI pmP TP stP acN acS
set_option maxRecDepth 100000 in
set_option maxHeartbeats 1600000 in
theorem l04Step_any (p : Nat) (f m : Nat → Nat) (w : World) (hpr : p = 2 ∨ p = 3 ∨ p = 5 ∨ p = 7) (lf : ∀ k, k < 64 → f k < p) (lm : ∀ k, k < 64 → m k < p) (h0 : 0 ≤ deg m) :
    Calls Try.prog 168 #[.int .i64 (p : Int), .agg (bcells 64 f), .agg (bcells 64 m)] w fun e w' => e = .returned (.agg (bcells 64 (stP p m f))) ∧ Below w.heap.size w w' := by
  have p0 : 0 < p := by omega
  have p2 : 2 ≤ p := by omega
  have p7 : p ≤ 7 := by omega
  have lT : ∀ k, k < 64 → TP k < p := fun k _ => TP_lt p2 k
  have HMO := Lib.hid (fun W => l01Mod_any p TP m W hpr lT lm h0)
  have HMM := Lib.hid (fun W => l01MulMod_any p (resP p TP m) f m W hpr (resP_lt p0 lT) lf lm h0)
  have HPM := Lib.hid (fun W => l01PowMod_any p f p m W hpr lf lm h0 (by omega))
  have HAD := Lib.hid (fun W => l01Add_any p (mmP p (resP p TP m) f m) (pmP p f p m) 1 W p2 p7 (by omega) (by omega) (fun k hk => mmP_lt p0 k (by omega)) (pmP_spec hpr lf lm h0 (by omega)).1)
  have HV := Lib.hid (show addK p (mmP p (resP p TP m) f m) (pmP p f p m) 1 = stP p m f from by unfold stP; rfl)
  go_enter Try.func168, Try.ntmps168
  go_upto_region 1 with (fail)
  rw [← zero64]
  obtain ⟨W1, hwo⟩ : ∃ v : World, v = (((w.alloc (.cells (bcells 64 (f)) 23)).alloc (.cells (bcells 64 (m)) 23)).alloc (.cells (bcells 64 fun _ => 0) 23)) := ⟨_, rfl⟩
  have B0 : Blk W1 (w.heap.size) 64 23 (f) := by subst hwo; have := (((Blk.new w 64 23 (f)).alloc (.cells (bcells 64 (m)) 23)).alloc (.cells (bcells 64 fun _ => 0) 23)); simpa using this
  have B1 : Blk W1 (w.heap.size + 1) 64 23 (m) := by subst hwo; have := ((Blk.new (w.alloc (.cells (bcells 64 (f)) 23)) 64 23 (m)).alloc (.cells (bcells 64 fun _ => 0) 23)); simpa using this
  have B2 : Blk W1 (w.heap.size + 1 + 1) 64 23 (fun _ => 0) := by subst hwo; have := (Blk.new ((w.alloc (.cells (bcells 64 (f)) 23)).alloc (.cells (bcells 64 (m)) 23)) 64 23 (fun _ => 0)); simpa using this
  have hb : Below w.heap.size w W1 := by subst hwo; exact ((((Below.refl _ _).alloc (Nat.le_refl _) _).alloc (by simp) _).alloc (by simp; omega) _)
  rw [← hwo]
  clear hwo
  have lt_B0 : (w.heap.size) < W1.heap.size := B0.lt
  have lt_B1 : (w.heap.size + 1) < W1.heap.size := B1.lt
  have lt_B2 : (w.heap.size + 1 + 1) < W1.heap.size := B2.lt
  have hbase : w.heap.size ≤ W1.heap.size := hb.size
  refine wp_region_steps0 Try.mixed (by kernel_rfl) (by kernel_rfl) (fun v => by (simp only [frL, Act.put, List.setIfInBounds_toArray, List.set_cons_zero, List.set_cons_succ, Nat.reduceAdd, Nat.zero_add]; exact rfl))
    (fun L v W2 => Below w.heap.size w W2 ∧ W1.heap.size ≤ W2.heap.size ∧ Blk W2 (w.heap.size) 64 23 (f) ∧ Blk W2 (w.heap.size + 1) 64 23 (m) ∧ (∃ g, Blk W2 (w.heap.size + 1 + 1) 64 23 (g)) ∧ (L 15 = false → Blk W2 (w.heap.size + 1 + 1) 64 23 (fun _ => 0)) ∧ (L 15 = true → Blk W2 (w.heap.size + 1 + 1) 64 23 (addK p (mmP p (resP p TP m) f m) (pmP p f p m) 1)) ∧ (L 0 = true → v 0 = (.int .i64 (p : Int))) ∧ (L 1 = true → v 1 = (.int .i64 (p : Int))) ∧ (L 2 = true → v 2 = (.int .i64 (p : Int))) ∧ (L 3 = true → v 3 = (.agg (bcells 64 (TP)))) ∧ (L 4 = true → v 4 = (.agg (bcells 64 (m)))) ∧ (L 5 = true → v 5 = (.agg (bcells 64 (resP p TP m)))) ∧ (L 6 = true → v 6 = (.agg (bcells 64 (f)))) ∧ (L 7 = true → v 7 = (.agg (bcells 64 (m)))) ∧ (L 8 = true → v 8 = (.agg (bcells 64 (mmP p (resP p TP m) f m)))) ∧ (L 9 = true → v 9 = (.int .i64 (p : Int))) ∧ (L 10 = true → v 10 = (.agg (bcells 64 (f)))) ∧ (L 11 = true → v 11 = (.int .i64 (p : Int))) ∧ (L 12 = true → v 12 = (.agg (bcells 64 (m)))) ∧ (L 13 = true → v 13 = (.agg (bcells 64 (pmP p f p m)))) ∧ (L 14 = true → v 14 = (.agg (bcells 64 (addK p (mmP p (resP p TP m) f m) (pmP p f p m) 1))))) ?_ ?_ ?_
  · intro v hv0
    exact ⟨hb.drew, Nat.le_refl _, B0.drew, B1.drew, ⟨_, B2.drew⟩, (fun _ => B2.drew), (fun h => by cases h), (fun h => by cases h), (fun h => by cases h), (fun h => by cases h), (fun h => by cases h), (fun h => by cases h), (fun h => by cases h), (fun h => by cases h), (fun h => by cases h), (fun h => by cases h), (fun h => by cases h), (fun h => by cases h), (fun h => by cases h), (fun h => by cases h), (fun h => by cases h), (fun h => by cases h)⟩
  · refine (.cons rfl ?_ (.cons rfl ?_ (.cons rfl ?_ (.cons rfl ?_ (.cons rfl ?_ (.cons rfl ?_ (.cons rfl ?_ (.cons rfl ?_ (.cons rfl ?_ (.cons rfl ?_ (.cons rfl ?_ (.cons rfl ?_ (.cons rfl ?_ (.cons rfl ?_ (.cons rfl ?_ (.cons rfl ?_ (.nil _)))))))))))))))))
    · intro L v W2 hd hn ⟨hB, hz, s0, s1, x2, q2, n2, h0, h1, h2, h3, h4, h5, h6, h7, h8, h9, h10, h11, h12, h13, h14⟩ K hK
      go_wp2_with fail
      exact hK _ (.int .i64 (p : Int)) _ (by simp only [Act.put, List.setIfInBounds_toArray, List.set_cons_zero, List.set_cons_succ ]) ⟨hB, hz, s0, s1, x2, q2, n2, (fun _ => rfl), h1, h2, h3, h4, h5, h6, h7, h8, h9, h10, h11, h12, h13, h14⟩
    · intro L v W2 hd hn ⟨hB, hz, s0, s1, x2, q2, n2, h0, h1, h2, h3, h4, h5, h6, h7, h8, h9, h10, h11, h12, h13, h14⟩ K hK
      go_wp2_with fail
      exact hK _ (.int .i64 (p : Int)) _ (by simp only [Act.put, List.setIfInBounds_toArray, List.set_cons_zero, List.set_cons_succ ]) ⟨hB, hz, s0, s1, x2, q2, n2, h0, (fun _ => rfl), h2, h3, h4, h5, h6, h7, h8, h9, h10, h11, h12, h13, h14⟩
    · intro L v W2 hd hn ⟨hB, hz, s0, s1, x2, q2, n2, h0, h1, h2, h3, h4, h5, h6, h7, h8, h9, h10, h11, h12, h13, h14⟩ K hK
      go_wp2_with fail
      exact hK _ (.int .i64 (p : Int)) _ (by simp only [Act.put, List.setIfInBounds_toArray, List.set_cons_zero, List.set_cons_succ ]) ⟨hB, hz, s0, s1, x2, q2, n2, h0, h1, (fun _ => rfl), h3, h4, h5, h6, h7, h8, h9, h10, h11, h12, h13, h14⟩
    · intro L v W2 hd hn ⟨hB, hz, s0, s1, x2, q2, n2, h0, h1, h2, h3, h4, h5, h6, h7, h8, h9, h10, h11, h12, h13, h14⟩ K hK
      go_wp2_with (go_at_call 152; refine (l01T_any _).mono ?_; rintro e wy ⟨rfl, hy⟩)
      exact hK _ (.agg (bcells 64 (TP))) _ (by simp only [Act.put, List.setIfInBounds_toArray, List.set_cons_zero, List.set_cons_succ ]) ⟨hB.trans (hy.mono hB.size), (Nat.le_trans hz hy.size), (s0).below hy (s0).lt, (s1).below hy (s1).lt, (let ⟨g, h⟩ := x2; ⟨g, (h).below hy (h).lt⟩), (fun h => (q2 h).below hy (q2 h).lt), (fun h => (n2 h).below hy (n2 h).lt), h0, h1, h2, (fun _ => rfl), h4, h5, h6, h7, h8, h9, h10, h11, h12, h13, h14⟩
    · intro L v W2 hd hn ⟨hB, hz, s0, s1, x2, q2, n2, h0, h1, h2, h3, h4, h5, h6, h7, h8, h9, h10, h11, h12, h13, h14⟩ K hK
      refine wp_load_any 23 _ rfl _ rfl 64 23 _ s1 _ Try.underlying23 rfl Try.size23 ?_
      exact hK _ _ _ rfl ⟨hB, hz, s0, s1, x2, q2, n2, h0, h1, h2, h3, (fun _ => rfl), h5, h6, h7, h8, h9, h10, h11, h12, h13, h14⟩
    · intro L v W2 hd hn ⟨hB, hz, s0, s1, x2, q2, n2, h0, h1, h2, h3, h4, h5, h6, h7, h8, h9, h10, h11, h12, h13, h14⟩ K hK
      have e2 := h2 (hd ⟨2, .data⟩ (by simp) rfl)
      have e3 := h3 (hd ⟨3, .data⟩ (by simp) rfl)
      have e4 := h4 (hd ⟨4, .data⟩ (by simp) rfl)
      go_wp2_with (go_at_call 115; refine (HMO.out _).mono ?_; rintro e wy ⟨rfl, hy⟩)
      exact hK _ (.agg (bcells 64 (resP p TP m))) _ (by simp only [Act.put, List.setIfInBounds_toArray, List.set_cons_zero, List.set_cons_succ, e2, e3, e4]) ⟨hB.trans (hy.mono hB.size), (Nat.le_trans hz hy.size), (s0).below hy (s0).lt, (s1).below hy (s1).lt, (let ⟨g, h⟩ := x2; ⟨g, (h).below hy (h).lt⟩), (fun h => (q2 h).below hy (q2 h).lt), (fun h => (n2 h).below hy (n2 h).lt), h0, h1, h2, h3, h4, (fun _ => rfl), h6, h7, h8, h9, h10, h11, h12, h13, h14⟩
    · intro L v W2 hd hn ⟨hB, hz, s0, s1, x2, q2, n2, h0, h1, h2, h3, h4, h5, h6, h7, h8, h9, h10, h11, h12, h13, h14⟩ K hK
      refine wp_load_any 23 _ rfl _ rfl 64 23 _ s0 _ Try.underlying23 rfl Try.size23 ?_
      exact hK _ _ _ rfl ⟨hB, hz, s0, s1, x2, q2, n2, h0, h1, h2, h3, h4, h5, (fun _ => rfl), h7, h8, h9, h10, h11, h12, h13, h14⟩
    · intro L v W2 hd hn ⟨hB, hz, s0, s1, x2, q2, n2, h0, h1, h2, h3, h4, h5, h6, h7, h8, h9, h10, h11, h12, h13, h14⟩ K hK
      refine wp_load_any 23 _ rfl _ rfl 64 23 _ s1 _ Try.underlying23 rfl Try.size23 ?_
      exact hK _ _ _ rfl ⟨hB, hz, s0, s1, x2, q2, n2, h0, h1, h2, h3, h4, h5, h6, (fun _ => rfl), h8, h9, h10, h11, h12, h13, h14⟩
    · intro L v W2 hd hn ⟨hB, hz, s0, s1, x2, q2, n2, h0, h1, h2, h3, h4, h5, h6, h7, h8, h9, h10, h11, h12, h13, h14⟩ K hK
      have e1 := h1 (hd ⟨1, .data⟩ (by simp) rfl)
      have e5 := h5 (hd ⟨5, .data⟩ (by simp) rfl)
      have e6 := h6 (hd ⟨6, .data⟩ (by simp) rfl)
      have e7 := h7 (hd ⟨7, .data⟩ (by simp) rfl)
      go_wp2_with (go_at_call 163; refine (HMM.out _).mono ?_; rintro e wy ⟨rfl, hy⟩)
      exact hK _ (.agg (bcells 64 (mmP p (resP p TP m) f m))) _ (by simp only [Act.put, List.setIfInBounds_toArray, List.set_cons_zero, List.set_cons_succ, e1, e5, e6, e7]) ⟨hB.trans (hy.mono hB.size), (Nat.le_trans hz hy.size), (s0).below hy (s0).lt, (s1).below hy (s1).lt, (let ⟨g, h⟩ := x2; ⟨g, (h).below hy (h).lt⟩), (fun h => (q2 h).below hy (q2 h).lt), (fun h => (n2 h).below hy (n2 h).lt), h0, h1, h2, h3, h4, h5, h6, h7, (fun _ => rfl), h9, h10, h11, h12, h13, h14⟩
    · intro L v W2 hd hn ⟨hB, hz, s0, s1, x2, q2, n2, h0, h1, h2, h3, h4, h5, h6, h7, h8, h9, h10, h11, h12, h13, h14⟩ K hK
      go_wp2_with fail
      exact hK _ (.int .i64 (p : Int)) _ (by simp only [Act.put, List.setIfInBounds_toArray, List.set_cons_zero, List.set_cons_succ ]) ⟨hB, hz, s0, s1, x2, q2, n2, h0, h1, h2, h3, h4, h5, h6, h7, h8, (fun _ => rfl), h10, h11, h12, h13, h14⟩
    · intro L v W2 hd hn ⟨hB, hz, s0, s1, x2, q2, n2, h0, h1, h2, h3, h4, h5, h6, h7, h8, h9, h10, h11, h12, h13, h14⟩ K hK
      refine wp_load_any 23 _ rfl _ rfl 64 23 _ s0 _ Try.underlying23 rfl Try.size23 ?_
      exact hK _ _ _ rfl ⟨hB, hz, s0, s1, x2, q2, n2, h0, h1, h2, h3, h4, h5, h6, h7, h8, h9, (fun _ => rfl), h11, h12, h13, h14⟩
    · intro L v W2 hd hn ⟨hB, hz, s0, s1, x2, q2, n2, h0, h1, h2, h3, h4, h5, h6, h7, h8, h9, h10, h11, h12, h13, h14⟩ K hK
      go_wp2_with fail
      exact hK _ (.int .i64 (p : Int)) _ (by simp only [Act.put, List.setIfInBounds_toArray, List.set_cons_zero, List.set_cons_succ ]) ⟨hB, hz, s0, s1, x2, q2, n2, h0, h1, h2, h3, h4, h5, h6, h7, h8, h9, h10, (fun _ => rfl), h12, h13, h14⟩
    · intro L v W2 hd hn ⟨hB, hz, s0, s1, x2, q2, n2, h0, h1, h2, h3, h4, h5, h6, h7, h8, h9, h10, h11, h12, h13, h14⟩ K hK
      refine wp_load_any 23 _ rfl _ rfl 64 23 _ s1 _ Try.underlying23 rfl Try.size23 ?_
      exact hK _ _ _ rfl ⟨hB, hz, s0, s1, x2, q2, n2, h0, h1, h2, h3, h4, h5, h6, h7, h8, h9, h10, h11, (fun _ => rfl), h13, h14⟩
    · intro L v W2 hd hn ⟨hB, hz, s0, s1, x2, q2, n2, h0, h1, h2, h3, h4, h5, h6, h7, h8, h9, h10, h11, h12, h13, h14⟩ K hK
      have e9 := h9 (hd ⟨9, .data⟩ (by simp) rfl)
      have e10 := h10 (hd ⟨10, .data⟩ (by simp) rfl)
      have e11 := h11 (hd ⟨11, .data⟩ (by simp) rfl)
      have e12 := h12 (hd ⟨12, .data⟩ (by simp) rfl)
      go_wp2_with (go_at_call 153; refine (HPM.out _).mono ?_; rintro e wy ⟨rfl, hy⟩)
      exact hK _ (.agg (bcells 64 (pmP p f p m))) _ (by simp only [Act.put, List.setIfInBounds_toArray, List.set_cons_zero, List.set_cons_succ, e9, e10, e11, e12]) ⟨hB.trans (hy.mono hB.size), (Nat.le_trans hz hy.size), (s0).below hy (s0).lt, (s1).below hy (s1).lt, (let ⟨g, h⟩ := x2; ⟨g, (h).below hy (h).lt⟩), (fun h => (q2 h).below hy (q2 h).lt), (fun h => (n2 h).below hy (n2 h).lt), h0, h1, h2, h3, h4, h5, h6, h7, h8, h9, h10, h11, h12, (fun _ => rfl), h14⟩
    · intro L v W2 hd hn ⟨hB, hz, s0, s1, x2, q2, n2, h0, h1, h2, h3, h4, h5, h6, h7, h8, h9, h10, h11, h12, h13, h14⟩ K hK
      have e0 := h0 (hd ⟨0, .data⟩ (by simp) rfl)
      have e8 := h8 (hd ⟨8, .data⟩ (by simp) rfl)
      have e13 := h13 (hd ⟨13, .data⟩ (by simp) rfl)
      go_wp2_with (go_at_call 107; refine (HAD.out _).mono ?_; rintro e wy ⟨rfl, hy⟩)
      exact hK _ (.agg (bcells 64 (addK p (mmP p (resP p TP m) f m) (pmP p f p m) 1))) _ (by simp only [Act.put, List.setIfInBounds_toArray, List.set_cons_zero, List.set_cons_succ, e0, e8, e13]) ⟨hB.trans (hy.mono hB.size), (Nat.le_trans hz hy.size), (s0).below hy (s0).lt, (s1).below hy (s1).lt, (let ⟨g, h⟩ := x2; ⟨g, (h).below hy (h).lt⟩), (fun h => (q2 h).below hy (q2 h).lt), (fun h => (n2 h).below hy (n2 h).lt), h0, h1, h2, h3, h4, h5, h6, h7, h8, h9, h10, h11, h12, h13, (fun _ => rfl)⟩
    · intro L v W2 hd hn ⟨hB, hz, s0, s1, x2, q2, n2, h0, h1, h2, h3, h4, h5, h6, h7, h8, h9, h10, h11, h12, h13, h14⟩ K hK
      have e14 := h14 (hd ⟨14, .data⟩ (by simp) rfl)
      obtain ⟨gz, hk⟩ := x2
      refine wp_store_blk 23 _ _ rfl _ 64 (addK p (mmP p (resP p TP m) f m) (pmP p f p m) 1) rfl e14 23 gz hk Try.size23 ?_
      exact hK _ undef _ rfl ⟨below_row hB (by omega) _, (by simpa [World.setRow] using hz), (s0).rowOther (by omega), (s1).rowOther (by omega), ⟨_, hk.row _⟩, (fun h => absurd h (by simp [setL])), (fun _ => hk.row _), h0, h1, h2, h3, h4, h5, h6, h7, h8, h9, h10, h11, h12, h13, h14⟩
  · intro L v W2 hL ⟨hB, hz, s0, s1, x2, q2, n2, h0, h1, h2, h3, h4, h5, h6, h7, h8, h9, h10, h11, h12, h13, h14⟩
    have r2 := n2 (hL 15 (by decide))
    have e0 := h0 (hL 0 (by decide))
    have e1 := h1 (hL 1 (by decide))
    have e2 := h2 (hL 2 (by decide))
    have e3 := h3 (hL 3 (by decide))
    have e4 := h4 (hL 4 (by decide))
    have e5 := h5 (hL 5 (by decide))
    have e6 := h6 (hL 6 (by decide))
    have e7 := h7 (hL 7 (by decide))
    have e8 := h8 (hL 8 (by decide))
    have e9 := h9 (hL 9 (by decide))
    have e10 := h10 (hL 10 (by decide))
    have e11 := h11 (hL 11 (by decide))
    have e12 := h12 (hL 12 (by decide))
    have e13 := h13 (hL 13 (by decide))
    have e14 := h14 (hL 14 (by decide))
    clear hL x2 q2 n2 h0 h1 h2 h3 h4 h5 h6 h7 h8 h9 h10 h11 h12 h13 h14
    simp only [Exit.then, e0, e1, e2, e3, e4, e5, e6, e7, e8, e9, e10, e11, e12, e13, e14]
    clear e0 e1 e2 e3 e4 e5 e6 e7 e8 e9 e10 e11 e12 e13 e14
    clear B0
    have B0 := s0
    clear s0
    clear B1
    have B1 := s1
    clear s1
    clear B2
    have B2 := r2
    clear r2
    clear hb
    have hb := hB
    clear hB
    clear hbase hz lt_B0 lt_B1 lt_B2
    go_wp2_with fail
    refine bodyPost_ret (results_blk rfl _ _ _ 64 23 5 _ rfl B2 Try.underlying23 Try.size23) rfl ⟨by rw [HV.out], hb⟩
set_option maxRecDepth 100000 in
set_option maxHeartbeats 1600000 in
theorem l04Act_any (p : Nat) (a f m : Nat → Nat) (w : World) (hpr : p = 2 ∨ p = 3 ∨ p = 5 ∨ p = 7) (la : ∀ k, k < 64 → a k < p) (lf : ∀ k, k < 64 → f k < p) (lm : ∀ k, k < 64 → m k < p) (h0 : 0 ≤ deg m) :
    Calls Try.prog 111 #[.int .i64 (p : Int), .agg (bcells 64 a), .agg (bcells 64 f), .agg (bcells 64 m)] w fun e w' => e = .returned (.agg (bcells 64 (acS p m a (resP p f m) (deg a + 1).toNat))) ∧ Below w.heap.size w w' := by
  have p0 : 0 < p := by omega
  have p2 : 2 ≤ p := by omega
  have p7 : p ≤ 7 := by omega
  obtain ⟨gb1, gb2⟩ := deg_bounds a
  obtain ⟨NN, hNN⟩ : ∃ NN : Nat, deg a = (NN : Int) - 1 := ⟨(deg a + 1).toNat, by omega⟩
  have HD := Lib.hid hNN
  have hN6 : NN ≤ 64 := by omega
  have HT := Lib.hid (show (deg a + 1).toNat = NN by omega)
  have HMO := Lib.hid (fun W => l01Mod_any p f m W hpr lf lm h0)
  have HST := Lib.hid (fun (x : Nat → Nat) (hx : ∀ k, k < 64 → x k < p) W => l04Step_any p x m W hpr hx lm h0)
  have hr := resP_lt (b := m) p0 lf
  have hrd := (resP_deg hpr lf lm h0).1
  have HN := Lib.hid (fun j => acN_ok hpr lm h0 hr hrd j)
  have HSS := Lib.hid (fun j => acS_ok (a := a) hpr lm h0 hr hrd j)
  have hz0 : acS p m a (resP p f m) 0 = fun _ => 0 := by unfold acS; rfl
  have hn0 : acN p m (resP p f m) 0 = resP p f m := by unfold acN; rfl
  have HZ := Lib.hid hz0
  have HN0 := Lib.hid hn0
  have HSQ := Lib.hid (show ∀ j, acS p m a (resP p f m) (j + 1) = addK p (acS p m a (resP p f m) j) (acN p m (resP p f m) j) (a j : Int) from fun j => by rw [acS])
  have HNQ := Lib.hid (show ∀ j, acN p m (resP p f m) (j + 1) = stP p m (acN p m (resP p f m) j) from fun j => by rw [acN])
  clear hNN hr hrd hz0 hn0
  go_enter Try.func111, Try.ntmps111
  go_upto_region 1 with (fail)
  rw [← zero64]
  obtain ⟨W1, hwo⟩ : ∃ v : World, v = ((((w.alloc (.cells (bcells 64 (a)) 23)).alloc (.cells (bcells 64 (f)) 23)).alloc (.cells (bcells 64 (m)) 23)).alloc (.cells (bcells 64 fun _ => 0) 23)) := ⟨_, rfl⟩
  have B0 : Blk W1 (w.heap.size) 64 23 (a) := by subst hwo; have := ((((Blk.new w 64 23 (a)).alloc (.cells (bcells 64 (f)) 23)).alloc (.cells (bcells 64 (m)) 23)).alloc (.cells (bcells 64 fun _ => 0) 23)); simpa using this
  have B1 : Blk W1 (w.heap.size + 1) 64 23 (f) := by subst hwo; have := (((Blk.new (w.alloc (.cells (bcells 64 (a)) 23)) 64 23 (f)).alloc (.cells (bcells 64 (m)) 23)).alloc (.cells (bcells 64 fun _ => 0) 23)); simpa using this
  have B2 : Blk W1 (w.heap.size + 1 + 1) 64 23 (m) := by subst hwo; have := ((Blk.new ((w.alloc (.cells (bcells 64 (a)) 23)).alloc (.cells (bcells 64 (f)) 23)) 64 23 (m)).alloc (.cells (bcells 64 fun _ => 0) 23)); simpa using this
  have B3 : Blk W1 (w.heap.size + 1 + 1 + 1) 64 23 (fun _ => 0) := by subst hwo; have := (Blk.new (((w.alloc (.cells (bcells 64 (a)) 23)).alloc (.cells (bcells 64 (f)) 23)).alloc (.cells (bcells 64 (m)) 23)) 64 23 (fun _ => 0)); simpa using this
  have hb : Below w.heap.size w W1 := by subst hwo; exact (((((Below.refl _ _).alloc (Nat.le_refl _) _).alloc (by simp) _).alloc (by simp; omega) _).alloc (by simp; omega) _)
  rw [← hwo]
  clear hwo
  have lt_B0 := B0.lt
  have lt_B1 := B1.lt
  have lt_B2 := B2.lt
  have lt_B3 := B3.lt
  go_upto_region 2 with (first | rw [← zero64] | (refine wpList_load_any rfl 23 (.tmp 6) rfl _ rfl 64 23 _ (B1) _ Try.underlying23 rfl Try.size23 ?_) | (refine wpList_load_any rfl 23 (.tmp 7) rfl _ rfl 64 23 _ (B2) _ Try.underlying23 rfl Try.size23 ?_) | (go_at_call 115; refine (HMO.out _).mono ?_; rintro e W2 ⟨rfl, hW2⟩; replace B0 := B0.below hW2 B0.lt; replace B1 := B1.below hW2 B1.lt; replace B2 := B2.below hW2 B2.lt; replace B3 := B3.below hW2 B3.lt; replace hb := (hb).trans (hW2.mono (hb).size)) | (refine wpList_store_blk rfl 23 (.tmp 9) (.tmp 12) rfl _ 64 (fun _ => 0) rfl rfl 23 _ (((Blk.new W2 64 23 (fun _ => 0)).alloc (.cells (bcells 64 fun _ => 0) 23))) Try.size23 ?_; try simp only [Act.put]) | (refine wpList_store_blk rfl 23 (.tmp 10) (.tmp 16) rfl _ 64 (resP p f m) rfl rfl 23 _ (((show Blk ((W2.alloc (.cells (bcells 64 fun _ => 0) 23)).alloc (.cells (bcells 64 fun _ => 0) 23)) (W2.heap.size + 1) 64 23 (fun _ => 0) by have := Blk.new (W2.alloc (.cells (bcells 64 fun _ => 0) 23)) 64 23 (fun _ => 0); simpa using this).rowOther (by omega))) Try.size23 ?_; try simp only [Act.put]))
  have lt_B0 := B0.lt
  have lt_B1 := B1.lt
  have lt_B2 := B2.lt
  have lt_B3 := B3.lt
  have lhb := hb.size
  have qB0 : Blk ((((W2.alloc (.cells (bcells 64 fun _ => 0) 23)).alloc (.cells (bcells 64 fun _ => 0) 23)).setRow (W2.heap.size) (bcells 64 (fun _ => 0))).setRow (W2.heap.size + 1) (bcells 64 (resP p f m))) (w.heap.size) 64 23 (a) := ((((B0.alloc (.cells (bcells 64 fun _ => 0) 23)).alloc (.cells (bcells 64 fun _ => 0) 23)).rowOther (by omega)).rowOther (by omega))
  have qB1 : Blk ((((W2.alloc (.cells (bcells 64 fun _ => 0) 23)).alloc (.cells (bcells 64 fun _ => 0) 23)).setRow (W2.heap.size) (bcells 64 (fun _ => 0))).setRow (W2.heap.size + 1) (bcells 64 (resP p f m))) (w.heap.size + 1) 64 23 (f) := ((((B1.alloc (.cells (bcells 64 fun _ => 0) 23)).alloc (.cells (bcells 64 fun _ => 0) 23)).rowOther (by omega)).rowOther (by omega))
  have qB2 : Blk ((((W2.alloc (.cells (bcells 64 fun _ => 0) 23)).alloc (.cells (bcells 64 fun _ => 0) 23)).setRow (W2.heap.size) (bcells 64 (fun _ => 0))).setRow (W2.heap.size + 1) (bcells 64 (resP p f m))) (w.heap.size + 1 + 1) 64 23 (m) := ((((B2.alloc (.cells (bcells 64 fun _ => 0) 23)).alloc (.cells (bcells 64 fun _ => 0) 23)).rowOther (by omega)).rowOther (by omega))
  have qB3 : Blk ((((W2.alloc (.cells (bcells 64 fun _ => 0) 23)).alloc (.cells (bcells 64 fun _ => 0) 23)).setRow (W2.heap.size) (bcells 64 (fun _ => 0))).setRow (W2.heap.size + 1) (bcells 64 (resP p f m))) (w.heap.size + 1 + 1 + 1) 64 23 (fun _ => 0) := ((((B3.alloc (.cells (bcells 64 fun _ => 0) 23)).alloc (.cells (bcells 64 fun _ => 0) 23)).rowOther (by omega)).rowOther (by omega))
  have qB4 : Blk ((((W2.alloc (.cells (bcells 64 fun _ => 0) 23)).alloc (.cells (bcells 64 fun _ => 0) 23)).setRow (W2.heap.size) (bcells 64 (fun _ => 0))).setRow (W2.heap.size + 1) (bcells 64 (resP p f m))) (W2.heap.size) 64 23 (fun _ => 0) := ((((Blk.new W2 64 23 (fun _ => 0)).alloc (.cells (bcells 64 fun _ => 0) 23)).row (fun _ => 0)).rowOther (by omega))
  have qB5 : Blk ((((W2.alloc (.cells (bcells 64 fun _ => 0) 23)).alloc (.cells (bcells 64 fun _ => 0) 23)).setRow (W2.heap.size) (bcells 64 (fun _ => 0))).setRow (W2.heap.size + 1) (bcells 64 (resP p f m))) (W2.heap.size + 1) 64 23 (resP p f m) := (((show Blk ((W2.alloc (.cells (bcells 64 fun _ => 0) 23)).alloc (.cells (bcells 64 fun _ => 0) 23)) (W2.heap.size + 1) 64 23 (fun _ => 0) by have := Blk.new (W2.alloc (.cells (bcells 64 fun _ => 0) 23)) 64 23 (fun _ => 0); simpa using this).rowOther (by omega)).row (resP p f m))
  have qhb : Below w.heap.size w ((((W2.alloc (.cells (bcells 64 fun _ => 0) 23)).alloc (.cells (bcells 64 fun _ => 0) 23)).setRow (W2.heap.size) (bcells 64 (fun _ => 0))).setRow (W2.heap.size + 1) (bcells 64 (resP p f m))) := (below_row (below_row ((hb.alloc (by have := hb.size; simp; omega) (.cells (bcells 64 fun _ => 0) 23)).alloc (by have := hb.size; simp; omega) (.cells (bcells 64 fun _ => 0) 23)) (by omega) _) (by omega) _)
  obtain ⟨W3, hwo⟩ : ∃ v : World, v = ((((W2.alloc (.cells (bcells 64 fun _ => 0) 23)).alloc (.cells (bcells 64 fun _ => 0) 23)).setRow (W2.heap.size) (bcells 64 (fun _ => 0))).setRow (W2.heap.size + 1) (bcells 64 (resP p f m))) := ⟨_, rfl⟩
  rw [← hwo] at qB0 qB1 qB2 qB3 qB4 qB5 qhb ⊢
  clear hwo
  clear B0 B1 B2 B3 hb
  have B0 := qB0
  have B1 := qB1
  have B2 := qB2
  have B3 := qB3
  have B4 := qB4
  have B5 := qB5
  have hb := qhb
  clear qB0 qB1 qB2 qB3 qB4 qB5 qhb
  obtain ⟨N1, hNN⟩ : ∃ n : Nat, n = W2.heap.size := ⟨_, rfl⟩
  rw [← hNN] at lt_B0 lt_B1 lt_B2 lt_B3 lhb B4 B5 ⊢
  clear hNN
  have zN1_0 := lt_B0
  have zN1_1 := lt_B1
  have zN1_2 := lt_B2
  have zN1_3 := lt_B3
  have zN1 := lhb
  clear lt_B0 lt_B1 lt_B2 lt_B3 lhb
  try simp only [Act.put, List.setIfInBounds_toArray, List.set_cons_zero, List.set_cons_succ]
  go_wp2_with fail
  go_loopw [11] (fun i wr => ∃ j : Nat, i = .int .i64 (j : Int) ∧ j ≤ NN ∧ Below w.heap.size w wr ∧ Blk wr (w.heap.size) 64 23 a ∧ Blk wr (w.heap.size + 1 + 1) 64 23 m ∧ Blk wr (w.heap.size + 1 + 1 + 1) 64 23 (fun _ => 0) ∧ Blk wr (N1) 64 23 (acS p m a (resP p f m) j) ∧ Blk wr (N1 + 1) 64 23 (acN p m (resP p f m) j)) (fun i _ => NN - (intOf i).toNat)
  case atStart => exact ⟨0, rfl, Nat.zero_le _, hb, B0, B2, B3, by rw [HZ.out]; exact B4, by rw [HN0.out]; exact B5⟩
  case round =>
    clear hb B0 B1 B2 B3 B4 B5
    obtain ⟨j, rfl, hjn, hb, B0, B2, B3, B4, B5⟩ := hrel
    by_cases hj : j < NN
    · have hji : (j : Int) ≤ (NN : Int) - 1 := by omega
      have hj6 : j < 64 := by omega
      obtain ⟨s1, s2, _⟩ := HSS.out j
      obtain ⟨t1, t2, _⟩ := HN.out j
      have HT1 := Lib.hid t1
      have laj := la j hj6
      obtain ⟨C, hC⟩ : ∃ C, C = a j := ⟨_, rfl⟩
      rw [← hC] at laj
      have HC := Lib.hid hC
      clear hC
      have HA := Lib.hid (fun W => l01Add_any p (acS p m a (resP p f m) j) (acN p m (resP p f m) j) (C : Int) W p2 p7 (by omega) (by omega) (fun k _ => s1 k) t1)
      have HE := Lib.hid (show addK p (acS p m a (resP p f m) j) (acN p m (resP p f m) j) (C : Int) = acS p m a (resP p f m) (j + 1) by rw [HC.out, HSQ.out])
      clear s1 s2 t1 t2
      go_upto_region 5 with (first | (refine wpList_load_any rfl 23 (.tmp 5) rfl _ rfl 64 23 _ (B0) _ Try.underlying23 rfl Try.size23 ?_) | (go_at_call 73; refine (l01Deg_any a _).mono ?_; rintro e W4 ⟨rfl, hW4⟩; replace B0 := B0.below hW4 B0.lt; replace B2 := B2.below hW4 B2.lt; replace B3 := B3.below hW4 B3.lt; replace B4 := B4.below hW4 B4.lt; replace B5 := B5.below hW4 B5.lt; replace hb := (hb).trans (hW4.mono (hb).size); rw [HD.out]))
      have lt_B0 : (w.heap.size) < W4.heap.size := B0.lt
      have lt_B2 : (w.heap.size + 1 + 1) < W4.heap.size := B2.lt
      have lt_B3 : (w.heap.size + 1 + 1 + 1) < W4.heap.size := B3.lt
      have lt_B4 : (N1) < W4.heap.size := B4.lt
      have lt_B5 : (N1 + 1) < W4.heap.size := B5.lt
      have hbase : w.heap.size ≤ W4.heap.size := hb.size
      refine wp_region_steps0 Try.mixed (by kernel_rfl) (by kernel_rfl) (fun v => by (simp only [frL, Act.put, List.setIfInBounds_toArray, List.set_cons_zero, List.set_cons_succ, Nat.reduceAdd, Nat.zero_add]; exact rfl))
        (fun L v W5 => Below w.heap.size w W5 ∧ W4.heap.size ≤ W5.heap.size ∧ Blk W5 (w.heap.size) 64 23 (a) ∧ Blk W5 (w.heap.size + 1 + 1) 64 23 (m) ∧ Blk W5 (w.heap.size + 1 + 1 + 1) 64 23 (fun _ => 0) ∧ (∃ g, Blk W5 (N1) 64 23 (g)) ∧ (L 8 = false → Blk W5 (N1) 64 23 (acS p m a (resP p f m) j)) ∧ (L 8 = true → Blk W5 (N1) 64 23 (addK p (acS p m a (resP p f m) j) (acN p m (resP p f m) j) (C : Int))) ∧ Blk W5 (N1 + 1) 64 23 (acN p m (resP p f m) j) ∧ (L 0 = true → v 0 = (.int .i64 (p : Int))) ∧ (L 1 = true → v 1 = (.agg (bcells 64 (acS p m a (resP p f m) j)))) ∧ (L 2 = true → v 2 = (.agg (bcells 64 (acN p m (resP p f m) j)))) ∧ (L 3 = true → v 3 = (.int .i64 (j : Int))) ∧ (L 4 = true → v 4 = (.pointer (some ⟨w.heap.size, j, none⟩))) ∧ (L 5 = true → v 5 = (.int .u8 (C : Int))) ∧ (L 6 = true → v 6 = (.int .i64 (C : Int))) ∧ (L 7 = true → v 7 = (.agg (bcells 64 (addK p (acS p m a (resP p f m) j) (acN p m (resP p f m) j) (C : Int)))))) ?_ ?_ ?_
      · intro v hv0
        exact ⟨hb.drew, Nat.le_refl _, B0.drew, B2.drew, B3.drew, ⟨_, B4.drew⟩, (fun _ => B4.drew), (fun h => by cases h), B5.drew, (fun h => by cases h), (fun h => by cases h), (fun h => by cases h), (fun h => by cases h), (fun h => by cases h), (fun h => by cases h), (fun h => by cases h), (fun h => by cases h)⟩
      · refine (.cons rfl ?_ (.cons rfl ?_ (.cons rfl ?_ (.cons rfl ?_ (.cons rfl ?_ (.cons rfl ?_ (.cons rfl ?_ (.cons rfl ?_ (.cons rfl ?_ (.nil _))))))))))
        · intro L v W5 hd hn ⟨hB, hz, s0, s1, s2, x3, q3, n3, s4, h0, h1, h2, h3, h4, h5, h6, h7⟩ K hK
          go_wp2_with fail
          exact hK _ (.int .i64 (p : Int)) _ (by simp only [Act.put, List.setIfInBounds_toArray, List.set_cons_zero, List.set_cons_succ ]) ⟨hB, hz, s0, s1, s2, x3, q3, n3, s4, (fun _ => rfl), h1, h2, h3, h4, h5, h6, h7⟩
        · intro L v W5 hd hn ⟨hB, hz, s0, s1, s2, x3, q3, n3, s4, h0, h1, h2, h3, h4, h5, h6, h7⟩ K hK
          have s3 := q3 (by
            cases hL : L 8 with
            | false => rfl
            | true => exact absurd rfl (hn 8 _ rfl hL ⟨1, .phase⟩ (by simp) rfl))
          refine wp_load_any 23 _ rfl _ rfl 64 23 _ s3 _ Try.underlying23 rfl Try.size23 ?_
          exact hK _ _ _ rfl ⟨hB, hz, s0, s1, s2, x3, q3, n3, s4, h0, (fun _ => rfl), h2, h3, h4, h5, h6, h7⟩
        · intro L v W5 hd hn ⟨hB, hz, s0, s1, s2, x3, q3, n3, s4, h0, h1, h2, h3, h4, h5, h6, h7⟩ K hK
          refine wp_load_any 23 _ rfl _ rfl 64 23 _ s4 _ Try.underlying23 rfl Try.size23 ?_
          exact hK _ _ _ rfl ⟨hB, hz, s0, s1, s2, x3, q3, n3, s4, h0, h1, (fun _ => rfl), h3, h4, h5, h6, h7⟩
        · intro L v W5 hd hn ⟨hB, hz, s0, s1, s2, x3, q3, n3, s4, h0, h1, h2, h3, h4, h5, h6, h7⟩ K hK
          go_wp2_with fail
          exact hK _ (.int .i64 (j : Int)) _ (by simp only [Act.put, List.setIfInBounds_toArray, List.set_cons_zero, List.set_cons_succ ]) ⟨hB, hz, s0, s1, s2, x3, q3, n3, s4, h0, h1, h2, (fun _ => rfl), h4, h5, h6, h7⟩
        · intro L v W5 hd hn ⟨hB, hz, s0, s1, s2, x3, q3, n3, s4, h0, h1, h2, h3, h4, h5, h6, h7⟩ K hK
          have e3 := h3 (hd ⟨3, .data⟩ (by simp) rfl)
          go_wp2_with fail
          exact hK _ (.pointer (some ⟨w.heap.size, j, none⟩)) _ (by simp only [Act.put, List.setIfInBounds_toArray, List.set_cons_zero, List.set_cons_succ, e3]) ⟨hB, hz, s0, s1, s2, x3, q3, n3, s4, h0, h1, h2, h3, (fun _ => rfl), h5, h6, h7⟩
        · intro L v W5 hd hn ⟨hB, hz, s0, s1, s2, x3, q3, n3, s4, h0, h1, h2, h3, h4, h5, h6, h7⟩ K hK
          have e4 := h4 (hd ⟨4, .data⟩ (by simp) rfl)
          have cc := s0.cell (i := j) hj6
          rw [← HC.out] at cc
          go_wp2_with fail
          exact hK _ (.int .u8 (C : Int)) _ (by simp only [Act.put, List.setIfInBounds_toArray, List.set_cons_zero, List.set_cons_succ, e4]) ⟨hB, hz, s0, s1, s2, x3, q3, n3, s4, h0, h1, h2, h3, h4, (fun _ => rfl), h6, h7⟩
        · intro L v W5 hd hn ⟨hB, hz, s0, s1, s2, x3, q3, n3, s4, h0, h1, h2, h3, h4, h5, h6, h7⟩ K hK
          have e5 := h5 (hd ⟨5, .data⟩ (by simp) rfl)
          go_wp2_with fail
          exact hK _ (.int .i64 (C : Int)) _ (by simp only [Act.put, List.setIfInBounds_toArray, List.set_cons_zero, List.set_cons_succ, e5]) ⟨hB, hz, s0, s1, s2, x3, q3, n3, s4, h0, h1, h2, h3, h4, h5, (fun _ => rfl), h7⟩
        · intro L v W5 hd hn ⟨hB, hz, s0, s1, s2, x3, q3, n3, s4, h0, h1, h2, h3, h4, h5, h6, h7⟩ K hK
          have e0 := h0 (hd ⟨0, .data⟩ (by simp) rfl)
          have e1 := h1 (hd ⟨1, .data⟩ (by simp) rfl)
          have e2 := h2 (hd ⟨2, .data⟩ (by simp) rfl)
          have e6 := h6 (hd ⟨6, .data⟩ (by simp) rfl)
          go_wp2_with (go_at_call 107; refine (HA.out _).mono ?_; rintro e wy ⟨rfl, hy⟩)
          exact hK _ (.agg (bcells 64 (addK p (acS p m a (resP p f m) j) (acN p m (resP p f m) j) (C : Int)))) _ (by simp only [Act.put, List.setIfInBounds_toArray, List.set_cons_zero, List.set_cons_succ, e0, e1, e2, e6]) ⟨hB.trans (hy.mono hB.size), (Nat.le_trans hz hy.size), (s0).below hy (s0).lt, (s1).below hy (s1).lt, (s2).below hy (s2).lt, (let ⟨g, h⟩ := x3; ⟨g, (h).below hy (h).lt⟩), (fun h => (q3 h).below hy (q3 h).lt), (fun h => (n3 h).below hy (n3 h).lt), (s4).below hy (s4).lt, h0, h1, h2, h3, h4, h5, h6, (fun _ => rfl)⟩
        · intro L v W5 hd hn ⟨hB, hz, s0, s1, s2, x3, q3, n3, s4, h0, h1, h2, h3, h4, h5, h6, h7⟩ K hK
          have e7 := h7 (hd ⟨7, .data⟩ (by simp) rfl)
          obtain ⟨gz, hk⟩ := x3
          refine wp_store_blk 23 _ _ rfl _ 64 (addK p (acS p m a (resP p f m) j) (acN p m (resP p f m) j) (C : Int)) rfl e7 23 gz hk Try.size23 ?_
          exact hK _ undef _ rfl ⟨below_row hB (by omega) _, (by simpa [World.setRow] using hz), (s0).rowOther (by omega), (s1).rowOther (by omega), (s2).rowOther (by omega), ⟨_, hk.row _⟩, (fun h => absurd h (by simp [setL])), (fun _ => hk.row _), (s4).rowOther (by omega), h0, h1, h2, h3, h4, h5, h6, h7⟩
      · intro L v W5 hL ⟨hB, hz, s0, s1, s2, x3, q3, n3, s4, h0, h1, h2, h3, h4, h5, h6, h7⟩
        have r3 := n3 (hL 8 (by decide))
        have e0 := h0 (hL 0 (by decide))
        have e1 := h1 (hL 1 (by decide))
        have e2 := h2 (hL 2 (by decide))
        have e3 := h3 (hL 3 (by decide))
        have e4 := h4 (hL 4 (by decide))
        have e5 := h5 (hL 5 (by decide))
        have e6 := h6 (hL 6 (by decide))
        have e7 := h7 (hL 7 (by decide))
        clear hL x3 q3 n3 h0 h1 h2 h3 h4 h5 h6 h7
        simp only [Exit.then, e0, e1, e2, e3, e4, e5, e6, e7]
        clear e0 e1 e2 e3 e4 e5 e6 e7
        clear B0
        have B0 := s0
        clear s0
        clear B2
        have B2 := s1
        clear s1
        clear B3
        have B3 := s2
        clear s2
        clear B4
        have B4 := r3
        clear r3
        clear B5
        have B5 := s4
        clear s4
        clear hb
        have hb := hB
        clear hB
        clear hbase hz lt_B0 lt_B2 lt_B3 lt_B4 lt_B5
        go_upto_region 6 with (fail)
        have lt_B0 := B0.lt
        have lt_B2 := B2.lt
        have lt_B3 := B3.lt
        have lt_B4 := B4.lt
        have lt_B5 := B5.lt
        go_upto_region 4 with (first | rw [← zero64] | (refine wpList_load_any rfl 23 (.tmp 10) rfl _ rfl 64 23 _ (B5) _ Try.underlying23 rfl Try.size23 ?_) | (refine wpList_load_any rfl 23 (.tmp 7) rfl _ rfl 64 23 _ (B2) _ Try.underlying23 rfl Try.size23 ?_) | (go_at_call 168; refine (HST.out _ HT1.out _).mono ?_; rintro e W6 ⟨rfl, hW6⟩; replace B0 := B0.below hW6 B0.lt; replace B2 := B2.below hW6 B2.lt; replace B3 := B3.below hW6 B3.lt; replace B4 := B4.below hW6 B4.lt; replace B5 := B5.below hW6 B5.lt; replace hb := (hb).trans (hW6.mono (hb).size)) | (refine wpList_store_blk rfl 23 (.tmp 10) (.tmp 34) rfl _ 64 (stP p m (acN p m (resP p f m) j)) rfl rfl 23 _ (B5) Try.size23 ?_; try simp only [Act.put]))
        have qB0 : Blk (W6.setRow (N1 + 1) (bcells 64 (stP p m (acN p m (resP p f m) j)))) (w.heap.size) 64 23 (a) := (B0.rowOther (by omega))
        have qB2 : Blk (W6.setRow (N1 + 1) (bcells 64 (stP p m (acN p m (resP p f m) j)))) (w.heap.size + 1 + 1) 64 23 (m) := (B2.rowOther (by omega))
        have qB3 : Blk (W6.setRow (N1 + 1) (bcells 64 (stP p m (acN p m (resP p f m) j)))) (w.heap.size + 1 + 1 + 1) 64 23 (fun _ => 0) := (B3.rowOther (by omega))
        have qB4 : Blk (W6.setRow (N1 + 1) (bcells 64 (stP p m (acN p m (resP p f m) j)))) (N1) 64 23 (addK p (acS p m a (resP p f m) j) (acN p m (resP p f m) j) (C : Int)) := (B4.rowOther (by omega))
        have qB5 : Blk (W6.setRow (N1 + 1) (bcells 64 (stP p m (acN p m (resP p f m) j)))) (N1 + 1) 64 23 (stP p m (acN p m (resP p f m) j)) := (B5.row (stP p m (acN p m (resP p f m) j)))
        have qhb : Below w.heap.size w (W6.setRow (N1 + 1) (bcells 64 (stP p m (acN p m (resP p f m) j)))) := (below_row hb (by omega) _)
        obtain ⟨W7, hwo⟩ : ∃ v : World, v = (W6.setRow (N1 + 1) (bcells 64 (stP p m (acN p m (resP p f m) j)))) := ⟨_, rfl⟩
        rw [← hwo] at qB0 qB2 qB3 qB4 qB5 qhb ⊢
        clear hwo
        clear B0 B2 B3 B4 B5 hb
        have B0 := qB0
        have B2 := qB2
        have B3 := qB3
        have B4 := qB4
        have B5 := qB5
        have hb := qhb
        clear qB0 qB2 qB3 qB4 qB5 qhb
        try simp only [Act.put, List.setIfInBounds_toArray, List.set_cons_zero, List.set_cons_succ]
        go_wp2_with fail
        go_roundw
        case rel => exact ⟨j + 1, by go_num, by omega, hb, B0, B2, B3, by rw [← HE.out]; exact B4, by rw [HNQ.out]; exact B5⟩
        case measure => simp [intOf] <;> omega
    · have hji : ¬ (j : Int) ≤ (NN : Int) - 1 := by omega
      obtain rfl : j = NN := by omega
      go_upto_region 7 with (first | (refine wpList_load_any rfl 23 (.tmp 5) rfl _ rfl 64 23 _ (B0) _ Try.underlying23 rfl Try.size23 ?_) | (go_at_call 73; refine (l01Deg_any a _).mono ?_; rintro e W4 ⟨rfl, hW4⟩; replace B0 := B0.below hW4 B0.lt; replace B2 := B2.below hW4 B2.lt; replace B3 := B3.below hW4 B3.lt; replace B4 := B4.below hW4 B4.lt; replace B5 := B5.below hW4 B5.lt; replace hb := (hb).trans (hW4.mono (hb).size); rw [HD.out]))
      have lt_B0 := B0.lt
      have lt_B2 := B2.lt
      have lt_B3 := B3.lt
      have lt_B4 := B4.lt
      have lt_B5 := B5.lt
      go_wp2_with (first | rw [← zero64] | (refine wpList_load_any rfl 23 (.tmp 9) rfl _ rfl 64 23 _ (B4) _ Try.underlying23 rfl Try.size23 ?_) | (refine wpList_store_blk rfl 23 (.tmp 8) (.tmp 35) rfl _ 64 (acS p m a (resP p f m) j) rfl rfl 23 _ (B3) Try.size23 ?_; try simp only [Act.put]))
      have qB0 : Blk (W4.setRow (w.heap.size + 1 + 1 + 1) (bcells 64 (acS p m a (resP p f m) j))) (w.heap.size) 64 23 (a) := (B0.rowOther (by omega))
      have qB2 : Blk (W4.setRow (w.heap.size + 1 + 1 + 1) (bcells 64 (acS p m a (resP p f m) j))) (w.heap.size + 1 + 1) 64 23 (m) := (B2.rowOther (by omega))
      have qB3 : Blk (W4.setRow (w.heap.size + 1 + 1 + 1) (bcells 64 (acS p m a (resP p f m) j))) (w.heap.size + 1 + 1 + 1) 64 23 (acS p m a (resP p f m) j) := (B3.row (acS p m a (resP p f m) j))
      have qB4 : Blk (W4.setRow (w.heap.size + 1 + 1 + 1) (bcells 64 (acS p m a (resP p f m) j))) (N1) 64 23 (acS p m a (resP p f m) j) := (B4.rowOther (by omega))
      have qB5 : Blk (W4.setRow (w.heap.size + 1 + 1 + 1) (bcells 64 (acS p m a (resP p f m) j))) (N1 + 1) 64 23 (acN p m (resP p f m) j) := (B5.rowOther (by omega))
      have qhb : Below w.heap.size w (W4.setRow (w.heap.size + 1 + 1 + 1) (bcells 64 (acS p m a (resP p f m) j))) := (below_row hb (by omega) _)
      obtain ⟨W5, hwo⟩ : ∃ v : World, v = (W4.setRow (w.heap.size + 1 + 1 + 1) (bcells 64 (acS p m a (resP p f m) j))) := ⟨_, rfl⟩
      rw [← hwo] at qB0 qB2 qB3 qB4 qB5 qhb ⊢
      clear hwo
      clear B0 B2 B3 B4 B5 hb
      have B0 := qB0
      have B2 := qB2
      have B3 := qB3
      have B4 := qB4
      have B5 := qB5
      have hb := qhb
      clear qB0 qB2 qB3 qB4 qB5 qhb
      try simp only [Act.put, List.setIfInBounds_toArray, List.set_cons_zero, List.set_cons_succ]
      refine bodyPost_ret (results_blk rfl _ _ _ 64 23 5 _ rfl B3 Try.underlying23 Try.size23) rfl ⟨by rw [HT.out], hb⟩
end Go.Proofs.Ytbjpkmbhbpcbgaa
