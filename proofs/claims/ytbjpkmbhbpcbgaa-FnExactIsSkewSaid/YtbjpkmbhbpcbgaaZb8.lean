/-
  What the rows of this claim rest on: arrays of bytes, walks of the functions, plain mathematics.
-/
import Derived.Test.YtbjpkmbhbpcbgaaZb7
section
namespace Go.Proofs.Ytbjpkmbhbpcbgaa
open Go Go.RowKit
set_option linter.unusedVariables false
set_option linter.unusedSimpArgs false
set_option maxRecDepth 100000 in
set_option maxHeartbeats 1600000 in
theorem FnExactAddSkews_walk (p : Int) (m : Nat → Nat) (F : Nat → Nat → Nat) (G : Nat → Nat → Nat) (hm : byte m) (hF : ∀ i, byte (F i)) (hG : ∀ i, byte (G i)) (w : World) :
    Calls Try.prog 7 #[.int .i64 p, .agg (bcells 64 m), .agg (bcells 512 (fl 64 F)), .agg (bcells 512 (fl 64 G))] w fun e w' => e = .returned (.bool true) ∧ Below w.heap.size w w' := by
  go_enter Try.func7, Try.ntmps7
  go_upto_region 1 with (fail)
  obtain ⟨W1, hwo⟩ : ∃ v : World, v = (((w.alloc (.cells (bcells 64 (m)) 22)).alloc (.cells (bcells 512 (fl 64 F)) 31)).alloc (.cells (bcells 512 (fl 64 G)) 31)) := ⟨_, rfl⟩
  have B0 : Blk W1 (w.heap.size) 64 22 (m) := by subst hwo; have := (((Blk.new w 64 22 (m)).alloc (.cells (bcells 512 (fl 64 F)) 31)).alloc (.cells (bcells 512 (fl 64 G)) 31)); simpa using this
  have B1 : Blk W1 (w.heap.size + 1) 512 31 (fl 64 F) := by subst hwo; have := ((Blk.new (w.alloc (.cells (bcells 64 (m)) 22)) 512 31 (fl 64 F)).alloc (.cells (bcells 512 (fl 64 G)) 31)); simpa using this
  have B2 : Blk W1 (w.heap.size + 1 + 1) 512 31 (fl 64 G) := by subst hwo; have := (Blk.new ((w.alloc (.cells (bcells 64 (m)) 22)).alloc (.cells (bcells 512 (fl 64 F)) 31)) 512 31 (fl 64 G)); simpa using this
  have hb : Below w.heap.size w W1 := by subst hwo; exact ((((Below.refl _ _).alloc (Nat.le_refl _) _).alloc (by simp) _).alloc (by simp; omega) _)
  rw [← hwo]
  clear hwo
  have hne1 : (((asV p m F G).2) != ((asV p m F G).2)) = false := by simp
  have lt_B0 : (w.heap.size) < W1.heap.size := B0.lt
  have lt_B1 : (w.heap.size + 1) < W1.heap.size := B1.lt
  have lt_B2 : (w.heap.size + 1 + 1) < W1.heap.size := B2.lt
  have hbase : w.heap.size ≤ W1.heap.size := hb.size
  refine wp_region_steps0 Try.mixed (by kernel_rfl) (by kernel_rfl) (fun v => by (simp only [frL, Act.put, List.setIfInBounds_toArray, List.set_cons_zero, List.set_cons_succ, Nat.reduceAdd, Nat.zero_add]; exact rfl))
    (fun L v W2 => Below w.heap.size w W2 ∧ W1.heap.size ≤ W2.heap.size ∧ Blk W2 (w.heap.size) 64 22 (m) ∧ Blk W2 (w.heap.size + 1) 512 31 (fl 64 F) ∧ Blk W2 (w.heap.size + 1 + 1) 512 31 (fl 64 G) ∧ (L 0 = true → v 0 = (.int .i64 p)) ∧ (L 1 = true → v 1 = (.agg (bcells 64 (m)))) ∧ (L 2 = true → v 2 = (.agg (bcells 64 (m)))) ∧ (L 3 = true → v 3 = (.agg (bcells 512 (fl 64 F)))) ∧ (L 4 = true → v 4 = (.agg (bcells 512 (fl 64 F)))) ∧ (L 5 = true → v 5 = (.agg (bcells 512 (fl 64 G)))) ∧ (L 6 = true → v 6 = (.agg (bcells 512 (fl 64 G)))) ∧ (L 7 = true → v 7 = (.tuple #[(.agg (bcells 512 (fl 64 ((asV p m F G).1)))), (.int .i64 ((asV p m F G).2))])) ∧ (L 8 = true → v 8 = (.tuple #[(.agg (bcells 512 (fl 64 ((asV p m F G).1)))), (.int .i64 ((asV p m F G).2))])) ∧ (L 9 = true → v 9 = (.agg (bcells 512 (fl 64 ((asV p m F G).1))))) ∧ (L 10 = true → v 10 = (.int .i64 ((asV p m F G).2))) ∧ (L 11 = true → AF (v 11) W2 W1.heap.size 512 34) ∧ (L 12 = true → PF (v 11) W2 W1.heap.size 512 34 (fl 64 ((asV p m F G).1))) ∧ (L 13 = true → v 13 = (.int .i64 ((asV p m F G).2)))) ?_ ?_ ?_
  · intro v hv0
    exact ⟨hb.drew, Nat.le_refl _, B0.drew, B1.drew, B2.drew, (fun h => by cases h), (fun h => by cases h), (fun h => by cases h), (fun h => by cases h), (fun h => by cases h), (fun h => by cases h), (fun h => by cases h), (fun h => by cases h), (fun h => by cases h), (fun h => by cases h), (fun h => by cases h), (fun h => by cases h), (fun h => by cases h), (fun h => by cases h)⟩
  · refine (.cons rfl ?_ (.cons rfl ?_ (.cons rfl ?_ (.cons rfl ?_ (.cons rfl ?_ (.cons rfl ?_ (.cons rfl ?_ (.cons rfl ?_ (.cons rfl ?_ (.cons rfl ?_ (.cons rfl ?_ (.cons rfl ?_ (.cons rfl ?_ (.cons rfl ?_ (.nil _)))))))))))))))
    · intro L v W2 hd hn ⟨hB, hz, s0, s1, s2, h0, h1, h2, h3, h4, h5, h6, h7, h8, h9, h10, h11, h12, h13⟩ K hK
      go_wp2_with fail
      exact hK _ (.int .i64 p) _ (by simp only [Act.put, List.setIfInBounds_toArray, List.set_cons_zero, List.set_cons_succ ]) ⟨hB, hz, s0, s1, s2, (fun _ => rfl), h1, h2, h3, h4, h5, h6, h7, h8, h9, h10, h11, h12, h13⟩
    · intro L v W2 hd hn ⟨hB, hz, s0, s1, s2, h0, h1, h2, h3, h4, h5, h6, h7, h8, h9, h10, h11, h12, h13⟩ K hK
      refine wp_load_any 22 _ rfl _ rfl 64 22 _ s0 _ Try.underlying22 rfl Try.size22 ?_
      exact hK _ _ _ rfl ⟨hB, hz, s0, s1, s2, h0, (fun _ => rfl), h2, h3, h4, h5, h6, h7, h8, h9, h10, h11, h12, h13⟩
    · intro L v W2 hd hn ⟨hB, hz, s0, s1, s2, h0, h1, h2, h3, h4, h5, h6, h7, h8, h9, h10, h11, h12, h13⟩ K hK
      have e1 := h1 (hd ⟨1, .data⟩ (by simp) rfl)
      go_wp2_with (go_at_call 24; refine (toPoly_any m hm _).mono ?_; rintro e wy ⟨rfl, hy⟩)
      exact hK _ (.agg (bcells 64 (m))) _ (by simp only [Act.put, List.setIfInBounds_toArray, List.set_cons_zero, List.set_cons_succ, e1]) ⟨hB.trans (hy.mono hB.size), (Nat.le_trans hz hy.size), (s0).below hy (s0).lt, (s1).below hy (s1).lt, (s2).below hy (s2).lt, h0, h1, (fun _ => rfl), h3, h4, h5, h6, h7, h8, h9, h10, (fun h => (h11 h).below hy), (fun h => (h12 h).below hy), h13⟩
    · intro L v W2 hd hn ⟨hB, hz, s0, s1, s2, h0, h1, h2, h3, h4, h5, h6, h7, h8, h9, h10, h11, h12, h13⟩ K hK
      refine wp_load_any 31 _ rfl _ rfl 512 31 _ s1 _ Try.underlying31 rfl Try.size31 ?_
      exact hK _ _ _ rfl ⟨hB, hz, s0, s1, s2, h0, h1, h2, (fun _ => rfl), h4, h5, h6, h7, h8, h9, h10, h11, h12, h13⟩
    · intro L v W2 hd hn ⟨hB, hz, s0, s1, s2, h0, h1, h2, h3, h4, h5, h6, h7, h8, h9, h10, h11, h12, h13⟩ K hK
      have e3 := h3 (hd ⟨3, .data⟩ (by simp) rfl)
      go_wp2_with (go_at_call 30; refine (toSkew_any F hF _).mono ?_; rintro e wy ⟨rfl, hy⟩)
      exact hK _ (.agg (bcells 512 (fl 64 F))) _ (by simp only [Act.put, List.setIfInBounds_toArray, List.set_cons_zero, List.set_cons_succ, e3]) ⟨hB.trans (hy.mono hB.size), (Nat.le_trans hz hy.size), (s0).below hy (s0).lt, (s1).below hy (s1).lt, (s2).below hy (s2).lt, h0, h1, h2, h3, (fun _ => rfl), h5, h6, h7, h8, h9, h10, (fun h => (h11 h).below hy), (fun h => (h12 h).below hy), h13⟩
    · intro L v W2 hd hn ⟨hB, hz, s0, s1, s2, h0, h1, h2, h3, h4, h5, h6, h7, h8, h9, h10, h11, h12, h13⟩ K hK
      refine wp_load_any 31 _ rfl _ rfl 512 31 _ s2 _ Try.underlying31 rfl Try.size31 ?_
      exact hK _ _ _ rfl ⟨hB, hz, s0, s1, s2, h0, h1, h2, h3, h4, (fun _ => rfl), h6, h7, h8, h9, h10, h11, h12, h13⟩
    · intro L v W2 hd hn ⟨hB, hz, s0, s1, s2, h0, h1, h2, h3, h4, h5, h6, h7, h8, h9, h10, h11, h12, h13⟩ K hK
      have e5 := h5 (hd ⟨5, .data⟩ (by simp) rfl)
      go_wp2_with (go_at_call 30; refine (toSkew_any G hG _).mono ?_; rintro e wy ⟨rfl, hy⟩)
      exact hK _ (.agg (bcells 512 (fl 64 G))) _ (by simp only [Act.put, List.setIfInBounds_toArray, List.set_cons_zero, List.set_cons_succ, e5]) ⟨hB.trans (hy.mono hB.size), (Nat.le_trans hz hy.size), (s0).below hy (s0).lt, (s1).below hy (s1).lt, (s2).below hy (s2).lt, h0, h1, h2, h3, h4, h5, (fun _ => rfl), h7, h8, h9, h10, (fun h => (h11 h).below hy), (fun h => (h12 h).below hy), h13⟩
    · intro L v W2 hd hn ⟨hB, hz, s0, s1, s2, h0, h1, h2, h3, h4, h5, h6, h7, h8, h9, h10, h11, h12, h13⟩ K hK
      have e0 := h0 (hd ⟨0, .data⟩ (by simp) rfl)
      have e2 := h2 (hd ⟨2, .data⟩ (by simp) rfl)
      have e4 := h4 (hd ⟨4, .data⟩ (by simp) rfl)
      have e6 := h6 (hd ⟨6, .data⟩ (by simp) rfl)
      go_wp2_with (go_at_call 34; refine (spec_AddSkews_any p m F G hm hF hG _).mono ?_; rintro e wy ⟨rfl, hy⟩)
      exact hK _ (.tuple #[(.agg (bcells 512 (fl 64 ((asV p m F G).1)))), (.int .i64 ((asV p m F G).2))]) _ (by simp only [Act.put, List.setIfInBounds_toArray, List.set_cons_zero, List.set_cons_succ, e0, e2, e4, e6]) ⟨hB.trans (hy.mono hB.size), (Nat.le_trans hz hy.size), (s0).below hy (s0).lt, (s1).below hy (s1).lt, (s2).below hy (s2).lt, h0, h1, h2, h3, h4, h5, h6, (fun _ => rfl), h8, h9, h10, (fun h => (h11 h).below hy), (fun h => (h12 h).below hy), h13⟩
    · intro L v W2 hd hn ⟨hB, hz, s0, s1, s2, h0, h1, h2, h3, h4, h5, h6, h7, h8, h9, h10, h11, h12, h13⟩ K hK
      have e7 := h7 (hd ⟨7, .data⟩ (by simp) rfl)
      go_wp2_with fail
      exact hK _ (.tuple #[(.agg (bcells 512 (fl 64 ((asV p m F G).1)))), (.int .i64 ((asV p m F G).2))]) _ (by simp only [Act.put, List.setIfInBounds_toArray, List.set_cons_zero, List.set_cons_succ, e7]) ⟨hB, hz, s0, s1, s2, h0, h1, h2, h3, h4, h5, h6, h7, (fun _ => rfl), h9, h10, h11, h12, h13⟩
    · intro L v W2 hd hn ⟨hB, hz, s0, s1, s2, h0, h1, h2, h3, h4, h5, h6, h7, h8, h9, h10, h11, h12, h13⟩ K hK
      have e8 := h8 (hd ⟨8, .data⟩ (by simp) rfl)
      go_wp2_with fail
      exact hK _ (.agg (bcells 512 (fl 64 ((asV p m F G).1)))) _ (by simp only [Act.put, List.setIfInBounds_toArray, List.set_cons_zero, List.set_cons_succ, e8]) ⟨hB, hz, s0, s1, s2, h0, h1, h2, h3, h4, h5, h6, h7, h8, (fun _ => rfl), h10, h11, h12, h13⟩
    · intro L v W2 hd hn ⟨hB, hz, s0, s1, s2, h0, h1, h2, h3, h4, h5, h6, h7, h8, h9, h10, h11, h12, h13⟩ K hK
      have e8 := h8 (hd ⟨8, .data⟩ (by simp) rfl)
      go_wp2_with fail
      exact hK _ (.int .i64 ((asV p m F G).2)) _ (by simp only [Act.put, List.setIfInBounds_toArray, List.set_cons_zero, List.set_cons_succ, e8]) ⟨hB, hz, s0, s1, s2, h0, h1, h2, h3, h4, h5, h6, h7, h8, h9, (fun _ => rfl), h11, h12, h13⟩
    · intro L v W2 hd hn ⟨hB, hz, s0, s1, s2, h0, h1, h2, h3, h4, h5, h6, h7, h8, h9, h10, h11, h12, h13⟩ K hK
      go_wp2_with fail
      rw [← zero512]
      exact hK _ (.pointer (some ⟨W2.heap.size, 0, none⟩)) _ (by simp only [Act.put, List.setIfInBounds_toArray, List.set_cons_zero, List.set_cons_succ ]) ⟨hB.alloc hB.size _, (by simp; omega), (s0).alloc _, (s1).alloc _, (s2).alloc _, h0, h1, h2, h3, h4, h5, h6, h7, h8, h9, h10, (fun _ => (PF.new W2 512 34 _ hz).af), (fun h => absurd rfl (hn 12 _ rfl h ⟨11, .data⟩ (by simp) rfl)), h13⟩
    · intro L v W2 hd hn ⟨hB, hz, s0, s1, s2, h0, h1, h2, h3, h4, h5, h6, h7, h8, h9, h10, h11, h12, h13⟩ K hK
      have e9 := h9 (hd ⟨9, .data⟩ (by simp) rfl)
      obtain ⟨gz, b, ea, hN, hk⟩ := (h11 (hd ⟨11, .data⟩ (by simp) rfl)).out
      refine wp_store_blk 34 _ _ rfl b 512 (fl 64 ((asV p m F G).1)) ea e9 34 gz hk Try.size34 ?_
      exact hK _ undef _ rfl ⟨below_row hB (Nat.le_trans hbase hN) _, (by simpa [World.setRow] using hz), (s0).rowOther (by omega), (s1).rowOther (by omega), (s2).rowOther (by omega), h0, h1, h2, h3, h4, h5, h6, h7, h8, h9, h10, (fun h => (h11 h).row hk), (fun _ => by rw [show updV v 12 undef 11 = v 11 from rfl, ea]; exact PF.row hk hN _), h13⟩
    · intro L v W2 hd hn ⟨hB, hz, s0, s1, s2, h0, h1, h2, h3, h4, h5, h6, h7, h8, h9, h10, h11, h12, h13⟩ K hK
      have e10 := h10 (hd ⟨10, .data⟩ (by simp) rfl)
      go_wp2_with fail
      exact hK _ (.int .i64 ((asV p m F G).2)) _ (by simp only [Act.put, List.setIfInBounds_toArray, List.set_cons_zero, List.set_cons_succ, e10]) ⟨hB, hz, s0, s1, s2, h0, h1, h2, h3, h4, h5, h6, h7, h8, h9, h10, h11, h12, (fun _ => rfl)⟩
  · intro L v W2 hL ⟨hB, hz, s0, s1, s2, h0, h1, h2, h3, h4, h5, h6, h7, h8, h9, h10, h11, h12, h13⟩
    have e0 := h0 (hL 0 (by decide))
    have e1 := h1 (hL 1 (by decide))
    have e2 := h2 (hL 2 (by decide))
    have e3 := h3 (hL 3 (by decide))
    have e4 := h4 (hL 4 (by decide))
    have e5 := h5 (hL 5 (by decide))
    have e6 := h6 (hL 6 (by decide))
    have e7 := h7 (hL 7 (by decide))
    have e8 := h8 (hL 8 (by decide))
    have e9 := h9 (hL 9 (by decide))
    have e10 := h10 (hL 10 (by decide))
    obtain ⟨k1_11, e11, hNk1_11, hk1_11⟩ := (h12 (hL 12 (by decide))).out
    have e13 := h13 (hL 13 (by decide))
    clear hL h0 h1 h2 h3 h4 h5 h6 h7 h8 h9 h10 h11 h12 h13
    simp only [Exit.then, e0, e1, e2, e3, e4, e5, e6, e7, e8, e9, e10, e11, e13]
    clear e0 e1 e2 e3 e4 e5 e6 e7 e8 e9 e10 e11 e13
    clear B0
    have B0 := s0
    clear s0
    clear B1
    have B1 := s1
    clear s1
    clear B2
    have B2 := s2
    clear s2
    clear hb
    have hb := hB
    clear hB
    have B3 := hk1_11
    clear hk1_11
    have zk1_11_0 : w.heap.size < k1_11 := by omega
    have zk1_11_1 : w.heap.size + 1 < k1_11 := by omega
    have zk1_11_2 : w.heap.size + 1 + 1 < k1_11 := by omega
    clear hbase hz lt_B0 lt_B1 lt_B2
    go_upto_region 2 with (fail)
    have lt_B0 : (w.heap.size) < W2.heap.size := B0.lt
    have lt_B1 : (w.heap.size + 1) < W2.heap.size := B1.lt
    have lt_B2 : (w.heap.size + 1 + 1) < W2.heap.size := B2.lt
    have lt_B3 : (k1_11) < W2.heap.size := B3.lt
    have hbase : w.heap.size ≤ W2.heap.size := hb.size
    refine wp_region_steps0 Try.mixed (by kernel_rfl) (by kernel_rfl) (fun v => by (simp only [frL, Act.put, List.setIfInBounds_toArray, List.set_cons_zero, List.set_cons_succ, Nat.reduceAdd, Nat.zero_add]; exact rfl))
      (fun L v W3 => Below w.heap.size w W3 ∧ W2.heap.size ≤ W3.heap.size ∧ Blk W3 (w.heap.size) 64 22 (m) ∧ Blk W3 (w.heap.size + 1) 512 31 (fl 64 F) ∧ Blk W3 (w.heap.size + 1 + 1) 512 31 (fl 64 G) ∧ Blk W3 (k1_11) 512 34 (fl 64 ((asV p m F G).1)) ∧ (L 0 = true → v 0 = (.int .i64 p)) ∧ (L 1 = true → v 1 = (.agg (bcells 64 (m)))) ∧ (L 2 = true → v 2 = (.agg (bcells 64 (m)))) ∧ (L 3 = true → v 3 = (.agg (bcells 512 (fl 64 F)))) ∧ (L 4 = true → v 4 = (.agg (bcells 512 (fl 64 F)))) ∧ (L 5 = true → v 5 = (.agg (bcells 512 (fl 64 G)))) ∧ (L 6 = true → v 6 = (.agg (bcells 512 (fl 64 G)))) ∧ (L 7 = true → v 7 = (.tuple #[(.agg (bcells 512 (fl 64 ((asV p m F G).1)))), (.int .i64 ((asV p m F G).2))])) ∧ (L 8 = true → v 8 = (.tuple #[(.agg (bcells 512 (fl 64 ((asV p m F G).1)))), (.int .i64 ((asV p m F G).2))])) ∧ (L 9 = true → v 9 = (.agg (bcells 512 (fl 64 ((asV p m F G).1))))) ∧ (L 10 = true → v 10 = (.int .i64 ((asV p m F G).2))) ∧ (L 11 = true → AF (v 11) W3 W2.heap.size 512 34) ∧ (L 12 = true → PF (v 11) W3 W2.heap.size 512 34 (fl 64 ((asV p m F G).1))) ∧ (L 13 = true → v 13 = (.int .i64 ((asV p m F G).2)))) ?_ ?_ ?_
    · intro v hv0
      exact ⟨hb.drew, Nat.le_refl _, B0.drew, B1.drew, B2.drew, B3.drew, (fun h => by cases h), (fun h => by cases h), (fun h => by cases h), (fun h => by cases h), (fun h => by cases h), (fun h => by cases h), (fun h => by cases h), (fun h => by cases h), (fun h => by cases h), (fun h => by cases h), (fun h => by cases h), (fun h => by cases h), (fun h => by cases h), (fun h => by cases h)⟩
    · refine (.cons rfl ?_ (.cons rfl ?_ (.cons rfl ?_ (.cons rfl ?_ (.cons rfl ?_ (.cons rfl ?_ (.cons rfl ?_ (.cons rfl ?_ (.cons rfl ?_ (.cons rfl ?_ (.cons rfl ?_ (.cons rfl ?_ (.cons rfl ?_ (.cons rfl ?_ (.nil _)))))))))))))))
      · intro L v W3 hd hn ⟨hB, hz, s0, s1, s2, s3, h0, h1, h2, h3, h4, h5, h6, h7, h8, h9, h10, h11, h12, h13⟩ K hK
        go_wp2_with fail
        exact hK _ (.int .i64 p) _ (by simp only [Act.put, List.setIfInBounds_toArray, List.set_cons_zero, List.set_cons_succ ]) ⟨hB, hz, s0, s1, s2, s3, (fun _ => rfl), h1, h2, h3, h4, h5, h6, h7, h8, h9, h10, h11, h12, h13⟩
      · intro L v W3 hd hn ⟨hB, hz, s0, s1, s2, s3, h0, h1, h2, h3, h4, h5, h6, h7, h8, h9, h10, h11, h12, h13⟩ K hK
        refine wp_load_any 22 _ rfl _ rfl 64 22 _ s0 _ Try.underlying22 rfl Try.size22 ?_
        exact hK _ _ _ rfl ⟨hB, hz, s0, s1, s2, s3, h0, (fun _ => rfl), h2, h3, h4, h5, h6, h7, h8, h9, h10, h11, h12, h13⟩
      · intro L v W3 hd hn ⟨hB, hz, s0, s1, s2, s3, h0, h1, h2, h3, h4, h5, h6, h7, h8, h9, h10, h11, h12, h13⟩ K hK
        have e1 := h1 (hd ⟨1, .data⟩ (by simp) rfl)
        go_wp2_with (go_at_call 24; refine (toPoly_any m hm _).mono ?_; rintro e wy ⟨rfl, hy⟩)
        exact hK _ (.agg (bcells 64 (m))) _ (by simp only [Act.put, List.setIfInBounds_toArray, List.set_cons_zero, List.set_cons_succ, e1]) ⟨hB.trans (hy.mono hB.size), (Nat.le_trans hz hy.size), (s0).below hy (s0).lt, (s1).below hy (s1).lt, (s2).below hy (s2).lt, (s3).below hy (s3).lt, h0, h1, (fun _ => rfl), h3, h4, h5, h6, h7, h8, h9, h10, (fun h => (h11 h).below hy), (fun h => (h12 h).below hy), h13⟩
      · intro L v W3 hd hn ⟨hB, hz, s0, s1, s2, s3, h0, h1, h2, h3, h4, h5, h6, h7, h8, h9, h10, h11, h12, h13⟩ K hK
        refine wp_load_any 31 _ rfl _ rfl 512 31 _ s1 _ Try.underlying31 rfl Try.size31 ?_
        exact hK _ _ _ rfl ⟨hB, hz, s0, s1, s2, s3, h0, h1, h2, (fun _ => rfl), h4, h5, h6, h7, h8, h9, h10, h11, h12, h13⟩
      · intro L v W3 hd hn ⟨hB, hz, s0, s1, s2, s3, h0, h1, h2, h3, h4, h5, h6, h7, h8, h9, h10, h11, h12, h13⟩ K hK
        have e3 := h3 (hd ⟨3, .data⟩ (by simp) rfl)
        go_wp2_with (go_at_call 30; refine (toSkew_any F hF _).mono ?_; rintro e wy ⟨rfl, hy⟩)
        exact hK _ (.agg (bcells 512 (fl 64 F))) _ (by simp only [Act.put, List.setIfInBounds_toArray, List.set_cons_zero, List.set_cons_succ, e3]) ⟨hB.trans (hy.mono hB.size), (Nat.le_trans hz hy.size), (s0).below hy (s0).lt, (s1).below hy (s1).lt, (s2).below hy (s2).lt, (s3).below hy (s3).lt, h0, h1, h2, h3, (fun _ => rfl), h5, h6, h7, h8, h9, h10, (fun h => (h11 h).below hy), (fun h => (h12 h).below hy), h13⟩
      · intro L v W3 hd hn ⟨hB, hz, s0, s1, s2, s3, h0, h1, h2, h3, h4, h5, h6, h7, h8, h9, h10, h11, h12, h13⟩ K hK
        refine wp_load_any 31 _ rfl _ rfl 512 31 _ s2 _ Try.underlying31 rfl Try.size31 ?_
        exact hK _ _ _ rfl ⟨hB, hz, s0, s1, s2, s3, h0, h1, h2, h3, h4, (fun _ => rfl), h6, h7, h8, h9, h10, h11, h12, h13⟩
      · intro L v W3 hd hn ⟨hB, hz, s0, s1, s2, s3, h0, h1, h2, h3, h4, h5, h6, h7, h8, h9, h10, h11, h12, h13⟩ K hK
        have e5 := h5 (hd ⟨5, .data⟩ (by simp) rfl)
        go_wp2_with (go_at_call 30; refine (toSkew_any G hG _).mono ?_; rintro e wy ⟨rfl, hy⟩)
        exact hK _ (.agg (bcells 512 (fl 64 G))) _ (by simp only [Act.put, List.setIfInBounds_toArray, List.set_cons_zero, List.set_cons_succ, e5]) ⟨hB.trans (hy.mono hB.size), (Nat.le_trans hz hy.size), (s0).below hy (s0).lt, (s1).below hy (s1).lt, (s2).below hy (s2).lt, (s3).below hy (s3).lt, h0, h1, h2, h3, h4, h5, (fun _ => rfl), h7, h8, h9, h10, (fun h => (h11 h).below hy), (fun h => (h12 h).below hy), h13⟩
      · intro L v W3 hd hn ⟨hB, hz, s0, s1, s2, s3, h0, h1, h2, h3, h4, h5, h6, h7, h8, h9, h10, h11, h12, h13⟩ K hK
        have e0 := h0 (hd ⟨0, .data⟩ (by simp) rfl)
        have e2 := h2 (hd ⟨2, .data⟩ (by simp) rfl)
        have e4 := h4 (hd ⟨4, .data⟩ (by simp) rfl)
        have e6 := h6 (hd ⟨6, .data⟩ (by simp) rfl)
        go_wp2_with (go_at_call 35; refine (impl_AddSkews_any p m F G hm hF hG _).mono ?_; rintro e wy ⟨rfl, hy⟩)
        exact hK _ (.tuple #[(.agg (bcells 512 (fl 64 ((asV p m F G).1)))), (.int .i64 ((asV p m F G).2))]) _ (by simp only [Act.put, List.setIfInBounds_toArray, List.set_cons_zero, List.set_cons_succ, e0, e2, e4, e6]) ⟨hB.trans (hy.mono hB.size), (Nat.le_trans hz hy.size), (s0).below hy (s0).lt, (s1).below hy (s1).lt, (s2).below hy (s2).lt, (s3).below hy (s3).lt, h0, h1, h2, h3, h4, h5, h6, (fun _ => rfl), h8, h9, h10, (fun h => (h11 h).below hy), (fun h => (h12 h).below hy), h13⟩
      · intro L v W3 hd hn ⟨hB, hz, s0, s1, s2, s3, h0, h1, h2, h3, h4, h5, h6, h7, h8, h9, h10, h11, h12, h13⟩ K hK
        have e7 := h7 (hd ⟨7, .data⟩ (by simp) rfl)
        go_wp2_with fail
        exact hK _ (.tuple #[(.agg (bcells 512 (fl 64 ((asV p m F G).1)))), (.int .i64 ((asV p m F G).2))]) _ (by simp only [Act.put, List.setIfInBounds_toArray, List.set_cons_zero, List.set_cons_succ, e7]) ⟨hB, hz, s0, s1, s2, s3, h0, h1, h2, h3, h4, h5, h6, h7, (fun _ => rfl), h9, h10, h11, h12, h13⟩
      · intro L v W3 hd hn ⟨hB, hz, s0, s1, s2, s3, h0, h1, h2, h3, h4, h5, h6, h7, h8, h9, h10, h11, h12, h13⟩ K hK
        have e8 := h8 (hd ⟨8, .data⟩ (by simp) rfl)
        go_wp2_with fail
        exact hK _ (.agg (bcells 512 (fl 64 ((asV p m F G).1)))) _ (by simp only [Act.put, List.setIfInBounds_toArray, List.set_cons_zero, List.set_cons_succ, e8]) ⟨hB, hz, s0, s1, s2, s3, h0, h1, h2, h3, h4, h5, h6, h7, h8, (fun _ => rfl), h10, h11, h12, h13⟩
      · intro L v W3 hd hn ⟨hB, hz, s0, s1, s2, s3, h0, h1, h2, h3, h4, h5, h6, h7, h8, h9, h10, h11, h12, h13⟩ K hK
        have e8 := h8 (hd ⟨8, .data⟩ (by simp) rfl)
        go_wp2_with fail
        exact hK _ (.int .i64 ((asV p m F G).2)) _ (by simp only [Act.put, List.setIfInBounds_toArray, List.set_cons_zero, List.set_cons_succ, e8]) ⟨hB, hz, s0, s1, s2, s3, h0, h1, h2, h3, h4, h5, h6, h7, h8, h9, (fun _ => rfl), h11, h12, h13⟩
      · intro L v W3 hd hn ⟨hB, hz, s0, s1, s2, s3, h0, h1, h2, h3, h4, h5, h6, h7, h8, h9, h10, h11, h12, h13⟩ K hK
        go_wp2_with fail
        rw [← zero512]
        exact hK _ (.pointer (some ⟨W3.heap.size, 0, none⟩)) _ (by simp only [Act.put, List.setIfInBounds_toArray, List.set_cons_zero, List.set_cons_succ ]) ⟨hB.alloc hB.size _, (by simp; omega), (s0).alloc _, (s1).alloc _, (s2).alloc _, (s3).alloc _, h0, h1, h2, h3, h4, h5, h6, h7, h8, h9, h10, (fun _ => (PF.new W3 512 34 _ hz).af), (fun h => absurd rfl (hn 12 _ rfl h ⟨11, .data⟩ (by simp) rfl)), h13⟩
      · intro L v W3 hd hn ⟨hB, hz, s0, s1, s2, s3, h0, h1, h2, h3, h4, h5, h6, h7, h8, h9, h10, h11, h12, h13⟩ K hK
        have e9 := h9 (hd ⟨9, .data⟩ (by simp) rfl)
        obtain ⟨gz, b, ea, hN, hk⟩ := (h11 (hd ⟨11, .data⟩ (by simp) rfl)).out
        refine wp_store_blk 34 _ _ rfl b 512 (fl 64 ((asV p m F G).1)) ea e9 34 gz hk Try.size34 ?_
        exact hK _ undef _ rfl ⟨below_row hB (Nat.le_trans hbase hN) _, (by simpa [World.setRow] using hz), (s0).rowOther (by omega), (s1).rowOther (by omega), (s2).rowOther (by omega), (s3).rowOther (by omega), h0, h1, h2, h3, h4, h5, h6, h7, h8, h9, h10, (fun h => (h11 h).row hk), (fun _ => by rw [show updV v 12 undef 11 = v 11 from rfl, ea]; exact PF.row hk hN _), h13⟩
      · intro L v W3 hd hn ⟨hB, hz, s0, s1, s2, s3, h0, h1, h2, h3, h4, h5, h6, h7, h8, h9, h10, h11, h12, h13⟩ K hK
        have e10 := h10 (hd ⟨10, .data⟩ (by simp) rfl)
        go_wp2_with fail
        exact hK _ (.int .i64 ((asV p m F G).2)) _ (by simp only [Act.put, List.setIfInBounds_toArray, List.set_cons_zero, List.set_cons_succ, e10]) ⟨hB, hz, s0, s1, s2, s3, h0, h1, h2, h3, h4, h5, h6, h7, h8, h9, h10, h11, h12, (fun _ => rfl)⟩
    · intro L v W3 hL ⟨hB, hz, s0, s1, s2, s3, h0, h1, h2, h3, h4, h5, h6, h7, h8, h9, h10, h11, h12, h13⟩
      have e0 := h0 (hL 0 (by decide))
      have e1 := h1 (hL 1 (by decide))
      have e2 := h2 (hL 2 (by decide))
      have e3 := h3 (hL 3 (by decide))
      have e4 := h4 (hL 4 (by decide))
      have e5 := h5 (hL 5 (by decide))
      have e6 := h6 (hL 6 (by decide))
      have e7 := h7 (hL 7 (by decide))
      have e8 := h8 (hL 8 (by decide))
      have e9 := h9 (hL 9 (by decide))
      have e10 := h10 (hL 10 (by decide))
      obtain ⟨k2_11, e11, hNk2_11, hk2_11⟩ := (h12 (hL 12 (by decide))).out
      have e13 := h13 (hL 13 (by decide))
      clear hL h0 h1 h2 h3 h4 h5 h6 h7 h8 h9 h10 h11 h12 h13
      simp only [Exit.then, e0, e1, e2, e3, e4, e5, e6, e7, e8, e9, e10, e11, e13]
      clear e0 e1 e2 e3 e4 e5 e6 e7 e8 e9 e10 e11 e13
      clear B0
      have B0 := s0
      clear s0
      clear B1
      have B1 := s1
      clear s1
      clear B2
      have B2 := s2
      clear s2
      clear B3
      have B3 := s3
      clear s3
      clear hb
      have hb := hB
      clear hB
      have B4 := hk2_11
      clear hk2_11
      have zk2_11_0 : w.heap.size < k2_11 := by omega
      have zk2_11_1 : w.heap.size + 1 < k2_11 := by omega
      have zk2_11_2 : w.heap.size + 1 + 1 < k2_11 := by omega
      have zk2_11_3 : k1_11 < k2_11 := by omega
      clear hbase hz lt_B0 lt_B1 lt_B2 lt_B3
      go_upto_region 3 with (fail)
      go_wp2_with (first | (refine wpList_load_any rfl 34 (.tmp 11) rfl _ rfl 512 34 _ (B4) _ Try.underlying34 rfl Try.size34 ?_) | (refine wpList_load_any rfl 34 (.tmp 9) rfl _ rfl 512 34 _ (B3) _ Try.underlying34 rfl Try.size34 ?_) | (go_at_call 36; refine (eqSkew_same _ _ (fun _ _ _ _ => rfl) _).mono ?_; rintro e W4 ⟨rfl, hW4⟩; replace B0 := B0.below hW4 B0.lt; replace B1 := B1.below hW4 B1.lt; replace B2 := B2.below hW4 B2.lt; replace B3 := B3.below hW4 B3.lt; replace B4 := B4.below hW4 B4.lt; replace hb := (hb).trans (hW4.mono (hb).size)))
      go_ret
      exact ⟨rfl, hb⟩
end Go.Proofs.Ytbjpkmbhbpcbgaa
end
