/-
  Walks of the exact laws.
-/
import Derived.Test.YtbjpkmbhbpcbgaaW65
import Derived.Test.YtbjpkmbhbpcbgaaInv
namespace Go.Proofs.Ytbjpkmbhbpcbgaa
open Go.RowKit
set_option linter.unusedVariables false
set_option linter.unusedSimpArgs false
set_option maxRecDepth 100000 in
set_option maxHeartbeats 1600000 in
theorem FnExactDeepRest_walk (p : Int) (x : Nat → Nat) (m : Nat → Nat) (hx : byte x) (hm : byte m) (w : World) :
    Calls Try.prog 15 #[.int .i64 p, .agg (bcells 64 x), .agg (bcells 64 m)] w fun e w' => e = .returned (.bool true) ∧ Below w.heap.size w w' := by
  go_enter Try.func15, Try.ntmps15
  go_upto_region 1 with (fail)
  obtain ⟨wo, hwo⟩ : ∃ wo : World, wo = ((w.alloc (.cells (bcells 64 x) 22)).alloc (.cells (bcells 64 m) 22)) := ⟨_, rfl⟩
  have bx : Blk wo (w.heap.size) 64 22 x := by subst hwo; have := ((Blk.new w 64 22 x).alloc (.cells (bcells 64 m) 22)); simpa using this
  have bm : Blk wo (w.heap.size + 1) 64 22 m := by subst hwo; have := (Blk.new (w.alloc (.cells (bcells 64 x) 22)) 64 22 m); simpa using this
  have hb : Below w.heap.size w wo := by subst hwo; exact (((Below.refl _ _).alloc (Nat.le_refl _) _).alloc (by simp) _)
  rw [← hwo]
  clear hwo
  refine wp_region_steps Try.mixed (by kernel_rfl) (by kernel_rfl) (fun v => by (simp only [frL, Act.put, List.setIfInBounds_toArray, List.set_cons_zero, List.set_cons_succ, Nat.reduceAdd, Nat.zero_add]; exact rfl))
    (fun L v w1 => Below wo.heap.size wo w1 ∧ (L 0 = true → v 0 = (.int .i64 p)) ∧ (L 1 = true → v 1 = (.agg (bcells 64 (x)))) ∧ (L 2 = true → v 2 = (.agg (bcells 64 (x)))) ∧ (L 3 = true → v 3 = (.agg (bcells 64 (m)))) ∧ (L 4 = true → v 4 = (.agg (bcells 64 (m)))) ∧ (L 5 = true → v 5 = (.tuple #[(.agg (bcells 64 ((drV p x m).1))), (.int .i64 ((drV p x m).2))])) ∧ (L 6 = true → v 6 = (.tuple #[(.agg (bcells 64 ((drV p x m).1))), (.int .i64 ((drV p x m).2))])) ∧ (L 7 = true → v 7 = (.agg (bcells 64 ((drV p x m).1)))) ∧ (L 8 = true → v 8 = (.int .i64 ((drV p x m).2))) ∧ (L 9 = true → AF (v 9) w1 wo.heap.size 64 23) ∧ (L 10 = true → PF (v 9) w1 wo.heap.size 64 23 ((drV p x m).1)) ∧ (L 11 = true → v 11 = (.int .i64 ((drV p x m).2)))) ?_ ?_ ?_
  · intro v
    exact ⟨(Below.refl _ _).drew, (fun h => by cases h), (fun h => by cases h), (fun h => by cases h), (fun h => by cases h), (fun h => by cases h), (fun h => by cases h), (fun h => by cases h), (fun h => by cases h), (fun h => by cases h), (fun h => by cases h), (fun h => by cases h), (fun h => by cases h)⟩
  · refine (.cons rfl ?_ (.cons rfl ?_ (.cons rfl ?_ (.cons rfl ?_ (.cons rfl ?_ (.cons rfl ?_ (.cons rfl ?_ (.cons rfl ?_ (.cons rfl ?_ (.cons rfl ?_ (.cons rfl ?_ (.cons rfl ?_ (.nil _)))))))))))))
    · intro L v w1 hd hn ⟨hS1, h0, h1, h2, h3, h4, h5, h6, h7, h8, h9, h10, h11⟩ K hK
      go_wp2_with fail
      exact hK _ (.int .i64 p) _ (by simp only [Act.put, List.setIfInBounds_toArray, List.set_cons_zero, List.set_cons_succ ]) ⟨hS1, fun _ => rfl, h1, h2, h3, h4, h5, h6, h7, h8, h9, h10, h11⟩
    · intro L v w1 hd hn ⟨hS1, h0, h1, h2, h3, h4, h5, h6, h7, h8, h9, h10, h11⟩ K hK
      refine wp_load_blk 22 _ rfl _ rfl 64 22 _ (bx.below hS1 bx.lt) _ Try.underlying22 Try.size22 ?_
      exact hK _ _ _ rfl ⟨hS1, h0, fun _ => rfl, h2, h3, h4, h5, h6, h7, h8, h9, h10, h11⟩
    · intro L v w1 hd hn ⟨hS1, h0, h1, h2, h3, h4, h5, h6, h7, h8, h9, h10, h11⟩ K hK
      have e1 := h1 (hd ⟨1, .data⟩ (by simp) rfl)
      go_wp2_with (go_at_call 24; refine (toPoly_any _ hx _).mono ?_; rintro e w1y ⟨rfl, hy⟩)
      exact hK _ (.agg (bcells 64 (x))) _ (by simp only [Act.put, List.setIfInBounds_toArray, List.set_cons_zero, List.set_cons_succ, e1]) ⟨hS1.trans (hy.mono hS1.size), h0, h1, fun _ => rfl, h3, h4, h5, h6, h7, h8, fun h => (h9 h).below hy, fun h => (h10 h).below hy, h11⟩
    · intro L v w1 hd hn ⟨hS1, h0, h1, h2, h3, h4, h5, h6, h7, h8, h9, h10, h11⟩ K hK
      refine wp_load_blk 22 _ rfl _ rfl 64 22 _ (bm.below hS1 bm.lt) _ Try.underlying22 Try.size22 ?_
      exact hK _ _ _ rfl ⟨hS1, h0, h1, h2, fun _ => rfl, h4, h5, h6, h7, h8, h9, h10, h11⟩
    · intro L v w1 hd hn ⟨hS1, h0, h1, h2, h3, h4, h5, h6, h7, h8, h9, h10, h11⟩ K hK
      have e3 := h3 (hd ⟨3, .data⟩ (by simp) rfl)
      go_wp2_with (go_at_call 24; refine (toPoly_any _ hm _).mono ?_; rintro e w1y ⟨rfl, hy⟩)
      exact hK _ (.agg (bcells 64 (m))) _ (by simp only [Act.put, List.setIfInBounds_toArray, List.set_cons_zero, List.set_cons_succ, e3]) ⟨hS1.trans (hy.mono hS1.size), h0, h1, h2, h3, fun _ => rfl, h5, h6, h7, h8, fun h => (h9 h).below hy, fun h => (h10 h).below hy, h11⟩
    · intro L v w1 hd hn ⟨hS1, h0, h1, h2, h3, h4, h5, h6, h7, h8, h9, h10, h11⟩ K hK
      have e0 := h0 (hd ⟨0, .data⟩ (by simp) rfl)
      have e2 := h2 (hd ⟨2, .data⟩ (by simp) rfl)
      have e4 := h4 (hd ⟨4, .data⟩ (by simp) rfl)
      go_wp2_with (go_at_call 56; refine (spec_DeepRest_any p x m hx hm _).mono ?_; rintro e w1y ⟨rfl, hy⟩)
      exact hK _ (.tuple #[(.agg (bcells 64 ((drV p x m).1))), (.int .i64 ((drV p x m).2))]) _ (by simp only [Act.put, List.setIfInBounds_toArray, List.set_cons_zero, List.set_cons_succ, e0, e2, e4]) ⟨hS1.trans (hy.mono hS1.size), h0, h1, h2, h3, h4, fun _ => rfl, h6, h7, h8, fun h => (h9 h).below hy, fun h => (h10 h).below hy, h11⟩
    · intro L v w1 hd hn ⟨hS1, h0, h1, h2, h3, h4, h5, h6, h7, h8, h9, h10, h11⟩ K hK
      have e5 := h5 (hd ⟨5, .data⟩ (by simp) rfl)
      go_wp2_with fail
      exact hK _ (.tuple #[(.agg (bcells 64 ((drV p x m).1))), (.int .i64 ((drV p x m).2))]) _ (by simp only [Act.put, List.setIfInBounds_toArray, List.set_cons_zero, List.set_cons_succ, e5]) ⟨hS1, h0, h1, h2, h3, h4, h5, fun _ => rfl, h7, h8, h9, h10, h11⟩
    · intro L v w1 hd hn ⟨hS1, h0, h1, h2, h3, h4, h5, h6, h7, h8, h9, h10, h11⟩ K hK
      have e6 := h6 (hd ⟨6, .data⟩ (by simp) rfl)
      go_wp2_with fail
      exact hK _ (.agg (bcells 64 ((drV p x m).1))) _ (by simp only [Act.put, List.setIfInBounds_toArray, List.set_cons_zero, List.set_cons_succ, e6]) ⟨hS1, h0, h1, h2, h3, h4, h5, h6, fun _ => rfl, h8, h9, h10, h11⟩
    · intro L v w1 hd hn ⟨hS1, h0, h1, h2, h3, h4, h5, h6, h7, h8, h9, h10, h11⟩ K hK
      have e6 := h6 (hd ⟨6, .data⟩ (by simp) rfl)
      go_wp2_with fail
      exact hK _ (.int .i64 ((drV p x m).2)) _ (by simp only [Act.put, List.setIfInBounds_toArray, List.set_cons_zero, List.set_cons_succ, e6]) ⟨hS1, h0, h1, h2, h3, h4, h5, h6, h7, fun _ => rfl, h9, h10, h11⟩
    · intro L v w1 hd hn ⟨hS1, h0, h1, h2, h3, h4, h5, h6, h7, h8, h9, h10, h11⟩ K hK
      go_wp2_with fail
      rw [← zero64]
      exact hK _ (.pointer (some ⟨w1.heap.size, 0, none⟩)) _ (by simp only [Act.put, List.setIfInBounds_toArray, List.set_cons_zero, List.set_cons_succ ]) ⟨hS1.alloc hS1.size _, h0, h1, h2, h3, h4, h5, h6, h7, h8, fun _ => (PF.new w1 64 23 _ hS1.size).af, fun h => absurd rfl (hn 10 _ rfl h ⟨9, .data⟩ (by simp) rfl), h11⟩
    · intro L v w1 hd hn ⟨hS1, h0, h1, h2, h3, h4, h5, h6, h7, h8, h9, h10, h11⟩ K hK
      have e7 := h7 (hd ⟨7, .data⟩ (by simp) rfl)
      obtain ⟨gz, b, ea, hN, hk⟩ := (h9 (hd ⟨9, .data⟩ (by simp) rfl)).out
      refine wp_store_blk 23 _ _ rfl b 64 ((drV p x m).1) ea e7 23 gz hk Try.size23 ?_
      exact hK _ undef _ rfl ⟨below_row hS1 hN _, h0, h1, h2, h3, h4, h5, h6, h7, h8, fun h => (h9 h).row hk, fun _ => by rw [show updV v 10 undef 9 = v 9 from rfl, ea]; exact PF.row hk hN _, h11⟩
    · intro L v w1 hd hn ⟨hS1, h0, h1, h2, h3, h4, h5, h6, h7, h8, h9, h10, h11⟩ K hK
      have e8 := h8 (hd ⟨8, .data⟩ (by simp) rfl)
      go_wp2_with fail
      exact hK _ (.int .i64 ((drV p x m).2)) _ (by simp only [Act.put, List.setIfInBounds_toArray, List.set_cons_zero, List.set_cons_succ, e8]) ⟨hS1, h0, h1, h2, h3, h4, h5, h6, h7, h8, h9, h10, fun _ => rfl⟩
  · intro L v w1 hL ⟨hS1, h0, h1, h2, h3, h4, h5, h6, h7, h8, h9, h10, h11⟩
    have e0 := h0 (hL 0 (by decide))
    have e1 := h1 (hL 1 (by decide))
    have e2 := h2 (hL 2 (by decide))
    have e3 := h3 (hL 3 (by decide))
    have e4 := h4 (hL 4 (by decide))
    have e5 := h5 (hL 5 (by decide))
    have e6 := h6 (hL 6 (by decide))
    have e7 := h7 (hL 7 (by decide))
    have e8 := h8 (hL 8 (by decide))
    obtain ⟨b9, e9, hN9, hb9⟩ := (h10 (hL 10 (by decide))).out
    have e11 := h11 (hL 11 (by decide))
    clear hL h0 h1 h2 h3 h4 h5 h6 h7 h8 h9 h10 h11
    simp only [Exit.then, e0, e1, e2, e3, e4, e5, e6, e7, e8, e9, e11]
    clear e0 e1 e2 e3 e4 e5 e6 e7 e8 e9 e11
    go_upto_region 2 with (fail)
    replace bx := bx.below hS1 bx.lt
    replace bm := bm.below hS1 bm.lt
    refine wp_region_steps Try.mixed (by kernel_rfl) (by kernel_rfl) (fun v => by (simp only [frL, Act.put, List.setIfInBounds_toArray, List.set_cons_zero, List.set_cons_succ, Nat.reduceAdd, Nat.zero_add]; exact rfl))
      (fun L v w2 => Below w1.heap.size w1 w2 ∧ (L 0 = true → v 0 = (.int .i64 p)) ∧ (L 1 = true → v 1 = (.agg (bcells 64 (x)))) ∧ (L 2 = true → v 2 = (.agg (bcells 64 (x)))) ∧ (L 3 = true → v 3 = (.agg (bcells 64 (m)))) ∧ (L 4 = true → v 4 = (.agg (bcells 64 (m)))) ∧ (L 5 = true → v 5 = (.tuple #[(.agg (bcells 64 ((drV p x m).1))), (.int .i64 ((drV p x m).2))])) ∧ (L 6 = true → v 6 = (.tuple #[(.agg (bcells 64 ((drV p x m).1))), (.int .i64 ((drV p x m).2))])) ∧ (L 7 = true → v 7 = (.agg (bcells 64 ((drV p x m).1)))) ∧ (L 8 = true → v 8 = (.int .i64 ((drV p x m).2))) ∧ (L 9 = true → AF (v 9) w2 w1.heap.size 64 23) ∧ (L 10 = true → PF (v 9) w2 w1.heap.size 64 23 ((drV p x m).1)) ∧ (L 11 = true → v 11 = (.int .i64 ((drV p x m).2)))) ?_ ?_ ?_
    · intro v
      exact ⟨(Below.refl _ _).drew, (fun h => by cases h), (fun h => by cases h), (fun h => by cases h), (fun h => by cases h), (fun h => by cases h), (fun h => by cases h), (fun h => by cases h), (fun h => by cases h), (fun h => by cases h), (fun h => by cases h), (fun h => by cases h), (fun h => by cases h)⟩
    · refine (.cons rfl ?_ (.cons rfl ?_ (.cons rfl ?_ (.cons rfl ?_ (.cons rfl ?_ (.cons rfl ?_ (.cons rfl ?_ (.cons rfl ?_ (.cons rfl ?_ (.cons rfl ?_ (.cons rfl ?_ (.cons rfl ?_ (.nil _)))))))))))))
      · intro L v w2 hd hn ⟨hS2, h0, h1, h2, h3, h4, h5, h6, h7, h8, h9, h10, h11⟩ K hK
        go_wp2_with fail
        exact hK _ (.int .i64 p) _ (by simp only [Act.put, List.setIfInBounds_toArray, List.set_cons_zero, List.set_cons_succ ]) ⟨hS2, fun _ => rfl, h1, h2, h3, h4, h5, h6, h7, h8, h9, h10, h11⟩
      · intro L v w2 hd hn ⟨hS2, h0, h1, h2, h3, h4, h5, h6, h7, h8, h9, h10, h11⟩ K hK
        refine wp_load_blk 22 _ rfl _ rfl 64 22 _ (bx.below hS2 bx.lt) _ Try.underlying22 Try.size22 ?_
        exact hK _ _ _ rfl ⟨hS2, h0, fun _ => rfl, h2, h3, h4, h5, h6, h7, h8, h9, h10, h11⟩
      · intro L v w2 hd hn ⟨hS2, h0, h1, h2, h3, h4, h5, h6, h7, h8, h9, h10, h11⟩ K hK
        have e1 := h1 (hd ⟨1, .data⟩ (by simp) rfl)
        go_wp2_with (go_at_call 24; refine (toPoly_any _ hx _).mono ?_; rintro e w2y ⟨rfl, hy⟩)
        exact hK _ (.agg (bcells 64 (x))) _ (by simp only [Act.put, List.setIfInBounds_toArray, List.set_cons_zero, List.set_cons_succ, e1]) ⟨hS2.trans (hy.mono hS2.size), h0, h1, fun _ => rfl, h3, h4, h5, h6, h7, h8, fun h => (h9 h).below hy, fun h => (h10 h).below hy, h11⟩
      · intro L v w2 hd hn ⟨hS2, h0, h1, h2, h3, h4, h5, h6, h7, h8, h9, h10, h11⟩ K hK
        refine wp_load_blk 22 _ rfl _ rfl 64 22 _ (bm.below hS2 bm.lt) _ Try.underlying22 Try.size22 ?_
        exact hK _ _ _ rfl ⟨hS2, h0, h1, h2, fun _ => rfl, h4, h5, h6, h7, h8, h9, h10, h11⟩
      · intro L v w2 hd hn ⟨hS2, h0, h1, h2, h3, h4, h5, h6, h7, h8, h9, h10, h11⟩ K hK
        have e3 := h3 (hd ⟨3, .data⟩ (by simp) rfl)
        go_wp2_with (go_at_call 24; refine (toPoly_any _ hm _).mono ?_; rintro e w2y ⟨rfl, hy⟩)
        exact hK _ (.agg (bcells 64 (m))) _ (by simp only [Act.put, List.setIfInBounds_toArray, List.set_cons_zero, List.set_cons_succ, e3]) ⟨hS2.trans (hy.mono hS2.size), h0, h1, h2, h3, fun _ => rfl, h5, h6, h7, h8, fun h => (h9 h).below hy, fun h => (h10 h).below hy, h11⟩
      · intro L v w2 hd hn ⟨hS2, h0, h1, h2, h3, h4, h5, h6, h7, h8, h9, h10, h11⟩ K hK
        have e0 := h0 (hd ⟨0, .data⟩ (by simp) rfl)
        have e2 := h2 (hd ⟨2, .data⟩ (by simp) rfl)
        have e4 := h4 (hd ⟨4, .data⟩ (by simp) rfl)
        go_wp2_with (go_at_call 57; refine (impl_DeepRest_any p x m hx hm _).mono ?_; rintro e w2y ⟨rfl, hy⟩)
        exact hK _ (.tuple #[(.agg (bcells 64 ((drV p x m).1))), (.int .i64 ((drV p x m).2))]) _ (by simp only [Act.put, List.setIfInBounds_toArray, List.set_cons_zero, List.set_cons_succ, e0, e2, e4]) ⟨hS2.trans (hy.mono hS2.size), h0, h1, h2, h3, h4, fun _ => rfl, h6, h7, h8, fun h => (h9 h).below hy, fun h => (h10 h).below hy, h11⟩
      · intro L v w2 hd hn ⟨hS2, h0, h1, h2, h3, h4, h5, h6, h7, h8, h9, h10, h11⟩ K hK
        have e5 := h5 (hd ⟨5, .data⟩ (by simp) rfl)
        go_wp2_with fail
        exact hK _ (.tuple #[(.agg (bcells 64 ((drV p x m).1))), (.int .i64 ((drV p x m).2))]) _ (by simp only [Act.put, List.setIfInBounds_toArray, List.set_cons_zero, List.set_cons_succ, e5]) ⟨hS2, h0, h1, h2, h3, h4, h5, fun _ => rfl, h7, h8, h9, h10, h11⟩
      · intro L v w2 hd hn ⟨hS2, h0, h1, h2, h3, h4, h5, h6, h7, h8, h9, h10, h11⟩ K hK
        have e6 := h6 (hd ⟨6, .data⟩ (by simp) rfl)
        go_wp2_with fail
        exact hK _ (.agg (bcells 64 ((drV p x m).1))) _ (by simp only [Act.put, List.setIfInBounds_toArray, List.set_cons_zero, List.set_cons_succ, e6]) ⟨hS2, h0, h1, h2, h3, h4, h5, h6, fun _ => rfl, h8, h9, h10, h11⟩
      · intro L v w2 hd hn ⟨hS2, h0, h1, h2, h3, h4, h5, h6, h7, h8, h9, h10, h11⟩ K hK
        have e6 := h6 (hd ⟨6, .data⟩ (by simp) rfl)
        go_wp2_with fail
        exact hK _ (.int .i64 ((drV p x m).2)) _ (by simp only [Act.put, List.setIfInBounds_toArray, List.set_cons_zero, List.set_cons_succ, e6]) ⟨hS2, h0, h1, h2, h3, h4, h5, h6, h7, fun _ => rfl, h9, h10, h11⟩
      · intro L v w2 hd hn ⟨hS2, h0, h1, h2, h3, h4, h5, h6, h7, h8, h9, h10, h11⟩ K hK
        go_wp2_with fail
        rw [← zero64]
        exact hK _ (.pointer (some ⟨w2.heap.size, 0, none⟩)) _ (by simp only [Act.put, List.setIfInBounds_toArray, List.set_cons_zero, List.set_cons_succ ]) ⟨hS2.alloc hS2.size _, h0, h1, h2, h3, h4, h5, h6, h7, h8, fun _ => (PF.new w2 64 23 _ hS2.size).af, fun h => absurd rfl (hn 10 _ rfl h ⟨9, .data⟩ (by simp) rfl), h11⟩
      · intro L v w2 hd hn ⟨hS2, h0, h1, h2, h3, h4, h5, h6, h7, h8, h9, h10, h11⟩ K hK
        have e7 := h7 (hd ⟨7, .data⟩ (by simp) rfl)
        obtain ⟨gz, b, ea, hN, hk⟩ := (h9 (hd ⟨9, .data⟩ (by simp) rfl)).out
        refine wp_store_blk 23 _ _ rfl b 64 ((drV p x m).1) ea e7 23 gz hk Try.size23 ?_
        exact hK _ undef _ rfl ⟨below_row hS2 hN _, h0, h1, h2, h3, h4, h5, h6, h7, h8, fun h => (h9 h).row hk, fun _ => by rw [show updV v 10 undef 9 = v 9 from rfl, ea]; exact PF.row hk hN _, h11⟩
      · intro L v w2 hd hn ⟨hS2, h0, h1, h2, h3, h4, h5, h6, h7, h8, h9, h10, h11⟩ K hK
        have e8 := h8 (hd ⟨8, .data⟩ (by simp) rfl)
        go_wp2_with fail
        exact hK _ (.int .i64 ((drV p x m).2)) _ (by simp only [Act.put, List.setIfInBounds_toArray, List.set_cons_zero, List.set_cons_succ, e8]) ⟨hS2, h0, h1, h2, h3, h4, h5, h6, h7, h8, h9, h10, fun _ => rfl⟩
    · intro L v w2 hL ⟨hS2, h0, h1, h2, h3, h4, h5, h6, h7, h8, h9, h10, h11⟩
      have e0 := h0 (hL 0 (by decide))
      have e1 := h1 (hL 1 (by decide))
      have e2 := h2 (hL 2 (by decide))
      have e3 := h3 (hL 3 (by decide))
      have e4 := h4 (hL 4 (by decide))
      have e5 := h5 (hL 5 (by decide))
      have e6 := h6 (hL 6 (by decide))
      have e7 := h7 (hL 7 (by decide))
      have e8 := h8 (hL 8 (by decide))
      obtain ⟨q9, e9, hM9, hq9⟩ := (h10 (hL 10 (by decide))).out
      have e11 := h11 (hL 11 (by decide))
      clear hL h0 h1 h2 h3 h4 h5 h6 h7 h8 h9 h10 h11
      simp only [Exit.then, e0, e1, e2, e3, e4, e5, e6, e7, e8, e9, e11]
      clear e0 e1 e2 e3 e4 e5 e6 e7 e8 e9 e11
      replace hb9 := hb9.below hS2 hb9.lt
      have ha : Below w2.heap.size w2 w2 := Below.refl _ _
      have hne : (((drV p x m).2) != ((drV p x m).2)) = false := by simp
      go_wp2_with (first | refine wpList_load_blk rfl 23 _ rfl _ rfl 64 23 _ (hq9.below (by assumption) hq9.lt) 5 Try.underlying23 Try.size23 ?_ | refine wpList_load_blk rfl 23 _ rfl _ rfl 64 23 _ (hb9.below (by assumption) hb9.lt) 5 Try.underlying23 Try.size23 ?_ | (go_at_call 26; refine (acc (eqPoly_same _ _ (fun _ _ => rfl) _) (by assumption)).mono ?_; rintro e w3 ⟨rfl, h3, ha⟩))
      go_ret
      exact ⟨rfl, hb.trans ((hS1.trans ((hS2.trans (ha.mono hS2.size)).mono hS1.size)).mono hb.size)⟩
end Go.Proofs.Ytbjpkmbhbpcbgaa
