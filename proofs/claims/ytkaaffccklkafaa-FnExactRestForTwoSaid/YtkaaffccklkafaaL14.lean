/-
  Walks of the exact laws.
-/
import Derived.Test.YtkaaffccklkafaaW32
import Derived.Test.YtkaaffccklkafaaInv
namespace Go.Proofs.Ytkaaffccklkafaa
open Go.RowKit
set_option linter.unusedVariables false
set_option linter.unusedSimpArgs false
set_option maxRecDepth 100000 in
set_option maxHeartbeats 1600000 in
theorem FnExactRestForTwo_walk (p : Int) (fa : Nat → Nat) (fm : Nat → Nat) (fb : Nat → Nat) (fn : Nat → Nat) (hfa : byte fa) (hfm : byte fm) (hfb : byte fb) (hfn : byte fn) (w : World) :
    Calls Try.prog 30 #[.int .i64 p, .agg (bcells 64 fa), .agg (bcells 64 fm), .agg (bcells 64 fb), .agg (bcells 64 fn)] w fun e w' => e = .returned (.bool true) ∧ Below w.heap.size w w' := by
  go_enter Try.func30, Try.ntmps30
  go_upto_region 1 with (fail)
  obtain ⟨wo, hwo⟩ : ∃ wo : World, wo = ((((w.alloc (.cells (bcells 64 fa) 24)).alloc (.cells (bcells 64 fm) 24)).alloc (.cells (bcells 64 fb) 24)).alloc (.cells (bcells 64 fn) 24)) := ⟨_, rfl⟩
  have bfa : Blk wo (w.heap.size) 64 24 fa := by subst hwo; have := ((((Blk.new w 64 24 fa).alloc (.cells (bcells 64 fm) 24)).alloc (.cells (bcells 64 fb) 24)).alloc (.cells (bcells 64 fn) 24)); simpa using this
  have bfm : Blk wo (w.heap.size + 1) 64 24 fm := by subst hwo; have := (((Blk.new (w.alloc (.cells (bcells 64 fa) 24)) 64 24 fm).alloc (.cells (bcells 64 fb) 24)).alloc (.cells (bcells 64 fn) 24)); simpa using this
  have bfb : Blk wo (w.heap.size + 1 + 1) 64 24 fb := by subst hwo; have := ((Blk.new ((w.alloc (.cells (bcells 64 fa) 24)).alloc (.cells (bcells 64 fm) 24)) 64 24 fb).alloc (.cells (bcells 64 fn) 24)); simpa using this
  have bfn : Blk wo (w.heap.size + 1 + 1 + 1) 64 24 fn := by subst hwo; have := (Blk.new (((w.alloc (.cells (bcells 64 fa) 24)).alloc (.cells (bcells 64 fm) 24)).alloc (.cells (bcells 64 fb) 24)) 64 24 fn); simpa using this
  have hb : Below w.heap.size w wo := by subst hwo; exact (((((Below.refl _ _).alloc (Nat.le_refl _) _).alloc (by simp) _).alloc (by simp; omega) _).alloc (by simp; omega) _)
  rw [← hwo]
  clear hwo
  refine wp_region_steps Try.mixed (by kernel_rfl) (by kernel_rfl) (fun v => by (simp only [frL, Act.put, List.setIfInBounds_toArray, List.set_cons_zero, List.set_cons_succ, Nat.reduceAdd, Nat.zero_add]; exact rfl))
    (fun L v w1 => Below wo.heap.size wo w1 ∧ (L 0 = true → v 0 = (.int .i64 p)) ∧ (L 1 = true → v 1 = (.agg (bcells 64 (fa)))) ∧ (L 2 = true → v 2 = (.agg (bcells 64 (fa)))) ∧ (L 3 = true → v 3 = (.agg (bcells 64 (fm)))) ∧ (L 4 = true → v 4 = (.agg (bcells 64 (fm)))) ∧ (L 5 = true → v 5 = (.agg (bcells 64 (fb)))) ∧ (L 6 = true → v 6 = (.agg (bcells 64 (fb)))) ∧ (L 7 = true → v 7 = (.agg (bcells 64 (fn)))) ∧ (L 8 = true → v 8 = (.agg (bcells 64 (fn)))) ∧ (L 9 = true → v 9 = (.tuple #[(.agg (bcells 64 ((rfV p fa fm fb fn).1))), (.int .i64 ((rfV p fa fm fb fn).2))])) ∧ (L 10 = true → v 10 = (.tuple #[(.agg (bcells 64 ((rfV p fa fm fb fn).1))), (.int .i64 ((rfV p fa fm fb fn).2))])) ∧ (L 11 = true → v 11 = (.agg (bcells 64 ((rfV p fa fm fb fn).1)))) ∧ (L 12 = true → v 12 = (.int .i64 ((rfV p fa fm fb fn).2))) ∧ (L 13 = true → AF (v 13) w1 wo.heap.size 64 25) ∧ (L 14 = true → PF (v 13) w1 wo.heap.size 64 25 ((rfV p fa fm fb fn).1)) ∧ (L 15 = true → v 15 = (.int .i64 ((rfV p fa fm fb fn).2)))) ?_ ?_ ?_
  · intro v
    exact ⟨(Below.refl _ _).drew, (fun h => by cases h), (fun h => by cases h), (fun h => by cases h), (fun h => by cases h), (fun h => by cases h), (fun h => by cases h), (fun h => by cases h), (fun h => by cases h), (fun h => by cases h), (fun h => by cases h), (fun h => by cases h), (fun h => by cases h), (fun h => by cases h), (fun h => by cases h), (fun h => by cases h), (fun h => by cases h)⟩
  · refine (.cons rfl ?_ (.cons rfl ?_ (.cons rfl ?_ (.cons rfl ?_ (.cons rfl ?_ (.cons rfl ?_ (.cons rfl ?_ (.cons rfl ?_ (.cons rfl ?_ (.cons rfl ?_ (.cons rfl ?_ (.cons rfl ?_ (.cons rfl ?_ (.cons rfl ?_ (.cons rfl ?_ (.cons rfl ?_ (.nil _)))))))))))))))))
    · intro L v w1 hd hn ⟨hS1, h0, h1, h2, h3, h4, h5, h6, h7, h8, h9, h10, h11, h12, h13, h14, h15⟩ K hK
      go_wp2_with fail
      exact hK _ (.int .i64 p) _ (by simp only [Act.put, List.setIfInBounds_toArray, List.set_cons_zero, List.set_cons_succ ]) ⟨hS1, fun _ => rfl, h1, h2, h3, h4, h5, h6, h7, h8, h9, h10, h11, h12, h13, h14, h15⟩
    · intro L v w1 hd hn ⟨hS1, h0, h1, h2, h3, h4, h5, h6, h7, h8, h9, h10, h11, h12, h13, h14, h15⟩ K hK
      refine wp_load_blk 24 _ rfl _ rfl 64 24 _ (bfa.below hS1 bfa.lt) _ Try.underlying24 Try.size24 ?_
      exact hK _ _ _ rfl ⟨hS1, h0, fun _ => rfl, h2, h3, h4, h5, h6, h7, h8, h9, h10, h11, h12, h13, h14, h15⟩
    · intro L v w1 hd hn ⟨hS1, h0, h1, h2, h3, h4, h5, h6, h7, h8, h9, h10, h11, h12, h13, h14, h15⟩ K hK
      have e1 := h1 (hd ⟨1, .data⟩ (by simp) rfl)
      go_wp2_with (go_at_call 130; refine (toPoly_any _ hfa _).mono ?_; rintro e w1y ⟨rfl, hy⟩)
      exact hK _ (.agg (bcells 64 (fa))) _ (by simp only [Act.put, List.setIfInBounds_toArray, List.set_cons_zero, List.set_cons_succ, e1]) ⟨hS1.trans (hy.mono hS1.size), h0, h1, fun _ => rfl, h3, h4, h5, h6, h7, h8, h9, h10, h11, h12, fun h => (h13 h).below hy, fun h => (h14 h).below hy, h15⟩
    · intro L v w1 hd hn ⟨hS1, h0, h1, h2, h3, h4, h5, h6, h7, h8, h9, h10, h11, h12, h13, h14, h15⟩ K hK
      refine wp_load_blk 24 _ rfl _ rfl 64 24 _ (bfm.below hS1 bfm.lt) _ Try.underlying24 Try.size24 ?_
      exact hK _ _ _ rfl ⟨hS1, h0, h1, h2, fun _ => rfl, h4, h5, h6, h7, h8, h9, h10, h11, h12, h13, h14, h15⟩
    · intro L v w1 hd hn ⟨hS1, h0, h1, h2, h3, h4, h5, h6, h7, h8, h9, h10, h11, h12, h13, h14, h15⟩ K hK
      have e3 := h3 (hd ⟨3, .data⟩ (by simp) rfl)
      go_wp2_with (go_at_call 130; refine (toPoly_any _ hfm _).mono ?_; rintro e w1y ⟨rfl, hy⟩)
      exact hK _ (.agg (bcells 64 (fm))) _ (by simp only [Act.put, List.setIfInBounds_toArray, List.set_cons_zero, List.set_cons_succ, e3]) ⟨hS1.trans (hy.mono hS1.size), h0, h1, h2, h3, fun _ => rfl, h5, h6, h7, h8, h9, h10, h11, h12, fun h => (h13 h).below hy, fun h => (h14 h).below hy, h15⟩
    · intro L v w1 hd hn ⟨hS1, h0, h1, h2, h3, h4, h5, h6, h7, h8, h9, h10, h11, h12, h13, h14, h15⟩ K hK
      refine wp_load_blk 24 _ rfl _ rfl 64 24 _ (bfb.below hS1 bfb.lt) _ Try.underlying24 Try.size24 ?_
      exact hK _ _ _ rfl ⟨hS1, h0, h1, h2, h3, h4, fun _ => rfl, h6, h7, h8, h9, h10, h11, h12, h13, h14, h15⟩
    · intro L v w1 hd hn ⟨hS1, h0, h1, h2, h3, h4, h5, h6, h7, h8, h9, h10, h11, h12, h13, h14, h15⟩ K hK
      have e5 := h5 (hd ⟨5, .data⟩ (by simp) rfl)
      go_wp2_with (go_at_call 130; refine (toPoly_any _ hfb _).mono ?_; rintro e w1y ⟨rfl, hy⟩)
      exact hK _ (.agg (bcells 64 (fb))) _ (by simp only [Act.put, List.setIfInBounds_toArray, List.set_cons_zero, List.set_cons_succ, e5]) ⟨hS1.trans (hy.mono hS1.size), h0, h1, h2, h3, h4, h5, fun _ => rfl, h7, h8, h9, h10, h11, h12, fun h => (h13 h).below hy, fun h => (h14 h).below hy, h15⟩
    · intro L v w1 hd hn ⟨hS1, h0, h1, h2, h3, h4, h5, h6, h7, h8, h9, h10, h11, h12, h13, h14, h15⟩ K hK
      refine wp_load_blk 24 _ rfl _ rfl 64 24 _ (bfn.below hS1 bfn.lt) _ Try.underlying24 Try.size24 ?_
      exact hK _ _ _ rfl ⟨hS1, h0, h1, h2, h3, h4, h5, h6, fun _ => rfl, h8, h9, h10, h11, h12, h13, h14, h15⟩
    · intro L v w1 hd hn ⟨hS1, h0, h1, h2, h3, h4, h5, h6, h7, h8, h9, h10, h11, h12, h13, h14, h15⟩ K hK
      have e7 := h7 (hd ⟨7, .data⟩ (by simp) rfl)
      go_wp2_with (go_at_call 130; refine (toPoly_any _ hfn _).mono ?_; rintro e w1y ⟨rfl, hy⟩)
      exact hK _ (.agg (bcells 64 (fn))) _ (by simp only [Act.put, List.setIfInBounds_toArray, List.set_cons_zero, List.set_cons_succ, e7]) ⟨hS1.trans (hy.mono hS1.size), h0, h1, h2, h3, h4, h5, h6, h7, fun _ => rfl, h9, h10, h11, h12, fun h => (h13 h).below hy, fun h => (h14 h).below hy, h15⟩
    · intro L v w1 hd hn ⟨hS1, h0, h1, h2, h3, h4, h5, h6, h7, h8, h9, h10, h11, h12, h13, h14, h15⟩ K hK
      have e0 := h0 (hd ⟨0, .data⟩ (by simp) rfl)
      have e2 := h2 (hd ⟨2, .data⟩ (by simp) rfl)
      have e4 := h4 (hd ⟨4, .data⟩ (by simp) rfl)
      have e6 := h6 (hd ⟨6, .data⟩ (by simp) rfl)
      have e8 := h8 (hd ⟨8, .data⟩ (by simp) rfl)
      go_wp2_with (go_at_call 126; refine (spec_RestForTwo_any p fa fm fb fn hfa hfm hfb hfn _).mono ?_; rintro e w1y ⟨rfl, hy⟩)
      exact hK _ (.tuple #[(.agg (bcells 64 ((rfV p fa fm fb fn).1))), (.int .i64 ((rfV p fa fm fb fn).2))]) _ (by simp only [Act.put, List.setIfInBounds_toArray, List.set_cons_zero, List.set_cons_succ, e0, e2, e4, e6, e8]) ⟨hS1.trans (hy.mono hS1.size), h0, h1, h2, h3, h4, h5, h6, h7, h8, fun _ => rfl, h10, h11, h12, fun h => (h13 h).below hy, fun h => (h14 h).below hy, h15⟩
    · intro L v w1 hd hn ⟨hS1, h0, h1, h2, h3, h4, h5, h6, h7, h8, h9, h10, h11, h12, h13, h14, h15⟩ K hK
      have e9 := h9 (hd ⟨9, .data⟩ (by simp) rfl)
      go_wp2_with fail
      exact hK _ (.tuple #[(.agg (bcells 64 ((rfV p fa fm fb fn).1))), (.int .i64 ((rfV p fa fm fb fn).2))]) _ (by simp only [Act.put, List.setIfInBounds_toArray, List.set_cons_zero, List.set_cons_succ, e9]) ⟨hS1, h0, h1, h2, h3, h4, h5, h6, h7, h8, h9, fun _ => rfl, h11, h12, h13, h14, h15⟩
    · intro L v w1 hd hn ⟨hS1, h0, h1, h2, h3, h4, h5, h6, h7, h8, h9, h10, h11, h12, h13, h14, h15⟩ K hK
      have e10 := h10 (hd ⟨10, .data⟩ (by simp) rfl)
      go_wp2_with fail
      exact hK _ (.agg (bcells 64 ((rfV p fa fm fb fn).1))) _ (by simp only [Act.put, List.setIfInBounds_toArray, List.set_cons_zero, List.set_cons_succ, e10]) ⟨hS1, h0, h1, h2, h3, h4, h5, h6, h7, h8, h9, h10, fun _ => rfl, h12, h13, h14, h15⟩
    · intro L v w1 hd hn ⟨hS1, h0, h1, h2, h3, h4, h5, h6, h7, h8, h9, h10, h11, h12, h13, h14, h15⟩ K hK
      have e10 := h10 (hd ⟨10, .data⟩ (by simp) rfl)
      go_wp2_with fail
      exact hK _ (.int .i64 ((rfV p fa fm fb fn).2)) _ (by simp only [Act.put, List.setIfInBounds_toArray, List.set_cons_zero, List.set_cons_succ, e10]) ⟨hS1, h0, h1, h2, h3, h4, h5, h6, h7, h8, h9, h10, h11, fun _ => rfl, h13, h14, h15⟩
    · intro L v w1 hd hn ⟨hS1, h0, h1, h2, h3, h4, h5, h6, h7, h8, h9, h10, h11, h12, h13, h14, h15⟩ K hK
      go_wp2_with fail
      rw [← zero64]
      exact hK _ (.pointer (some ⟨w1.heap.size, 0, none⟩)) _ (by simp only [Act.put, List.setIfInBounds_toArray, List.set_cons_zero, List.set_cons_succ ]) ⟨hS1.alloc hS1.size _, h0, h1, h2, h3, h4, h5, h6, h7, h8, h9, h10, h11, h12, fun _ => (PF.new w1 64 25 _ hS1.size).af, fun h => absurd rfl (hn 14 _ rfl h ⟨13, .data⟩ (by simp) rfl), h15⟩
    · intro L v w1 hd hn ⟨hS1, h0, h1, h2, h3, h4, h5, h6, h7, h8, h9, h10, h11, h12, h13, h14, h15⟩ K hK
      have e11 := h11 (hd ⟨11, .data⟩ (by simp) rfl)
      obtain ⟨gz, b, ea, hN, hk⟩ := (h13 (hd ⟨13, .data⟩ (by simp) rfl)).out
      refine wp_store_blk 25 _ _ rfl b 64 ((rfV p fa fm fb fn).1) ea e11 25 gz hk Try.size25 ?_
      exact hK _ undef _ rfl ⟨below_row hS1 hN _, h0, h1, h2, h3, h4, h5, h6, h7, h8, h9, h10, h11, h12, fun h => (h13 h).row hk, fun _ => by rw [show updV v 14 undef 13 = v 13 from rfl, ea]; exact PF.row hk hN _, h15⟩
    · intro L v w1 hd hn ⟨hS1, h0, h1, h2, h3, h4, h5, h6, h7, h8, h9, h10, h11, h12, h13, h14, h15⟩ K hK
      have e12 := h12 (hd ⟨12, .data⟩ (by simp) rfl)
      go_wp2_with fail
      exact hK _ (.int .i64 ((rfV p fa fm fb fn).2)) _ (by simp only [Act.put, List.setIfInBounds_toArray, List.set_cons_zero, List.set_cons_succ, e12]) ⟨hS1, h0, h1, h2, h3, h4, h5, h6, h7, h8, h9, h10, h11, h12, h13, h14, fun _ => rfl⟩
  · intro L v w1 hL ⟨hS1, h0, h1, h2, h3, h4, h5, h6, h7, h8, h9, h10, h11, h12, h13, h14, h15⟩
    have e0 := h0 (hL 0 (by decide))
    have e1 := h1 (hL 1 (by decide))
    have e2 := h2 (hL 2 (by decide))
    have e3 := h3 (hL 3 (by decide))
    have e4 := h4 (hL 4 (by decide))
    have e5 := h5 (hL 5 (by decide))
    have e6 := h6 (hL 6 (by decide))
    have e7 := h7 (hL 7 (by decide))
    have e8 := h8 (hL 8 (by decide))
    have e9 := h9 (hL 9 (by decide))
    have e10 := h10 (hL 10 (by decide))
    have e11 := h11 (hL 11 (by decide))
    have e12 := h12 (hL 12 (by decide))
    obtain ⟨b13, e13, hN13, hb13⟩ := (h14 (hL 14 (by decide))).out
    have e15 := h15 (hL 15 (by decide))
    clear hL h0 h1 h2 h3 h4 h5 h6 h7 h8 h9 h10 h11 h12 h13 h14 h15
    simp only [Exit.then, e0, e1, e2, e3, e4, e5, e6, e7, e8, e9, e10, e11, e12, e13, e15]
    clear e0 e1 e2 e3 e4 e5 e6 e7 e8 e9 e10 e11 e12 e13 e15
    go_upto_region 2 with (fail)
    replace bfa := bfa.below hS1 bfa.lt
    replace bfm := bfm.below hS1 bfm.lt
    replace bfb := bfb.below hS1 bfb.lt
    replace bfn := bfn.below hS1 bfn.lt
    refine wp_region_steps Try.mixed (by kernel_rfl) (by kernel_rfl) (fun v => by (simp only [frL, Act.put, List.setIfInBounds_toArray, List.set_cons_zero, List.set_cons_succ, Nat.reduceAdd, Nat.zero_add]; exact rfl))
      (fun L v w2 => Below w1.heap.size w1 w2 ∧ (L 0 = true → v 0 = (.int .i64 p)) ∧ (L 1 = true → v 1 = (.agg (bcells 64 (fa)))) ∧ (L 2 = true → v 2 = (.agg (bcells 64 (fa)))) ∧ (L 3 = true → v 3 = (.agg (bcells 64 (fm)))) ∧ (L 4 = true → v 4 = (.agg (bcells 64 (fm)))) ∧ (L 5 = true → v 5 = (.agg (bcells 64 (fb)))) ∧ (L 6 = true → v 6 = (.agg (bcells 64 (fb)))) ∧ (L 7 = true → v 7 = (.agg (bcells 64 (fn)))) ∧ (L 8 = true → v 8 = (.agg (bcells 64 (fn)))) ∧ (L 9 = true → v 9 = (.tuple #[(.agg (bcells 64 ((rfV p fa fm fb fn).1))), (.int .i64 ((rfV p fa fm fb fn).2))])) ∧ (L 10 = true → v 10 = (.tuple #[(.agg (bcells 64 ((rfV p fa fm fb fn).1))), (.int .i64 ((rfV p fa fm fb fn).2))])) ∧ (L 11 = true → v 11 = (.agg (bcells 64 ((rfV p fa fm fb fn).1)))) ∧ (L 12 = true → v 12 = (.int .i64 ((rfV p fa fm fb fn).2))) ∧ (L 13 = true → AF (v 13) w2 w1.heap.size 64 25) ∧ (L 14 = true → PF (v 13) w2 w1.heap.size 64 25 ((rfV p fa fm fb fn).1)) ∧ (L 15 = true → v 15 = (.int .i64 ((rfV p fa fm fb fn).2)))) ?_ ?_ ?_
    · intro v
      exact ⟨(Below.refl _ _).drew, (fun h => by cases h), (fun h => by cases h), (fun h => by cases h), (fun h => by cases h), (fun h => by cases h), (fun h => by cases h), (fun h => by cases h), (fun h => by cases h), (fun h => by cases h), (fun h => by cases h), (fun h => by cases h), (fun h => by cases h), (fun h => by cases h), (fun h => by cases h), (fun h => by cases h), (fun h => by cases h)⟩
    · refine (.cons rfl ?_ (.cons rfl ?_ (.cons rfl ?_ (.cons rfl ?_ (.cons rfl ?_ (.cons rfl ?_ (.cons rfl ?_ (.cons rfl ?_ (.cons rfl ?_ (.cons rfl ?_ (.cons rfl ?_ (.cons rfl ?_ (.cons rfl ?_ (.cons rfl ?_ (.cons rfl ?_ (.cons rfl ?_ (.nil _)))))))))))))))))
      · intro L v w2 hd hn ⟨hS2, h0, h1, h2, h3, h4, h5, h6, h7, h8, h9, h10, h11, h12, h13, h14, h15⟩ K hK
        go_wp2_with fail
        exact hK _ (.int .i64 p) _ (by simp only [Act.put, List.setIfInBounds_toArray, List.set_cons_zero, List.set_cons_succ ]) ⟨hS2, fun _ => rfl, h1, h2, h3, h4, h5, h6, h7, h8, h9, h10, h11, h12, h13, h14, h15⟩
      · intro L v w2 hd hn ⟨hS2, h0, h1, h2, h3, h4, h5, h6, h7, h8, h9, h10, h11, h12, h13, h14, h15⟩ K hK
        refine wp_load_blk 24 _ rfl _ rfl 64 24 _ (bfa.below hS2 bfa.lt) _ Try.underlying24 Try.size24 ?_
        exact hK _ _ _ rfl ⟨hS2, h0, fun _ => rfl, h2, h3, h4, h5, h6, h7, h8, h9, h10, h11, h12, h13, h14, h15⟩
      · intro L v w2 hd hn ⟨hS2, h0, h1, h2, h3, h4, h5, h6, h7, h8, h9, h10, h11, h12, h13, h14, h15⟩ K hK
        have e1 := h1 (hd ⟨1, .data⟩ (by simp) rfl)
        go_wp2_with (go_at_call 130; refine (toPoly_any _ hfa _).mono ?_; rintro e w2y ⟨rfl, hy⟩)
        exact hK _ (.agg (bcells 64 (fa))) _ (by simp only [Act.put, List.setIfInBounds_toArray, List.set_cons_zero, List.set_cons_succ, e1]) ⟨hS2.trans (hy.mono hS2.size), h0, h1, fun _ => rfl, h3, h4, h5, h6, h7, h8, h9, h10, h11, h12, fun h => (h13 h).below hy, fun h => (h14 h).below hy, h15⟩
      · intro L v w2 hd hn ⟨hS2, h0, h1, h2, h3, h4, h5, h6, h7, h8, h9, h10, h11, h12, h13, h14, h15⟩ K hK
        refine wp_load_blk 24 _ rfl _ rfl 64 24 _ (bfm.below hS2 bfm.lt) _ Try.underlying24 Try.size24 ?_
        exact hK _ _ _ rfl ⟨hS2, h0, h1, h2, fun _ => rfl, h4, h5, h6, h7, h8, h9, h10, h11, h12, h13, h14, h15⟩
      · intro L v w2 hd hn ⟨hS2, h0, h1, h2, h3, h4, h5, h6, h7, h8, h9, h10, h11, h12, h13, h14, h15⟩ K hK
        have e3 := h3 (hd ⟨3, .data⟩ (by simp) rfl)
        go_wp2_with (go_at_call 130; refine (toPoly_any _ hfm _).mono ?_; rintro e w2y ⟨rfl, hy⟩)
        exact hK _ (.agg (bcells 64 (fm))) _ (by simp only [Act.put, List.setIfInBounds_toArray, List.set_cons_zero, List.set_cons_succ, e3]) ⟨hS2.trans (hy.mono hS2.size), h0, h1, h2, h3, fun _ => rfl, h5, h6, h7, h8, h9, h10, h11, h12, fun h => (h13 h).below hy, fun h => (h14 h).below hy, h15⟩
      · intro L v w2 hd hn ⟨hS2, h0, h1, h2, h3, h4, h5, h6, h7, h8, h9, h10, h11, h12, h13, h14, h15⟩ K hK
        refine wp_load_blk 24 _ rfl _ rfl 64 24 _ (bfb.below hS2 bfb.lt) _ Try.underlying24 Try.size24 ?_
        exact hK _ _ _ rfl ⟨hS2, h0, h1, h2, h3, h4, fun _ => rfl, h6, h7, h8, h9, h10, h11, h12, h13, h14, h15⟩
      · intro L v w2 hd hn ⟨hS2, h0, h1, h2, h3, h4, h5, h6, h7, h8, h9, h10, h11, h12, h13, h14, h15⟩ K hK
        have e5 := h5 (hd ⟨5, .data⟩ (by simp) rfl)
        go_wp2_with (go_at_call 130; refine (toPoly_any _ hfb _).mono ?_; rintro e w2y ⟨rfl, hy⟩)
        exact hK _ (.agg (bcells 64 (fb))) _ (by simp only [Act.put, List.setIfInBounds_toArray, List.set_cons_zero, List.set_cons_succ, e5]) ⟨hS2.trans (hy.mono hS2.size), h0, h1, h2, h3, h4, h5, fun _ => rfl, h7, h8, h9, h10, h11, h12, fun h => (h13 h).below hy, fun h => (h14 h).below hy, h15⟩
      · intro L v w2 hd hn ⟨hS2, h0, h1, h2, h3, h4, h5, h6, h7, h8, h9, h10, h11, h12, h13, h14, h15⟩ K hK
        refine wp_load_blk 24 _ rfl _ rfl 64 24 _ (bfn.below hS2 bfn.lt) _ Try.underlying24 Try.size24 ?_
        exact hK _ _ _ rfl ⟨hS2, h0, h1, h2, h3, h4, h5, h6, fun _ => rfl, h8, h9, h10, h11, h12, h13, h14, h15⟩
      · intro L v w2 hd hn ⟨hS2, h0, h1, h2, h3, h4, h5, h6, h7, h8, h9, h10, h11, h12, h13, h14, h15⟩ K hK
        have e7 := h7 (hd ⟨7, .data⟩ (by simp) rfl)
        go_wp2_with (go_at_call 130; refine (toPoly_any _ hfn _).mono ?_; rintro e w2y ⟨rfl, hy⟩)
        exact hK _ (.agg (bcells 64 (fn))) _ (by simp only [Act.put, List.setIfInBounds_toArray, List.set_cons_zero, List.set_cons_succ, e7]) ⟨hS2.trans (hy.mono hS2.size), h0, h1, h2, h3, h4, h5, h6, h7, fun _ => rfl, h9, h10, h11, h12, fun h => (h13 h).below hy, fun h => (h14 h).below hy, h15⟩
      · intro L v w2 hd hn ⟨hS2, h0, h1, h2, h3, h4, h5, h6, h7, h8, h9, h10, h11, h12, h13, h14, h15⟩ K hK
        have e0 := h0 (hd ⟨0, .data⟩ (by simp) rfl)
        have e2 := h2 (hd ⟨2, .data⟩ (by simp) rfl)
        have e4 := h4 (hd ⟨4, .data⟩ (by simp) rfl)
        have e6 := h6 (hd ⟨6, .data⟩ (by simp) rfl)
        have e8 := h8 (hd ⟨8, .data⟩ (by simp) rfl)
        go_wp2_with (go_at_call 125; refine (impl_RestForTwo_any p fa fm fb fn hfa hfm hfb hfn _).mono ?_; rintro e w2y ⟨rfl, hy⟩)
        exact hK _ (.tuple #[(.agg (bcells 64 ((rfV p fa fm fb fn).1))), (.int .i64 ((rfV p fa fm fb fn).2))]) _ (by simp only [Act.put, List.setIfInBounds_toArray, List.set_cons_zero, List.set_cons_succ, e0, e2, e4, e6, e8]) ⟨hS2.trans (hy.mono hS2.size), h0, h1, h2, h3, h4, h5, h6, h7, h8, fun _ => rfl, h10, h11, h12, fun h => (h13 h).below hy, fun h => (h14 h).below hy, h15⟩
      · intro L v w2 hd hn ⟨hS2, h0, h1, h2, h3, h4, h5, h6, h7, h8, h9, h10, h11, h12, h13, h14, h15⟩ K hK
        have e9 := h9 (hd ⟨9, .data⟩ (by simp) rfl)
        go_wp2_with fail
        exact hK _ (.tuple #[(.agg (bcells 64 ((rfV p fa fm fb fn).1))), (.int .i64 ((rfV p fa fm fb fn).2))]) _ (by simp only [Act.put, List.setIfInBounds_toArray, List.set_cons_zero, List.set_cons_succ, e9]) ⟨hS2, h0, h1, h2, h3, h4, h5, h6, h7, h8, h9, fun _ => rfl, h11, h12, h13, h14, h15⟩
      · intro L v w2 hd hn ⟨hS2, h0, h1, h2, h3, h4, h5, h6, h7, h8, h9, h10, h11, h12, h13, h14, h15⟩ K hK
        have e10 := h10 (hd ⟨10, .data⟩ (by simp) rfl)
        go_wp2_with fail
        exact hK _ (.agg (bcells 64 ((rfV p fa fm fb fn).1))) _ (by simp only [Act.put, List.setIfInBounds_toArray, List.set_cons_zero, List.set_cons_succ, e10]) ⟨hS2, h0, h1, h2, h3, h4, h5, h6, h7, h8, h9, h10, fun _ => rfl, h12, h13, h14, h15⟩
      · intro L v w2 hd hn ⟨hS2, h0, h1, h2, h3, h4, h5, h6, h7, h8, h9, h10, h11, h12, h13, h14, h15⟩ K hK
        have e10 := h10 (hd ⟨10, .data⟩ (by simp) rfl)
        go_wp2_with fail
        exact hK _ (.int .i64 ((rfV p fa fm fb fn).2)) _ (by simp only [Act.put, List.setIfInBounds_toArray, List.set_cons_zero, List.set_cons_succ, e10]) ⟨hS2, h0, h1, h2, h3, h4, h5, h6, h7, h8, h9, h10, h11, fun _ => rfl, h13, h14, h15⟩
      · intro L v w2 hd hn ⟨hS2, h0, h1, h2, h3, h4, h5, h6, h7, h8, h9, h10, h11, h12, h13, h14, h15⟩ K hK
        go_wp2_with fail
        rw [← zero64]
        exact hK _ (.pointer (some ⟨w2.heap.size, 0, none⟩)) _ (by simp only [Act.put, List.setIfInBounds_toArray, List.set_cons_zero, List.set_cons_succ ]) ⟨hS2.alloc hS2.size _, h0, h1, h2, h3, h4, h5, h6, h7, h8, h9, h10, h11, h12, fun _ => (PF.new w2 64 25 _ hS2.size).af, fun h => absurd rfl (hn 14 _ rfl h ⟨13, .data⟩ (by simp) rfl), h15⟩
      · intro L v w2 hd hn ⟨hS2, h0, h1, h2, h3, h4, h5, h6, h7, h8, h9, h10, h11, h12, h13, h14, h15⟩ K hK
        have e11 := h11 (hd ⟨11, .data⟩ (by simp) rfl)
        obtain ⟨gz, b, ea, hN, hk⟩ := (h13 (hd ⟨13, .data⟩ (by simp) rfl)).out
        refine wp_store_blk 25 _ _ rfl b 64 ((rfV p fa fm fb fn).1) ea e11 25 gz hk Try.size25 ?_
        exact hK _ undef _ rfl ⟨below_row hS2 hN _, h0, h1, h2, h3, h4, h5, h6, h7, h8, h9, h10, h11, h12, fun h => (h13 h).row hk, fun _ => by rw [show updV v 14 undef 13 = v 13 from rfl, ea]; exact PF.row hk hN _, h15⟩
      · intro L v w2 hd hn ⟨hS2, h0, h1, h2, h3, h4, h5, h6, h7, h8, h9, h10, h11, h12, h13, h14, h15⟩ K hK
        have e12 := h12 (hd ⟨12, .data⟩ (by simp) rfl)
        go_wp2_with fail
        exact hK _ (.int .i64 ((rfV p fa fm fb fn).2)) _ (by simp only [Act.put, List.setIfInBounds_toArray, List.set_cons_zero, List.set_cons_succ, e12]) ⟨hS2, h0, h1, h2, h3, h4, h5, h6, h7, h8, h9, h10, h11, h12, h13, h14, fun _ => rfl⟩
    · intro L v w2 hL ⟨hS2, h0, h1, h2, h3, h4, h5, h6, h7, h8, h9, h10, h11, h12, h13, h14, h15⟩
      have e0 := h0 (hL 0 (by decide))
      have e1 := h1 (hL 1 (by decide))
      have e2 := h2 (hL 2 (by decide))
      have e3 := h3 (hL 3 (by decide))
      have e4 := h4 (hL 4 (by decide))
      have e5 := h5 (hL 5 (by decide))
      have e6 := h6 (hL 6 (by decide))
      have e7 := h7 (hL 7 (by decide))
      have e8 := h8 (hL 8 (by decide))
      have e9 := h9 (hL 9 (by decide))
      have e10 := h10 (hL 10 (by decide))
      have e11 := h11 (hL 11 (by decide))
      have e12 := h12 (hL 12 (by decide))
      obtain ⟨q13, e13, hM13, hq13⟩ := (h14 (hL 14 (by decide))).out
      have e15 := h15 (hL 15 (by decide))
      clear hL h0 h1 h2 h3 h4 h5 h6 h7 h8 h9 h10 h11 h12 h13 h14 h15
      simp only [Exit.then, e0, e1, e2, e3, e4, e5, e6, e7, e8, e9, e10, e11, e12, e13, e15]
      clear e0 e1 e2 e3 e4 e5 e6 e7 e8 e9 e10 e11 e12 e13 e15
      replace hb13 := hb13.below hS2 hb13.lt
      have ha : Below w2.heap.size w2 w2 := Below.refl _ _
      have hne : (((rfV p fa fm fb fn).2) != ((rfV p fa fm fb fn).2)) = false := by simp
      go_wp2_with (first | refine wpList_load_blk rfl 25 _ rfl _ rfl 64 25 _ (hq13.below (by assumption) hq13.lt) 5 Try.underlying25 Try.size25 ?_ | refine wpList_load_blk rfl 25 _ rfl _ rfl 64 25 _ (hb13.below (by assumption) hb13.lt) 5 Try.underlying25 Try.size25 ?_ | (go_at_call 131; refine (acc (eqPoly_same _ _ (fun _ _ => rfl) _) (by assumption)).mono ?_; rintro e w3 ⟨rfl, h3, ha⟩))
      go_ret
      exact ⟨rfl, hb.trans ((hS1.trans ((hS2.trans (ha.mono hS2.size)).mono hS1.size)).mono hb.size)⟩
end Go.Proofs.Ytkaaffccklkafaa
