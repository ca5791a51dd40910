/-
  Walks of the exact laws.
-/
import Derived.Test.YtpeehpaghdddgaaW46
import Derived.Test.YtpeehpaghdddgaaInv
import Derived.OpenShut
namespace Go.Proofs.Ytpeehpaghdddgaa
open Go.RowKit
set_option linter.unusedVariables false
set_option linter.unusedSimpArgs false
set_option maxRecDepth 100000 in
set_option maxHeartbeats 800000 in
theorem FnExactEulerOf_walk (p : Int) (f : Nat → Nat) (hf : byte f) (wp : (Lit.int .i64 p).wf = true) (w : World) :
    Calls Try.prog 13 #[.int .i64 p, .agg (bcells 64 f)] w fun e w' => e = .returned (.bool true) ∧ Below w.heap.size w w' := by
  have bdp := bounds_i64 wp
  go_enter Try.func13, Try.ntmps13
  go_upto_region 1 with (fail)
  obtain ⟨wo, hwo⟩ : ∃ wo : World, wo = (w.alloc (.cells (bcells 64 f) 22)) := ⟨_, rfl⟩
  have bf : Blk wo (w.heap.size) 64 22 f := by subst hwo; have := (Blk.new w 64 22 f); simpa using this
  have hb : Below w.heap.size w wo := by subst hwo; exact ((Below.refl _ _).alloc (Nat.le_refl _) _)
  rw [← hwo]
  clear hwo
  have ha : Below wo.heap.size wo wo := Below.refl _ _
  have hne0 : (((euV p f).1) != ((euV p f).1)) = false := by simp
  have hne1 : (((euV p f).2) != ((euV p f).2)) = false := by simp
  go_wp2_with (first | refine wpList_load_blk rfl 22 _ rfl _ rfl 64 22 _ (bf.below (by assumption) bf.lt) 5 Try.underlying22 Try.size22 ?_ | (go_at_call 24; refine (acc (toPoly_any _ hf _) (by assumption)).mono ?_; rintro e w1 ⟨rfl, h1, ha⟩) | (go_at_call 54; refine (acc (spec_EulerOf_any p f hf _) (by assumption)).mono ?_; rintro e w1 ⟨rfl, h1, ha⟩) | (go_at_call 55; refine (acc (impl_EulerOf_any p f hf _) (by assumption)).mono ?_; rintro e w1 ⟨rfl, h1, ha⟩))
  go_ret
  exact ⟨rfl, hb.trans (ha.mono hb.size)⟩
end Go.Proofs.Ytpeehpaghdddgaa
