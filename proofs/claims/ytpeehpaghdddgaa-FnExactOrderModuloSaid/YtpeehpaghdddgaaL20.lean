/-
  Walks of the exact laws.
-/
import Derived.Test.YtpeehpaghdddgaaW47
import Derived.Test.YtpeehpaghdddgaaInv
import Derived.OpenShut
namespace Go.Proofs.Ytpeehpaghdddgaa
open Go.RowKit
set_option linter.unusedVariables false
set_option linter.unusedSimpArgs false
set_option maxRecDepth 100000 in
set_option maxHeartbeats 800000 in
theorem FnExactOrderModulo_walk (p : Int) (f : Nat → Nat) (m : Nat → Nat) (hf : byte f) (hm : byte m) (wp : (Lit.int .i64 p).wf = true) (w : World) :
    Calls Try.prog 14 #[.int .i64 p, .agg (bcells 64 f), .agg (bcells 64 m)] w fun e w' => e = .returned (.bool true) ∧ Below w.heap.size w w' := by
  have bdp := bounds_i64 wp
  go_enter Try.func14, Try.ntmps14
  go_upto_region 1 with (fail)
  obtain ⟨wo, hwo⟩ : ∃ wo : World, wo = ((w.alloc (.cells (bcells 64 f) 22)).alloc (.cells (bcells 64 m) 22)) := ⟨_, rfl⟩
  have bf : Blk wo (w.heap.size) 64 22 f := by subst hwo; have := ((Blk.new w 64 22 f).alloc (.cells (bcells 64 m) 22)); simpa using this
  have bm : Blk wo (w.heap.size + 1) 64 22 m := by subst hwo; have := (Blk.new (w.alloc (.cells (bcells 64 f) 22)) 64 22 m); simpa using this
  have hb : Below w.heap.size w wo := by subst hwo; exact (((Below.refl _ _).alloc (Nat.le_refl _) _).alloc (by simp) _)
  rw [← hwo]
  clear hwo
  have ha : Below wo.heap.size wo wo := Below.refl _ _
  have hne0 : (((orV p f m).1) != ((orV p f m).1)) = false := by simp
  have hne1 : (((orV p f m).2) != ((orV p f m).2)) = false := by simp
  go_wp2_with (first | refine wpList_load_blk rfl 22 _ rfl _ rfl 64 22 _ (bf.below (by assumption) bf.lt) 5 Try.underlying22 Try.size22 ?_ | refine wpList_load_blk rfl 22 _ rfl _ rfl 64 22 _ (bm.below (by assumption) bm.lt) 5 Try.underlying22 Try.size22 ?_ | (go_at_call 24; refine (acc (toPoly_any _ hf _) (by assumption)).mono ?_; rintro e w1 ⟨rfl, h1, ha⟩) | (go_at_call 24; refine (acc (toPoly_any _ hm _) (by assumption)).mono ?_; rintro e w1 ⟨rfl, h1, ha⟩) | (go_at_call 56; refine (acc (spec_OrderModulo_any p f m hf hm _) (by assumption)).mono ?_; rintro e w1 ⟨rfl, h1, ha⟩) | (go_at_call 57; refine (acc (impl_OrderModulo_any p f m hf hm _) (by assumption)).mono ?_; rintro e w1 ⟨rfl, h1, ha⟩))
  go_ret
  exact ⟨rfl, hb.trans (ha.mono hb.size)⟩
end Go.Proofs.Ytpeehpaghdddgaa
