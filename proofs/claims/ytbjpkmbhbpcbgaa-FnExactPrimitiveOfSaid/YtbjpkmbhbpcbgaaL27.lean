/-
  Walks of the exact laws.
-/
import Derived.Test.YtbjpkmbhbpcbgaaW64
import Derived.Test.YtbjpkmbhbpcbgaaInv
namespace Go.Proofs.Ytbjpkmbhbpcbgaa
open Go.RowKit
set_option linter.unusedVariables false
set_option linter.unusedSimpArgs false
set_option maxRecDepth 100000 in
set_option maxHeartbeats 1600000 in
theorem FnExactPrimitiveOf_walk (p : Int) (m : Nat → Nat) (hm : byte m) (w : World) :
    Calls Try.prog 4 #[.int .i64 p, .agg (bcells 64 m)] w fun e w' => e = .returned (.bool true) ∧ Below w.heap.size w w' := by
  go_enter Try.func4, Try.ntmps4
  go_upto_region 1 with (fail)
  obtain ⟨wo, hwo⟩ : ∃ wo : World, wo = (w.alloc (.cells (bcells 64 m) 22)) := ⟨_, rfl⟩
  have bm : Blk wo (w.heap.size) 64 22 m := by subst hwo; have := (Blk.new w 64 22 m); simpa using this
  have hb : Below w.heap.size w wo := by subst hwo; exact ((Below.refl _ _).alloc (Nat.le_refl _) _)
  rw [← hwo]
  clear hwo
  have ha : Below wo.heap.size wo wo := Below.refl _ _
  go_upto_region 2 with (first | refine wpList_load_blk rfl 22 _ rfl _ rfl 64 22 _ (bm.below (by assumption) bm.lt) 5 Try.underlying22 Try.size22 ?_ | (go_at_call 24; refine (acc (toPoly_any _ hm _) (by assumption)).mono ?_; rintro e w1z ⟨rfl, hz, ha⟩) | (go_at_call 27; refine (acc (spec_PrimitiveOf_any p m hm _) (by assumption)).mono ?_; rintro e w1z ⟨rfl, hz, ha⟩) | refine wpList_store_new rfl 23 _ _ rfl _ 23 64 ((prW p (cut m)).1) rfl rfl rfl Try.size23 ?_)
  have hb7 := Blk.new w1z 64 23 ((prW p (cut m)).1)
  have hS1 := ha.trans ((below_alloc' w1z (.cells (bcells 64 ((prW p (cut m)).1)) 23)).mono ha.size)
  clear ha
  obtain ⟨w1, hwx⟩ : ∃ v : World, v = w1z.alloc (.cells (bcells 64 ((prW p (cut m)).1)) 23) := ⟨_, rfl⟩
  rw [← hwx] at hb7 hS1 ⊢
  clear hwx
  obtain ⟨b7, hbi⟩ : ∃ b : Nat, b = w1z.heap.size := ⟨_, rfl⟩
  rw [← hbi] at hb7 ⊢
  clear hbi
  replace bm := bm.below hS1 bm.lt
  have ha : Below w1.heap.size w1 w1 := Below.refl _ _
  go_upto_region 3 with (first | refine wpList_load_blk rfl 22 _ rfl _ rfl 64 22 _ (bm.below (by assumption) bm.lt) 5 Try.underlying22 Try.size22 ?_ | (go_at_call 24; refine (acc (toPoly_any _ hm _) (by assumption)).mono ?_; rintro e w2z ⟨rfl, hz, ha⟩) | (go_at_call 28; refine (acc (impl_PrimitiveOf_any p m hm _) (by assumption)).mono ?_; rintro e w2z ⟨rfl, hz, ha⟩) | refine wpList_store_new rfl 23 _ _ rfl _ 23 64 ((prW p (cut m)).1) rfl rfl rfl Try.size23 ?_)
  have hq7 := Blk.new w2z 64 23 ((prW p (cut m)).1)
  have hS2 := ha.trans ((below_alloc' w2z (.cells (bcells 64 ((prW p (cut m)).1)) 23)).mono ha.size)
  clear ha
  obtain ⟨w2, hwx⟩ : ∃ v : World, v = w2z.alloc (.cells (bcells 64 ((prW p (cut m)).1)) 23) := ⟨_, rfl⟩
  rw [← hwx] at hq7 hS2 ⊢
  clear hwx
  obtain ⟨q7, hbi⟩ : ∃ b : Nat, b = w2z.heap.size := ⟨_, rfl⟩
  rw [← hbi] at hq7 ⊢
  clear hbi
  replace hb7 := hb7.below hS2 hb7.lt
  have ha : Below w2.heap.size w2 w2 := Below.refl _ _
  have hne : (((prW p (cut m)).2) != ((prW p (cut m)).2)) = false := by simp
  go_wp2_with (first | refine wpList_load_blk rfl 23 _ rfl _ rfl 64 23 _ (hq7.below (by assumption) hq7.lt) 5 Try.underlying23 Try.size23 ?_ | refine wpList_load_blk rfl 23 _ rfl _ rfl 64 23 _ (hb7.below (by assumption) hb7.lt) 5 Try.underlying23 Try.size23 ?_ | (go_at_call 26; refine (acc (eqPoly_same _ _ (fun _ _ => rfl) _) (by assumption)).mono ?_; rintro e w3 ⟨rfl, h3, ha⟩))
  go_ret
  exact ⟨rfl, hb.trans ((hS1.trans ((hS2.trans (ha.mono hS2.size)).mono hS1.size)).mono hb.size)⟩
end Go.Proofs.Ytbjpkmbhbpcbgaa
