/-
  Walks of the exact laws.
-/
import Derived.Test.YtdajffcljlmfpaaW9
import Derived.Test.YtdajffcljlmfpaaInv
namespace Go.Proofs.Ytdajffcljlmfpaa
open Go.RowKit
set_option linter.unusedVariables false
set_option linter.unusedSimpArgs false
set_option maxRecDepth 100000 in
set_option maxHeartbeats 1600000 in
theorem FnExactDerivativeOf_walk (p : Int) (f : Nat → Nat) (hf : byte f) (w : World) :
    Calls Try.prog 16 #[.int .i64 p, .agg (bcells 64 f)] w fun e w' => e = .returned (.bool true) ∧ Below w.heap.size w w' := by
  go_enter Try.func16, Try.ntmps16
  go_upto_region 1 with (fail)
  obtain ⟨wo, hwo⟩ : ∃ wo : World, wo = (w.alloc (.cells (bcells 64 f) 24)) := ⟨_, rfl⟩
  have bf : Blk wo (w.heap.size) 64 24 f := by subst hwo; have := (Blk.new w 64 24 f); simpa using this
  have hb : Below w.heap.size w wo := by subst hwo; exact ((Below.refl _ _).alloc (Nat.le_refl _) _)
  rw [← hwo]
  clear hwo
  have ha : Below wo.heap.size wo wo := Below.refl _ _
  go_upto_region 2 with (first | refine wpList_load_blk rfl 24 _ rfl _ rfl 64 24 _ (bf.below (by assumption) bf.lt) 5 Try.underlying24 Try.size24 ?_ | (go_at_call 85; refine (acc (toPoly_any _ hf _) (by assumption)).mono ?_; rintro e w1z ⟨rfl, hz, ha⟩) | (go_at_call 58; refine (acc (spec_DerivativeOf_any p f hf _) (by assumption)).mono ?_; rintro e w1z ⟨rfl, hz, ha⟩) | refine wpList_store_new rfl 25 _ _ rfl _ 25 64 ((dvV p f).1) rfl rfl rfl Try.size25 ?_)
  have hb7 := Blk.new w1z 64 25 ((dvV p f).1)
  have hS1 := ha.trans ((below_alloc' w1z (.cells (bcells 64 ((dvV p f).1)) 25)).mono ha.size)
  clear ha
  obtain ⟨w1, hwx⟩ : ∃ v : World, v = w1z.alloc (.cells (bcells 64 ((dvV p f).1)) 25) := ⟨_, rfl⟩
  rw [← hwx] at hb7 hS1 ⊢
  clear hwx
  obtain ⟨b7, hbi⟩ : ∃ b : Nat, b = w1z.heap.size := ⟨_, rfl⟩
  rw [← hbi] at hb7 ⊢
  clear hbi
  replace bf := bf.below hS1 bf.lt
  have ha : Below w1.heap.size w1 w1 := Below.refl _ _
  go_upto_region 3 with (first | refine wpList_load_blk rfl 24 _ rfl _ rfl 64 24 _ (bf.below (by assumption) bf.lt) 5 Try.underlying24 Try.size24 ?_ | (go_at_call 85; refine (acc (toPoly_any _ hf _) (by assumption)).mono ?_; rintro e w2z ⟨rfl, hz, ha⟩) | (go_at_call 57; refine (acc (impl_DerivativeOf_any p f hf _) (by assumption)).mono ?_; rintro e w2z ⟨rfl, hz, ha⟩) | refine wpList_store_new rfl 25 _ _ rfl _ 25 64 ((dvV p f).1) rfl rfl rfl Try.size25 ?_)
  have hq7 := Blk.new w2z 64 25 ((dvV p f).1)
  have hS2 := ha.trans ((below_alloc' w2z (.cells (bcells 64 ((dvV p f).1)) 25)).mono ha.size)
  clear ha
  obtain ⟨w2, hwx⟩ : ∃ v : World, v = w2z.alloc (.cells (bcells 64 ((dvV p f).1)) 25) := ⟨_, rfl⟩
  rw [← hwx] at hq7 hS2 ⊢
  clear hwx
  obtain ⟨q7, hbi⟩ : ∃ b : Nat, b = w2z.heap.size := ⟨_, rfl⟩
  rw [← hbi] at hq7 ⊢
  clear hbi
  replace hb7 := hb7.below hS2 hb7.lt
  have ha : Below w2.heap.size w2 w2 := Below.refl _ _
  have hne : (((dvV p f).2) != ((dvV p f).2)) = false := by simp
  go_wp2_with (first | refine wpList_load_blk rfl 25 _ rfl _ rfl 64 25 _ (hq7.below (by assumption) hq7.lt) 5 Try.underlying25 Try.size25 ?_ | refine wpList_load_blk rfl 25 _ rfl _ rfl 64 25 _ (hb7.below (by assumption) hb7.lt) 5 Try.underlying25 Try.size25 ?_ | (go_at_call 86; refine (acc (eqPoly_same _ _ (fun _ _ => rfl) _) (by assumption)).mono ?_; rintro e w3 ⟨rfl, h3, ha⟩))
  go_ret
  exact ⟨rfl, hb.trans ((hS1.trans ((hS2.trans (ha.mono hS2.size)).mono hS1.size)).mono hb.size)⟩
end Go.Proofs.Ytdajffcljlmfpaa
