/-
  Walks of the exact laws.
-/
import Derived.Test.YtdajffcljlmfpaaW8
import Derived.Test.YtdajffcljlmfpaaInv
namespace Go.Proofs.Ytdajffcljlmfpaa
open Go.RowKit
set_option linter.unusedVariables false
set_option linter.unusedSimpArgs false
set_option maxRecDepth 100000 in
set_option maxHeartbeats 1600000 in
theorem FnExactPolyOfNumber_walk (p : Int) (n : Int)  (w : World) :
    Calls Try.prog 22 #[.int .i64 p, .int .i64 n] w fun e w' => e = .returned (.bool true) ∧ Below w.heap.size w w' := by
  go_enter Try.func22, Try.ntmps22
  go_upto_region 1 with (fail)
  obtain ⟨wo, hwo⟩ : ∃ wo : World, wo = w := ⟨_, rfl⟩
  have hb : Below w.heap.size w wo := by subst hwo; exact (Below.refl _ _)
  rw [← hwo]
  clear hwo
  have ha : Below wo.heap.size wo wo := Below.refl _ _
  go_upto_region 2 with (first | (go_at_call 77; refine (acc (spec_PolyOfNumber_any p n _) (by assumption)).mono ?_; rintro e w1z ⟨rfl, hz, ha⟩) | refine wpList_store_new rfl 25 _ _ rfl _ 25 64 ((pnV p n).1) rfl rfl rfl Try.size25 ?_)
  have hb6 := Blk.new w1z 64 25 ((pnV p n).1)
  have hS1 := ha.trans ((below_alloc' w1z (.cells (bcells 64 ((pnV p n).1)) 25)).mono ha.size)
  clear ha
  obtain ⟨w1, hwx⟩ : ∃ v : World, v = w1z.alloc (.cells (bcells 64 ((pnV p n).1)) 25) := ⟨_, rfl⟩
  rw [← hwx] at hb6 hS1 ⊢
  clear hwx
  obtain ⟨b6, hbi⟩ : ∃ b : Nat, b = w1z.heap.size := ⟨_, rfl⟩
  rw [← hbi] at hb6 ⊢
  clear hbi
  have ha : Below w1.heap.size w1 w1 := Below.refl _ _
  go_upto_region 3 with (first | (go_at_call 40; refine (acc (impl_PolyOfNumber_any p n _) (by assumption)).mono ?_; rintro e w2z ⟨rfl, hz, ha⟩) | refine wpList_store_new rfl 25 _ _ rfl _ 25 64 ((pnV p n).1) rfl rfl rfl Try.size25 ?_)
  have hq6 := Blk.new w2z 64 25 ((pnV p n).1)
  have hS2 := ha.trans ((below_alloc' w2z (.cells (bcells 64 ((pnV p n).1)) 25)).mono ha.size)
  clear ha
  obtain ⟨w2, hwx⟩ : ∃ v : World, v = w2z.alloc (.cells (bcells 64 ((pnV p n).1)) 25) := ⟨_, rfl⟩
  rw [← hwx] at hq6 hS2 ⊢
  clear hwx
  obtain ⟨q6, hbi⟩ : ∃ b : Nat, b = w2z.heap.size := ⟨_, rfl⟩
  rw [← hbi] at hq6 ⊢
  clear hbi
  replace hb6 := hb6.below hS2 hb6.lt
  have ha : Below w2.heap.size w2 w2 := Below.refl _ _
  have hne : (((pnV p n).2) != ((pnV p n).2)) = false := by simp
  go_wp2_with (first | refine wpList_load_blk rfl 25 _ rfl _ rfl 64 25 _ (hq6.below (by assumption) hq6.lt) 5 Try.underlying25 Try.size25 ?_ | refine wpList_load_blk rfl 25 _ rfl _ rfl 64 25 _ (hb6.below (by assumption) hb6.lt) 5 Try.underlying25 Try.size25 ?_ | (go_at_call 86; refine (acc (eqPoly_same _ _ (fun _ _ => rfl) _) (by assumption)).mono ?_; rintro e w3 ⟨rfl, h3, ha⟩))
  go_ret
  exact ⟨rfl, hb.trans ((hS1.trans ((hS2.trans (ha.mono hS2.size)).mono hS1.size)).mono hb.size)⟩
end Go.Proofs.Ytdajffcljlmfpaa
