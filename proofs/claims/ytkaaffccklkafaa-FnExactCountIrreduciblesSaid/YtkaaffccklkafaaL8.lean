/-
  Walks of the exact laws.
-/
import Derived.Test.YtkaaffccklkafaaX1
import Derived.Test.YtkaaffccklkafaaInv
import Derived.OpenShut
namespace Go.Proofs.Ytkaaffccklkafaa
open Go.RowKit
set_option linter.unusedVariables false
set_option linter.unusedSimpArgs false
set_option maxRecDepth 100000 in
set_option maxHeartbeats 800000 in
theorem FnExactCountIrreducibles_walk (p : Int) (n : Int)  (wp : (Lit.int .i64 p).wf = true) (wn : (Lit.int .i64 n).wf = true) (w : World) :
    Calls Try.prog 21 #[.int .i64 p, .int .i64 n] w fun e w' => e = .returned (.bool true) ∧ Below w.heap.size w w' := by
  have bdp := bounds_i64 wp
  have bdn := bounds_i64 wn
  go_enter Try.func21, Try.ntmps21
  go_upto_region 1 with (fail)
  obtain ⟨wo, hwo⟩ : ∃ wo : World, wo = w := ⟨_, rfl⟩
  have hb : Below w.heap.size w wo := by subst hwo; exact (Below.refl _ _)
  rw [← hwo]
  clear hwo
  have ha : Below wo.heap.size wo wo := Below.refl _ _
  have hne0 : (((ciA p n).1) != ((ciA p n).1)) = false := by simp
  have hne1 : (((ciA p n).2) != ((ciA p n).2)) = false := by simp
  go_wp2_with (first | (go_at_call 103; refine (acc (spec_CountIrreducibles_any p n _) (by assumption)).mono ?_; rintro e w1 ⟨rfl, h1, ha⟩) | (go_at_call 102; refine (acc (impl_CountIrreducibles_b p n _) (by assumption)).mono ?_; rintro e w1 ⟨rfl, h1, ha⟩))
  go_ret
  exact ⟨rfl, hb.trans (ha.mono hb.size)⟩
end Go.Proofs.Ytkaaffccklkafaa
