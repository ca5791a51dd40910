/-
  Walks of the exact laws.
-/
import Derived.Test.YtpeehpaghdddgaaW55
import Derived.Test.YtpeehpaghdddgaaInv
import Derived.OpenShut
namespace Go.Proofs.Ytpeehpaghdddgaa
open Go.RowKit
set_option linter.unusedVariables false
set_option linter.unusedSimpArgs false
set_option maxRecDepth 100000 in
set_option maxHeartbeats 3200000 in
theorem FnExactIrreduciblesOf_walk (p n : Int) (wp : (Lit.int .i64 p).wf = true) (wn : (Lit.int .i64 n).wf = true) (w : World) :
    Calls Try.prog 10 #[.int .i64 p, .int .i64 n] w fun e w' => e = .returned (.bool true) ∧ Below w.heap.size w w' := by
  have bdp := bounds_i64 wp
  have bdn := bounds_i64 wn
  have hR := (ilV_len p n)
  obtain ⟨K, hK⟩ : ∃ K, K = 1 + 64 * ((ilV p n).1).length := ⟨_, rfl⟩
  have hK1 : (K : Int) ≤ 1000000 := by omega
  have hK2 : ((K : Int) != (K : Int)) = false := by simp
  have hK3 : ¬ (K : Int) < 0 := by omega
  have hne : (((ilV p n).2) != ((ilV p n).2)) = false := by simp
  have HK := Lib.hid hK
  clear hK
  have HS := Lib.hid (fun W => spec_IrreduciblesOf_any p n W bdn.1 bdn.2)
  have HI := Lib.hid (fun W => impl_IrreduciblesOf_any p n W bdn.1 bdn.2)
  go_enter Try.func10, Try.ntmps10
  have hb : Below w.heap.size w w := Below.refl _ _
  go_upto_region 2 with (first | (go_at_call 45; refine (HS.out _).mono ?_; rintro e W2 ⟨v1, rfl, S1, h2⟩; have hzS1 := hb.size; replace hb := hb.trans (h2.mono hb.size)))
  obtain ⟨a1, cap1, rfl⟩ : ∃ a cap, v1 = .slice a ((ilV p n).1).length cap := by
    rcases S1.shape with ⟨h1, h2⟩ | ⟨g, cap, h1⟩
    · have h3 := congrArg List.length h2
      rw [plR_len] at h3
      exact ⟨_, _, by rw [h1, show ((ilV p n).1).length = 0 from h3]⟩
    · exact ⟨_, _, by rw [h1, plR_len]⟩
  have T1 := S1.top
  obtain ⟨top1, ht1⟩ : ∃ b, b = W2.heap.size := ⟨_, rfl⟩
  rw [← ht1] at T1
  have hsz := Nat.le_of_eq ht1
  clear ht1 S1
  go_upto_region 3 with (first | (go_at_call 46; refine (HI.out _).mono ?_; rintro e W4 ⟨v2, rfl, S2, h2⟩; have hzS2 := hb.size; replace T1 := T1.below h2 T1.lt; replace hb := hb.trans (h2.mono hb.size)))
  obtain ⟨a2, cap2, rfl⟩ : ∃ a cap, v2 = .slice a ((ilV p n).1).length cap := by
    rcases S2.shape with ⟨h1, h2⟩ | ⟨g, cap, h1⟩
    · have h3 := congrArg List.length h2
      rw [plR_len] at h3
      exact ⟨_, _, by rw [h1, show ((ilV p n).1).length = 0 from h3]⟩
    · exact ⟨_, _, by rw [h1, plR_len]⟩
  have hap : ∀ r, (Value.slice a1 ((ilV p n).1).length cap1).ownBlock = some r → ∀ r2, (Value.slice a2 ((ilV p n).1).length cap2).ownBlock = some r2 → r ≠ r2 := fun r hr r2 hr2 => by
    have e1 := T1.2 r hr
    have e2 := S2.own r2 hr2
    omega
  obtain ⟨base2, hb2⟩ : ∃ b, b = W2.heap.size := ⟨_, rfl⟩
  rw [← hb2] at S2 hzS2
  have S1 := T1.1
  have HAP := Lib.hid hap
  clear hb2 T1 hap hsz
  go_upto_region 6 with (first | (go_at_call 36; refine (eqPolyS_same ((ilV p n).1) a2 a1 cap2 cap1 base2 _ _ S2 S1 hR).mono ?_; rintro e W5 ⟨rfl, h2⟩; replace S1 := S1.below h2 S1.lt; replace S2 := S2.below h2 S2.lt; replace hb := hb.trans (h2.mono hb.size)))
  go_upto_region 8 with (first | (go_at_call 37; refine (markPolyS_any ((ilV p n).1).length a2 cap2 base2 _ (S2.marksP (plR_len ..)) hR).mono ?_; rintro e W6 ⟨rfl, M2, hG⟩; rw [← HK.out]))
  have hown := S2.own
  replace hb := hb.grown hG hb.size (fun k e => Nat.le_trans hzS2 (hown k e))
  replace S1 := slL_apart S1 hG (by
    cases hv : (Value.slice a1 ((ilV p n).1).length cap1).ownBlock with
    | none => exact .inl rfl
    | some r =>
      refine .inr fun h => ?_
      exact HAP.out r hv r h.symm rfl)
  clear S2 hG hown
  go_upto_region 13 with (first | (go_at_call 38; refine (heldPolyS_any ((ilV p n).1).length a2 cap2 base2 _ M2 hR).mono ?_; rintro e wS ⟨rfl, rfl⟩; rw [← HK.out]))
  go_upto_region 14 with (first | (go_at_call 46; refine (HI.out _).mono ?_; rintro e W8 ⟨v3, rfl, S3, h2⟩; have hzS3 := hb.size; replace S1 := S1.below h2 S1.lt; replace M2 := M2.below h2; replace hb := hb.trans (h2.mono hb.size)))
  obtain ⟨a3, cap3, rfl⟩ : ∃ a cap, v3 = .slice a ((ilV p n).1).length cap := by
    rcases S3.shape with ⟨h1, h2⟩ | ⟨g, cap, h1⟩
    · have h3 := congrArg List.length h2
      rw [plR_len] at h3
      exact ⟨_, _, by rw [h1, show ((ilV p n).1).length = 0 from h3]⟩
    · exact ⟨_, _, by rw [h1, plR_len]⟩
  go_upto_region 17 with (first | (go_at_call 36; refine (eqPolyS_same ((ilV p n).1) a3 a1 cap3 cap1 _ _ _ S3 S1 hR).mono ?_; rintro e W9 ⟨rfl, h2⟩; replace M2 := M2.below h2; replace hb := hb.trans (h2.mono hb.size)))
  clear S3 S1
  go_wp2_with (first | (go_at_call 38; refine (heldPolyS_any ((ilV p n).1).length a2 cap2 base2 _ M2 hR).mono ?_; rintro e wS ⟨rfl, rfl⟩; rw [← HK.out]))
  go_ret
  exact ⟨rfl, hb⟩
end Go.Proofs.Ytpeehpaghdddgaa
