/-
  Walks of the exact laws.
-/
import Derived.Test.YtpeehpaghdddgaaW53
import Derived.Test.YtpeehpaghdddgaaInv
namespace Go.Proofs.Ytpeehpaghdddgaa
open Go.RowKit
set_option linter.unusedVariables false
set_option linter.unusedSimpArgs false
set_option maxRecDepth 100000 in
set_option maxHeartbeats 3200000 in
theorem FnExactRootsOf_walk (p : Int) (f : Nat → Nat) (hf : byte f) (w : World) :
    Calls Try.prog 3 #[.int .i64 p, .agg (bcells 64 f)] w fun e w' => e = .returned (.bool true) ∧ Below w.heap.size w w' := by
  have hR := (rtV_len p f)
  obtain ⟨K, hK⟩ : ∃ K, K = 1 + ((rtV p f).1).length := ⟨_, rfl⟩
  have hK1 : (K : Int) ≤ 1000000 := by omega
  have hK2 : ((K : Int) != (K : Int)) = false := by simp
  have hK3 : ¬ (K : Int) < 0 := by omega
  have hne : (((rtV p f).2) != ((rtV p f).2)) = false := by simp
  have HK := Lib.hid hK
  clear hK
  go_enter Try.func3, Try.ntmps3
  go_upto_region 1 with (fail)
  obtain ⟨wo, hwo⟩ : ∃ wo : World, wo = (w.alloc (.cells (bcells 64 f) 22)) := ⟨_, rfl⟩
  have B0 : Blk wo w.heap.size 64 22 f := by subst hwo; have := Blk.new w 64 22 f; simpa using this
  have hb : Below w.heap.size w wo := by subst hwo; exact ((Below.refl _ _).alloc (Nat.le_refl _) _)
  rw [← hwo]
  clear hwo
  go_upto_region 2 with (first | refine wpList_load_blk rfl 22 _ rfl _ rfl 64 22 _ (B0) 5 Try.underlying22 Try.size22 ?_ | (go_at_call 24; refine (toPoly_any _ hf _).mono ?_; rintro e W1 ⟨rfl, h1⟩; replace B0 := B0.below h1 B0.lt; replace hb := hb.trans (h1.mono hb.size)) | (go_at_call 23; refine (spec_RootsOf_any p f hf _).mono ?_; rintro e W2 ⟨v1, rfl, S1, h2⟩; have hzS1 := hb.size; have hltS1 := B0.lt; replace B0 := B0.below h2 B0.lt; replace hb := hb.trans (h2.mono hb.size)))
  obtain ⟨a1, cap1, rfl⟩ : ∃ a cap, v1 = .slice a ((rtV p f).1).length cap := by
    rcases S1.shape with ⟨h1, h2⟩ | ⟨g, cap, h1⟩
    · have h3 := congrArg List.length h2
      rw [ilR_len] at h3
      exact ⟨_, _, by rw [h1, show ((rtV p f).1).length = 0 from h3]⟩
    · exact ⟨_, _, by rw [h1, ilR_len]⟩
  obtain ⟨base1, hb1⟩ : ∃ b, b = W1.heap.size := ⟨_, rfl⟩
  rw [← hb1] at S1
  have T1 := S1.top
  obtain ⟨top1, ht1⟩ : ∃ b, b = W2.heap.size := ⟨_, rfl⟩
  rw [← ht1] at T1
  have hsz := Nat.le_of_eq ht1
  clear hb1 ht1 S1
  have Z1 : SzG top1 W2 := hsz
  go_upto_region 3 with (first | refine wpList_load_blk rfl 22 _ rfl _ rfl 64 22 _ (B0) 5 Try.underlying22 Try.size22 ?_ | (go_at_call 24; refine (toPoly_any _ hf _).mono ?_; rintro e W1 ⟨rfl, h1⟩; replace B0 := B0.below h1 B0.lt; replace T1 := T1.below h1 T1.lt; replace Z1 := Z1.below h1 Z1.lt; replace hb := hb.trans (h1.mono hb.size)) | (go_at_call 25; refine (impl_RootsOf_any p f hf _).mono ?_; rintro e W4 ⟨v2, rfl, S2, h2⟩; have hzS2 := hb.size; have hltS2 := B0.lt; replace B0 := B0.below h2 B0.lt; replace T1 := T1.below h2 T1.lt; replace hb := hb.trans (h2.mono hb.size)))
  obtain ⟨a2, cap2, rfl⟩ : ∃ a cap, v2 = .slice a ((rtV p f).1).length cap := by
    rcases S2.shape with ⟨h1, h2⟩ | ⟨g, cap, h1⟩
    · have h3 := congrArg List.length h2
      rw [ilR_len] at h3
      exact ⟨_, _, by rw [h1, show ((rtV p f).1).length = 0 from h3]⟩
    · exact ⟨_, _, by rw [h1, ilR_len]⟩
  have hap : ∀ r, (Value.slice a1 ((rtV p f).1).length cap1).ownBlock = some r → ∀ r2, (Value.slice a2 ((rtV p f).1).length cap2).ownBlock = some r2 → r ≠ r2 := fun r hr r2 hr2 => by
    have e1 := T1.2 r hr
    have e2 := S2.own r2 hr2
    have e3 := Z1.lt
    omega
  obtain ⟨base2, hb2⟩ : ∃ b, b = W1.heap.size := ⟨_, rfl⟩
  rw [← hb2] at S2 hzS2
  have S1 := T1.1
  have HAP := Lib.hid hap
  have hwb : w.heap.size < base2 := by rw [hb2]; exact hltS2
  clear hb2 T1 Z1 hap hsz
  go_upto_region 6 with (first | (go_at_call 26; refine (eqInt64S_same  ((rtV p f).1) a2 a1 cap2 cap1 base2 base1 _ S2 S1 hR).mono ?_; rintro e W5 ⟨rfl, h2⟩; replace B0 := B0.below h2 B0.lt; replace S1 := S1.below h2 S1.lt; replace S2 := S2.below h2 S2.lt; replace hb := hb.trans (h2.mono hb.size)))
  go_upto_region 8 with (first | (go_at_call 27; refine (markInt64S_any ((rtV p f).1).length a2 cap2 base2 _ (S2.marksI (ilR_len ..)) hR).mono ?_; rintro e W6 ⟨rfl, M2, hG⟩; rw [← HK.out]))
  have hown := S2.own
  replace B0 := B0.grownO hG hown (base := base2) hwb
  replace hb := hb.grown hG hb.size (fun k e => Nat.le_trans (Nat.le_of_lt hwb) (hown k e))
  replace S1 := slL_apart S1 hG (by
    cases hv : (Value.slice a1 ((rtV p f).1).length cap1).ownBlock with
    | none => exact .inl rfl
    | some r =>
      refine .inr fun h => ?_
      exact HAP.out r hv r h.symm rfl)
  clear S2 hG hown
  go_upto_region 13 with (first | (go_at_call 28; refine (heldInt64S_any ((rtV p f).1).length a2 cap2 base2 _ M2 hR).mono ?_; rintro e wS ⟨rfl, rfl⟩; rw [← HK.out]))
  go_upto_region 14 with (first | refine wpList_load_blk rfl 22 _ rfl _ rfl 64 22 _ (B0) 5 Try.underlying22 Try.size22 ?_ | (go_at_call 24; refine (toPoly_any _ hf _).mono ?_; rintro e W1 ⟨rfl, h1⟩; replace B0 := B0.below h1 B0.lt; replace S1 := S1.below h1 S1.lt; replace M2 := M2.below h1; replace hb := hb.trans (h1.mono hb.size)) | (go_at_call 25; refine (impl_RootsOf_any p f hf _).mono ?_; rintro e W8 ⟨v3, rfl, S3, h2⟩; have hzS3 := hb.size; have hltS3 := B0.lt; replace B0 := B0.below h2 B0.lt; replace S1 := S1.below h2 S1.lt; replace M2 := M2.below h2; replace hb := hb.trans (h2.mono hb.size)))
  obtain ⟨a3, cap3, rfl⟩ : ∃ a cap, v3 = .slice a ((rtV p f).1).length cap := by
    rcases S3.shape with ⟨h1, h2⟩ | ⟨g, cap, h1⟩
    · have h3 := congrArg List.length h2
      rw [ilR_len] at h3
      exact ⟨_, _, by rw [h1, show ((rtV p f).1).length = 0 from h3]⟩
    · exact ⟨_, _, by rw [h1, ilR_len]⟩
  go_upto_region 17 with (first | (go_at_call 26; refine (eqInt64S_same  ((rtV p f).1) a3 a1 cap3 cap1 _ base1 _ S3 S1 hR).mono ?_; rintro e W9 ⟨rfl, h2⟩; replace B0 := B0.below h2 B0.lt; replace M2 := M2.below h2; replace hb := hb.trans (h2.mono hb.size)))
  clear S3 S1
  go_wp2_with (first | (go_at_call 28; refine (heldInt64S_any ((rtV p f).1).length a2 cap2 base2 _ M2 hR).mono ?_; rintro e wS ⟨rfl, rfl⟩; rw [← HK.out]))
  go_ret
  exact ⟨rfl, hb⟩
end Go.Proofs.Ytpeehpaghdddgaa
