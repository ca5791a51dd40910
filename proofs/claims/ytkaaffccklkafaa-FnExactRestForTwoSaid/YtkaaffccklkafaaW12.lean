/-
  Walks: the model's product behind its checks.
-/
import Derived.Test.YtkaaffccklkafaaW11
namespace Go.Proofs.Ytkaaffccklkafaa
open Go.RowKit
set_option linter.unusedVariables false
set_option maxRecDepth 100000 in
set_option maxHeartbeats 1600000 in
theorem spec_MultiplyPolys_any (p : Int) (f g : Nat → Nat) (hf : byte f) (hg : byte g) (w : World) :
    Calls Try.prog 34 #[.int .i64 p, .agg (bcells 64 f), .agg (bcells 64 g)] w fun e w' => e = .returned (.tuple #[.agg (bcells 64 (mulV p f g).1), .int .i64 (mulV p f g).2]) ∧ Below w.heap.size w w' := by
  go_enter Try.func34, Try.ntmps34
  go_upto_region 1 with (fail)
  obtain ⟨wo, hwo⟩ : ∃ wo : World, wo = (((w.alloc (.cells (bcells 64 f) 25)).alloc (.cells (bcells 64 g) 25)).alloc (.cells (bcells 64 fun _ => 0) 25)) := ⟨_, rfl⟩
  have b0 : Blk wo (w.heap.size) 64 25 f := by subst hwo; have := (((Blk.new w 64 25 f).alloc (.cells (bcells 64 g) 25)).alloc (.cells (bcells 64 fun _ => 0) 25)); simpa using this
  have b1 : Blk wo (w.heap.size + 1) 64 25 g := by subst hwo; have := ((Blk.new (w.alloc (.cells (bcells 64 f) 25)) 64 25 g).alloc (.cells (bcells 64 fun _ => 0) 25)); simpa using this
  have b2 : Blk wo (w.heap.size + 1 + 1) 64 25 (fun _ => 0) := by subst hwo; have := (Blk.new ((w.alloc (.cells (bcells 64 f) 25)).alloc (.cells (bcells 64 g) 25)) 64 25 (fun _ => 0)); simpa using this
  have hb : Below w.heap.size w wo := by subst hwo; exact ((((Below.refl _ _).alloc (Nat.le_refl _) _).alloc (by simp) _).alloc (by simp; omega) _)
  rw [← zero64, ← hwo]
  clear hwo
  go_upto_region 2 with (first | refine wpList_load_blk rfl 25 _ rfl _ rfl 64 25 _ (b0) 5 Try.underlying25 Try.size25 ?_ | refine wpList_load_blk rfl 25 _ rfl _ rfl 64 25 _ (b1) 5 Try.underlying25 Try.size25 ?_ | (refine wpList_build_polys rfl 57 _ [f, g] rfl 25 rfl Try.underlying57 Try.elem25 (by simp) (by simp) rfl ?_; intro wa hwa hps hba; clear hwa) | (go_at_call 145; refine (l01Code_any p [f, g] (by simp [hf, hg]) _ _ hps (by simp)).mono ?_; rintro e wb ⟨rfl, hbb⟩))
  have hB : Below wo.heap.size wo wb := hba.trans (hbb.mono hba.size)
  replace b0 := b0.below hB b0.lt
  replace b1 := b1.below hB b1.lt
  replace b2 := b2.below hB b2.lt
  replace hb := hb.trans (hB.mono hb.size)
  clear hB hba hbb hps
  rcases codeL_two p [f, g] with hc | hc
  · obtain ⟨n, hn, n2, n7⟩ := okP_nat (codeL_zero hc).1
    subst hn
    have lf := lt_of_code hc (f := f) (by simp)
    have lg := lt_of_code hc (f := g) (by simp)
    by_cases hlim : deg f + deg g ≤ 63
    · have HV := Lib.hid (mulV_ok hc hlim)
      have HT := Lib.hid (show tmV n f g = (prd n f g, true) from if_pos hlim)
      rw [hc]
      clear hc
      go_upto_region 5 with (first | refine wpList_load_blk rfl 25 _ rfl _ rfl 64 25 _ (b0) 5 Try.underlying25 Try.size25 ?_ | refine wpList_load_blk rfl 25 _ rfl _ rfl 64 25 _ (b1) 5 Try.underlying25 Try.size25 ?_ | (go_at_call 146; refine (l01Times_any n f g _ n2 n7 lf lg).mono ?_; rw [HT.out]; rintro e w1 ⟨rfl, h1⟩) | refine wpList_store_new rfl 25 _ _ rfl _ 25 64 ((prd n f g)) rfl rfl rfl Try.size25 ?_)
      have b9 := Blk.new w1 64 25 (prd n f g)
      replace b2 := (b2.below h1 b2.lt).alloc (.cells (bcells 64 (prd n f g)) 25)
      replace hb := hb.trans ((h1.trans ((below_alloc' w1 (.cells (bcells 64 (prd n f g)) 25)).mono h1.size)).mono hb.size)
      go_wp2_with (first | refine wpList_load_blk rfl 25 _ rfl _ rfl 64 25 _ (b9) 5 Try.underlying25 Try.size25 ?_ | refine wpList_store_blk rfl 25 _ _ rfl _ 64 (_) rfl rfl 25 _ (b2) Try.size25 ?_)
      refine bodyPost_ret (results_bt rfl _ _ _ 64 25 5 _ rfl (b2.row _) Try.underlying25 Try.size25) rfl ⟨by rw [HV.out]; rfl, below_setRow hb (by omega) _⟩
    · have HV := Lib.hid (mulV_lim hc hlim)
      have HT := Lib.hid (show tmV n f g = (fun _ => 0, false) from if_neg hlim)
      rw [hc]
      clear hc
      go_upto_region 5 with (first | refine wpList_load_blk rfl 25 _ rfl _ rfl 64 25 _ (b0) 5 Try.underlying25 Try.size25 ?_ | refine wpList_load_blk rfl 25 _ rfl _ rfl 64 25 _ (b1) 5 Try.underlying25 Try.size25 ?_ | (go_at_call 146; refine (l01Times_any n f g _ n2 n7 lf lg).mono ?_; rw [HT.out]; rintro e w1 ⟨rfl, h1⟩) | refine wpList_store_new rfl 25 _ _ rfl _ 25 64 ((fun _ => 0)) rfl rfl rfl Try.size25 ?_)
      have b9 := Blk.new w1 64 25 (fun _ => 0)
      replace b2 := (b2.below h1 b2.lt).alloc (.cells (bcells 64 (fun _ => 0)) 25)
      replace hb := hb.trans ((h1.trans ((below_alloc' w1 (.cells (bcells 64 (fun _ => 0)) 25)).mono h1.size)).mono hb.size)
      go_wp2_with (first | refine wpList_store_blk rfl 25 _ _ rfl _ 64 (fun _ => 0) rfl (congrArg Value.agg zero64.symm) 25 _ (b2) Try.size25 ?_)
      refine bodyPost_ret (results_bt rfl _ _ _ 64 25 5 _ rfl (b2.row _) Try.underlying25 Try.size25) rfl ⟨by rw [HV.out]; rfl, below_setRow hb (by omega) _⟩
  · have HV := Lib.hid (mulV_bad hc)
    rw [hc]
    clear hc
    go_wp2_with (first | refine wpList_store_blk rfl 25 _ _ rfl _ 64 (fun _ => 0) rfl (congrArg Value.agg zero64.symm) 25 _ (b2) Try.size25 ?_)
    refine bodyPost_ret (results_bt rfl _ _ _ 64 25 5 _ rfl (b2.row _) Try.underlying25 Try.size25) rfl ⟨by rw [HV.out]; rfl, below_setRow hb (by omega) _⟩
end Go.Proofs.Ytkaaffccklkafaa
