/-
  Walks: sums and differences behind their checks.
-/
import Derived.Test.YtkaaffccklkafaaW3
namespace Go.Proofs.Ytkaaffccklkafaa
open Go.RowKit
set_option linter.unusedVariables false
theorem Try.elem25 : (Try.prog.info? 25).map (fun i => (i.size, i.zero.isSome)) = some (64, true) := by kernel_rfl
theorem codeL_two (p : Int) (fs : List (Nat → Nat)) : codeL p fs = 0 ∨ codeL p fs = 1 := by
  unfold codeL; split <;> simp
theorem codeL_zero {p : Int} {fs : List (Nat → Nat)} (h : codeL p fs = 0) : okP p = true ∧ ∀ f ∈ fs, okA p f = true := by
  unfold codeL at h
  split at h
  · rename_i h'
    simpa [List.all_eq_true] using h'
  · cases h
theorem codeL_two_ok {p : Int} {f g : Nat → Nat} (h : codeL p [f, g] = 0) : ∃ n : Nat, p = (n : Int) ∧ 2 ≤ n ∧ n ≤ 7 ∧ (∀ i, i < 64 → f i < n) ∧ (∀ i, i < 64 → g i < n) := by
  obtain ⟨hp, hl⟩ := codeL_zero h
  have h1 := hl f (by simp)
  have h2 := hl g (by simp)
  have := okP_le hp
  refine ⟨p.toNat, by omega, by omega, by omega, fun i hi => ?_, fun i hi => ?_⟩
  · have := okA_lt h1 hi; omega
  · have := okA_lt h2 hi; omega
def addV (p : Int) (f g : Nat → Nat) : (Nat → Nat) × Int := if codeL p [f, g] = 0 then (fun i => (f i + g i) % p.toNat, 0) else (fun _ => 0, 1)
def subV (p : Int) (f g : Nat → Nat) : (Nat → Nat) × Int := if codeL p [f, g] = 0 then (fun i => (f i + p.toNat - g i) % p.toNat, 0) else (fun _ => 0, 1)
theorem addK_one (p : Nat) (f g : Nat → Nat) : addK p f g 1 = fun i => (f i + g i) % p := by
  funext i; unfold addK
  rw [Int.one_mul, ← Int.natCast_add, ← Int.natCast_emod, Int.toNat_natCast]
theorem addK_neg {p : Nat} {f g : Nat → Nat} (hp : 0 < p) (hg : ∀ i, i < 64 → g i < p) {i : Nat} (hi : i < 64) : addK p f g (-1) i = (f i + p - g i) % p := by
  unfold addK
  have := hg i hi
  have e : ((f i : Int) + -1 * (g i : Int)) % (p : Int) = ((f i + p - g i : Nat) : Int) % (p : Int) := by
    rw [Int.natCast_sub (by omega), ← Int.add_emod_right]
    congr 1
    push_cast
    omega
  rw [e, ← Int.natCast_emod, Int.toNat_natCast]
set_option maxRecDepth 100000 in
set_option maxHeartbeats 800000 in
theorem impl_AddPolys_any (p : Int) (f g : Nat → Nat) (hf : byte f) (hg : byte g) (w : World) :
    Calls Try.prog 38 #[.int .i64 p, .agg (bcells 64 f), .agg (bcells 64 g)] w fun e w' => e = .returned (.tuple #[.agg (bcells 64 (addV p f g).1), .int .i64 (addV p f g).2]) ∧ Below w.heap.size w w' := by
  go_enter Try.func38, Try.ntmps38
  go_upto_region 1 with (fail)
  obtain ⟨wo, hwo⟩ : ∃ wo : World, wo = ((w.alloc (.cells (bcells 64 f) 25)).alloc (.cells (bcells 64 g) 25)).alloc (.cells (bcells 64 fun _ => 0) 25) := ⟨_, rfl⟩
  have b1 : Blk wo w.heap.size 64 25 f := by subst hwo; exact ((Blk.new _ _ _ _).alloc _).alloc _
  have b2 : Blk wo (w.heap.size + 1) 64 25 g := by subst hwo; have := (Blk.new (w.alloc (Obj.cells (bcells 64 f) 25)) 64 25 g).alloc (.cells (bcells 64 fun _ => 0) 25); simpa using this
  have b3 : Blk wo (w.heap.size + 1 + 1) 64 25 (fun _ => 0) := by subst hwo; have := (Blk.new ((w.alloc (Obj.cells (bcells 64 f) 25)).alloc (.cells (bcells 64 g) 25)) 64 25 (fun _ => 0)); simpa using this
  have hb : Below w.heap.size w wo := by subst hwo; exact (((Below.refl _ _).alloc (Nat.le_refl _) _).alloc (by simp) _).alloc (by simp; omega) _
  rw [← zero64, ← hwo]
  clear hwo
  go_upto_region 2 with (first | refine wpList_load_blk rfl 25 _ rfl _ rfl 64 25 _ (b1) 5 Try.underlying25 Try.size25 ?_ | refine wpList_load_blk rfl 25 _ rfl _ rfl 64 25 _ (b2) 5 Try.underlying25 Try.size25 ?_ | (refine wpList_build_polys rfl 57 _ [f, g] rfl 25 rfl Try.underlying57 Try.elem25 (by simp) (by simp) rfl ?_; intro wa hwa hps hba; clear hwa) | (go_at_call 142; refine (checkPolys_any p [f, g] (by simp [hf, hg]) _ _ hps (by simp)).mono ?_; rintro e wb ⟨rfl, hbb⟩))
  have hB : Below wo.heap.size wo wb := hba.trans (hbb.mono hba.size)
  replace b1 := b1.below hB b1.lt
  replace b2 := b2.below hB b2.lt
  replace b3 := b3.below hB b3.lt
  replace hb := hb.trans (hB.mono hb.size)
  clear hB hba hbb hps
  rcases codeL_two p [f, g] with hc | hc
  · obtain ⟨n, hn, n2, n7, hfn, hgn⟩ := codeL_two_ok hc
    subst hn
    have hv : addV (n : Int) f g = _ := if_pos hc
    have HV := Lib.hid hv; clear hv
    rw [hc]
    clear hc
    go_wp2_with (first | refine wpList_load_blk rfl 25 _ rfl _ rfl 64 25 _ (b1) 5 Try.underlying25 Try.size25 ?_ | refine wpList_load_blk rfl 25 _ rfl _ rfl 64 25 _ (b2) 5 Try.underlying25 Try.size25 ?_ | (go_at_call 149; refine (sum_any n f g _ n2 n7 hfn hgn).mono ?_; rintro e wc ⟨rfl, hw⟩) | refine wpList_store_blk rfl 25 _ _ rfl _ 64 (_) rfl rfl 25 _ (b3.below hw b3.lt) Try.size25 ?_)
    refine bodyPost_ret (results_bt rfl _ _ _ 64 25 5 _ rfl ((b3.below hw b3.lt).row _) Try.underlying25 Try.size25) rfl ⟨by rw [HV.out]; rfl, ?_⟩
    exact below_setRow (hb.trans (hw.mono hb.size)) (by omega) _
  · have hv : addV p f g = _ := if_neg (by rw [hc]; decide)
    have HV := Lib.hid hv; clear hv
    rw [hc]
    clear hc
    go_wp2_with (first | refine wpList_store_blk rfl 25 _ _ rfl _ 64 (fun _ => 0) rfl (congrArg Value.agg zero64.symm) 25 _ (b3) Try.size25 ?_)
    refine bodyPost_ret (results_bt rfl _ _ _ 64 25 5 _ rfl (b3.row _) Try.underlying25 Try.size25) rfl ⟨by rw [HV.out]; rfl, ?_⟩
    exact below_setRow hb (by omega) _
set_option maxRecDepth 100000 in
set_option maxHeartbeats 800000 in
theorem impl_SubtractPolys_any (p : Int) (f g : Nat → Nat) (hf : byte f) (hg : byte g) (w : World) :
    Calls Try.prog 66 #[.int .i64 p, .agg (bcells 64 f), .agg (bcells 64 g)] w fun e w' => e = .returned (.tuple #[.agg (bcells 64 (subV p f g).1), .int .i64 (subV p f g).2]) ∧ Below w.heap.size w w' := by
  go_enter Try.func66, Try.ntmps66
  go_upto_region 1 with (fail)
  obtain ⟨wo, hwo⟩ : ∃ wo : World, wo = ((w.alloc (.cells (bcells 64 f) 25)).alloc (.cells (bcells 64 g) 25)).alloc (.cells (bcells 64 fun _ => 0) 25) := ⟨_, rfl⟩
  have b1 : Blk wo w.heap.size 64 25 f := by subst hwo; exact ((Blk.new _ _ _ _).alloc _).alloc _
  have b2 : Blk wo (w.heap.size + 1) 64 25 g := by subst hwo; have := (Blk.new (w.alloc (Obj.cells (bcells 64 f) 25)) 64 25 g).alloc (.cells (bcells 64 fun _ => 0) 25); simpa using this
  have b3 : Blk wo (w.heap.size + 1 + 1) 64 25 (fun _ => 0) := by subst hwo; have := (Blk.new ((w.alloc (Obj.cells (bcells 64 f) 25)).alloc (.cells (bcells 64 g) 25)) 64 25 (fun _ => 0)); simpa using this
  have hb : Below w.heap.size w wo := by subst hwo; exact (((Below.refl _ _).alloc (Nat.le_refl _) _).alloc (by simp) _).alloc (by simp; omega) _
  rw [← zero64, ← hwo]
  clear hwo
  go_upto_region 2 with (first | refine wpList_load_blk rfl 25 _ rfl _ rfl 64 25 _ (b1) 5 Try.underlying25 Try.size25 ?_ | refine wpList_load_blk rfl 25 _ rfl _ rfl 64 25 _ (b2) 5 Try.underlying25 Try.size25 ?_ | (refine wpList_build_polys rfl 57 _ [f, g] rfl 25 rfl Try.underlying57 Try.elem25 (by simp) (by simp) rfl ?_; intro wa hwa hps hba; clear hwa) | (go_at_call 142; refine (checkPolys_any p [f, g] (by simp [hf, hg]) _ _ hps (by simp)).mono ?_; rintro e wb ⟨rfl, hbb⟩))
  have hB : Below wo.heap.size wo wb := hba.trans (hbb.mono hba.size)
  replace b1 := b1.below hB b1.lt
  replace b2 := b2.below hB b2.lt
  replace b3 := b3.below hB b3.lt
  replace hb := hb.trans (hB.mono hb.size)
  clear hB hba hbb hps
  rcases codeL_two p [f, g] with hc | hc
  · obtain ⟨n, hn, n2, n7, hfn, hgn⟩ := codeL_two_ok hc
    subst hn
    have hv : subV (n : Int) f g = _ := if_pos hc
    have HV := Lib.hid hv; clear hv
    rw [hc]
    clear hc
    go_wp2_with (first | refine wpList_load_blk rfl 25 _ rfl _ rfl 64 25 _ (b1) 5 Try.underlying25 Try.size25 ?_ | refine wpList_load_blk rfl 25 _ rfl _ rfl 64 25 _ (b2) 5 Try.underlying25 Try.size25 ?_ | (go_at_call 165; refine (difference_any n f g _ n2 n7 hfn hgn).mono ?_; rintro e wc ⟨rfl, hw⟩) | refine wpList_store_blk rfl 25 _ _ rfl _ 64 (_) rfl rfl 25 _ (b3.below hw b3.lt) Try.size25 ?_)
    refine bodyPost_ret (results_bt rfl _ _ _ 64 25 5 _ rfl ((b3.below hw b3.lt).row _) Try.underlying25 Try.size25) rfl ⟨by rw [HV.out]; rfl, ?_⟩
    exact below_setRow (hb.trans (hw.mono hb.size)) (by omega) _
  · have hv : subV p f g = _ := if_neg (by rw [hc]; decide)
    have HV := Lib.hid hv; clear hv
    rw [hc]
    clear hc
    go_wp2_with (first | refine wpList_store_blk rfl 25 _ _ rfl _ 64 (fun _ => 0) rfl (congrArg Value.agg zero64.symm) 25 _ (b3) Try.size25 ?_)
    refine bodyPost_ret (results_bt rfl _ _ _ 64 25 5 _ rfl (b3.row _) Try.underlying25 Try.size25) rfl ⟨by rw [HV.out]; rfl, ?_⟩
    exact below_setRow hb (by omega) _
set_option maxRecDepth 100000 in
set_option maxHeartbeats 800000 in
theorem spec_AddPolys_any (p : Int) (f g : Nat → Nat) (hf : byte f) (hg : byte g) (w : World) :
    Calls Try.prog 50 #[.int .i64 p, .agg (bcells 64 f), .agg (bcells 64 g)] w fun e w' => e = .returned (.tuple #[.agg (bcells 64 (addV p f g).1), .int .i64 (addV p f g).2]) ∧ Below w.heap.size w w' := by
  go_enter Try.func50, Try.ntmps50
  go_upto_region 1 with (fail)
  obtain ⟨wo, hwo⟩ : ∃ wo : World, wo = ((w.alloc (.cells (bcells 64 f) 25)).alloc (.cells (bcells 64 g) 25)).alloc (.cells (bcells 64 fun _ => 0) 25) := ⟨_, rfl⟩
  have b1 : Blk wo w.heap.size 64 25 f := by subst hwo; exact ((Blk.new _ _ _ _).alloc _).alloc _
  have b2 : Blk wo (w.heap.size + 1) 64 25 g := by subst hwo; have := (Blk.new (w.alloc (Obj.cells (bcells 64 f) 25)) 64 25 g).alloc (.cells (bcells 64 fun _ => 0) 25); simpa using this
  have b3 : Blk wo (w.heap.size + 1 + 1) 64 25 (fun _ => 0) := by subst hwo; have := (Blk.new ((w.alloc (Obj.cells (bcells 64 f) 25)).alloc (.cells (bcells 64 g) 25)) 64 25 (fun _ => 0)); simpa using this
  have hb : Below w.heap.size w wo := by subst hwo; exact (((Below.refl _ _).alloc (Nat.le_refl _) _).alloc (by simp) _).alloc (by simp; omega) _
  rw [← zero64, ← hwo]
  clear hwo
  go_upto_region 2 with (first | refine wpList_load_blk rfl 25 _ rfl _ rfl 64 25 _ (b1) 5 Try.underlying25 Try.size25 ?_ | refine wpList_load_blk rfl 25 _ rfl _ rfl 64 25 _ (b2) 5 Try.underlying25 Try.size25 ?_ | (refine wpList_build_polys rfl 57 _ [f, g] rfl 25 rfl Try.underlying57 Try.elem25 (by simp) (by simp) rfl ?_; intro wa hwa hps hba; clear hwa) | (go_at_call 145; refine (l01Code_any p [f, g] (by simp [hf, hg]) _ _ hps (by simp)).mono ?_; rintro e wb ⟨rfl, hbb⟩))
  have hB : Below wo.heap.size wo wb := hba.trans (hbb.mono hba.size)
  replace b1 := b1.below hB b1.lt
  replace b2 := b2.below hB b2.lt
  replace b3 := b3.below hB b3.lt
  replace hb := hb.trans (hB.mono hb.size)
  clear hB hba hbb hps
  rcases codeL_two p [f, g] with hc | hc
  · obtain ⟨n, hn, n2, n7, hfn, hgn⟩ := codeL_two_ok hc
    subst hn
    have hv : addV (n : Int) f g = _ := if_pos hc
    have HV := Lib.hid hv; clear hv
    rw [hc]
    clear hc
    go_wp2_with (first | refine wpList_load_blk rfl 25 _ rfl _ rfl 64 25 _ (b1) 5 Try.underlying25 Try.size25 ?_ | refine wpList_load_blk rfl 25 _ rfl _ rfl 64 25 _ (b2) 5 Try.underlying25 Try.size25 ?_ | (go_at_call 157; refine (l01Add_any n f g 1 _ n2 n7 (by decide) (by decide) hfn hgn).mono ?_; rw [addK_one]; rintro e wc ⟨rfl, hw⟩) | refine wpList_store_blk rfl 25 _ _ rfl _ 64 (_) rfl rfl 25 _ (b3.below hw b3.lt) Try.size25 ?_)
    refine bodyPost_ret (results_bt rfl _ _ _ 64 25 5 _ rfl ((b3.below hw b3.lt).row _) Try.underlying25 Try.size25) rfl ⟨by rw [HV.out]; rfl, ?_⟩
    exact below_setRow (hb.trans (hw.mono hb.size)) (by omega) _
  · have hv : addV p f g = _ := if_neg (by rw [hc]; decide)
    have HV := Lib.hid hv; clear hv
    rw [hc]
    clear hc
    go_wp2_with (first | refine wpList_store_blk rfl 25 _ _ rfl _ 64 (fun _ => 0) rfl (congrArg Value.agg zero64.symm) 25 _ (b3) Try.size25 ?_)
    refine bodyPost_ret (results_bt rfl _ _ _ 64 25 5 _ rfl (b3.row _) Try.underlying25 Try.size25) rfl ⟨by rw [HV.out]; rfl, ?_⟩
    exact below_setRow hb (by omega) _
set_option maxRecDepth 100000 in
set_option maxHeartbeats 800000 in
theorem spec_SubtractPolys_any (p : Int) (f g : Nat → Nat) (hf : byte f) (hg : byte g) (w : World) :
    Calls Try.prog 67 #[.int .i64 p, .agg (bcells 64 f), .agg (bcells 64 g)] w fun e w' => e = .returned (.tuple #[.agg (bcells 64 (subV p f g).1), .int .i64 (subV p f g).2]) ∧ Below w.heap.size w w' := by
  go_enter Try.func67, Try.ntmps67
  go_upto_region 1 with (fail)
  obtain ⟨wo, hwo⟩ : ∃ wo : World, wo = ((w.alloc (.cells (bcells 64 f) 25)).alloc (.cells (bcells 64 g) 25)).alloc (.cells (bcells 64 fun _ => 0) 25) := ⟨_, rfl⟩
  have b1 : Blk wo w.heap.size 64 25 f := by subst hwo; exact ((Blk.new _ _ _ _).alloc _).alloc _
  have b2 : Blk wo (w.heap.size + 1) 64 25 g := by subst hwo; have := (Blk.new (w.alloc (Obj.cells (bcells 64 f) 25)) 64 25 g).alloc (.cells (bcells 64 fun _ => 0) 25); simpa using this
  have b3 : Blk wo (w.heap.size + 1 + 1) 64 25 (fun _ => 0) := by subst hwo; have := (Blk.new ((w.alloc (Obj.cells (bcells 64 f) 25)).alloc (.cells (bcells 64 g) 25)) 64 25 (fun _ => 0)); simpa using this
  have hb : Below w.heap.size w wo := by subst hwo; exact (((Below.refl _ _).alloc (Nat.le_refl _) _).alloc (by simp) _).alloc (by simp; omega) _
  rw [← zero64, ← hwo]
  clear hwo
  go_upto_region 2 with (first | refine wpList_load_blk rfl 25 _ rfl _ rfl 64 25 _ (b1) 5 Try.underlying25 Try.size25 ?_ | refine wpList_load_blk rfl 25 _ rfl _ rfl 64 25 _ (b2) 5 Try.underlying25 Try.size25 ?_ | (refine wpList_build_polys rfl 57 _ [f, g] rfl 25 rfl Try.underlying57 Try.elem25 (by simp) (by simp) rfl ?_; intro wa hwa hps hba; clear hwa) | (go_at_call 145; refine (l01Code_any p [f, g] (by simp [hf, hg]) _ _ hps (by simp)).mono ?_; rintro e wb ⟨rfl, hbb⟩))
  have hB : Below wo.heap.size wo wb := hba.trans (hbb.mono hba.size)
  replace b1 := b1.below hB b1.lt
  replace b2 := b2.below hB b2.lt
  replace b3 := b3.below hB b3.lt
  replace hb := hb.trans (hB.mono hb.size)
  clear hB hba hbb hps
  rcases codeL_two p [f, g] with hc | hc
  · obtain ⟨n, hn, n2, n7, hfn, hgn⟩ := codeL_two_ok hc
    subst hn
    have hv : subV (n : Int) f g = _ := if_pos hc
    have HV := Lib.hid hv; clear hv
    rw [hc]
    clear hc
    go_wp2_with (first | refine wpList_load_blk rfl 25 _ rfl _ rfl 64 25 _ (b1) 5 Try.underlying25 Try.size25 ?_ | refine wpList_load_blk rfl 25 _ rfl _ rfl 64 25 _ (b2) 5 Try.underlying25 Try.size25 ?_ | (go_at_call 157; refine (l01Add_any n f g (-1) _ n2 n7 (by decide) (by decide) hfn hgn).mono ?_; rw [bcells_congr (fun i hi => addK_neg (by omega) hgn hi)]; rintro e wc ⟨rfl, hw⟩) | refine wpList_store_blk rfl 25 _ _ rfl _ 64 (_) rfl rfl 25 _ (b3.below hw b3.lt) Try.size25 ?_)
    refine bodyPost_ret (results_bt rfl _ _ _ 64 25 5 _ rfl ((b3.below hw b3.lt).row _) Try.underlying25 Try.size25) rfl ⟨by rw [HV.out]; rfl, ?_⟩
    exact below_setRow (hb.trans (hw.mono hb.size)) (by omega) _
  · have hv : subV p f g = _ := if_neg (by rw [hc]; decide)
    have HV := Lib.hid hv; clear hv
    rw [hc]
    clear hc
    go_wp2_with (first | refine wpList_store_blk rfl 25 _ _ rfl _ 64 (fun _ => 0) rfl (congrArg Value.agg zero64.symm) 25 _ (b3) Try.size25 ?_)
    refine bodyPost_ret (results_bt rfl _ _ _ 64 25 5 _ rfl (b3.row _) Try.underlying25 Try.size25) rfl ⟨by rw [HV.out]; rfl, ?_⟩
    exact below_setRow hb (by omega) _
end Go.Proofs.Ytkaaffccklkafaa
