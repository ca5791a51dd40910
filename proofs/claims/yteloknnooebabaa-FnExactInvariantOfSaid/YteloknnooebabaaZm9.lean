/-
  What the rows of this claim rest on: arrays of bytes, walks of the functions, plain mathematics.
-/
import Derived.Test.YteloknnooebabaaZm8
set_option maxRecDepth 100000
set_option maxHeartbeats 9000000
set_option linter.unusedVariables false
set_option linter.unusedSimpArgs false
namespace Go.Proofs.Yteloknnooebabaa
open Go Go.RowKit
attribute [local irreducible] deg addK okA flV skA skD
theorem ckS_rsk {n : Nat} {m : Nat → Nat} {Fs : List (Nat → Nat → Nat)} {F : Nat → Nat → Nat} (hl : ∀ F, F ∈ Fs → ∀ i, i < 8 → (∀ j, j < 64 → F i j < n) ∧ deg (F i) < deg m) (h : F ∈ Fs) : rsk n m F := fun i hi => hl F h i hi
noncomputable def cdV (p : Int) (m : Nat → Nat) (F G : Nat → Nat → Nat) : Int := if ckS p m [F, G] = 0 then (if skD G < 0 then 5 else 0) else 1
theorem cdV_0 {p : Int} {m : Nat → Nat} {F G : Nat → Nat → Nat} (h : ckS p m [F, G] = 0) (h2 : ¬ skD G < 0) : cdV p m F G = 0 := by unfold cdV; rw [if_pos h, if_neg h2]
theorem cdV_5 {p : Int} {m : Nat → Nat} {F G : Nat → Nat → Nat} (h : ckS p m [F, G] = 0) (h2 : skD G < 0) : cdV p m F G = 5 := by unfold cdV; rw [if_pos h, if_pos h2]
theorem cdV_1 {p : Int} {m : Nat → Nat} {F G : Nat → Nat → Nat} (h : ckS p m [F, G] = 1) : cdV p m F G = 1 := if_neg (by omega)
attribute [irreducible] cdV
theorem l03Divided_any (p : Int) (m : Nat → Nat) (F G : Nat → Nat → Nat) (hm : byte m) (hF : ∀ i, byte (F i)) (hG : ∀ i, byte (G i)) (w : World) :
 Calls Try.prog 101 #[.int .i64 p, .agg (zb 64 m), .agg (zb 512 (fl 64 F)), .agg (zb 512 (fl 64 G))] w fun e w' => e = .returned (.int .i64 (cdV p m F G)) ∧ Below w.heap.size w w' := by
 go_enter Try.func101, Try.ntmps101
 go_upto_region 1 with (fail)
 obtain ⟨W1, hwo⟩ : ∃ v : World, v = (((w.alloc (.cells (zb 64 (m)) 24)).alloc (.cells (zb 512 (fl 64 F)) 26)).alloc (.cells (zb 512 (fl 64 G)) 26)) := ⟨_, rfl⟩
 have B0 : Blk W1 (w.heap.size) 64 24 (m) := by subst hwo; have := (((Blk.new w 64 24 (m)).alloc (.cells (zb 512 (fl 64 F)) 26)).alloc (.cells (zb 512 (fl 64 G)) 26)); simpa using this
 have B1 : Blk W1 (w.heap.size + 1) 512 26 (fl 64 F) := by subst hwo; have := ((Blk.new (w.alloc (.cells (zb 64 (m)) 24)) 512 26 (fl 64 F)).alloc (.cells (zb 512 (fl 64 G)) 26)); simpa using this
 have B2 : Blk W1 (w.heap.size + 1 + 1) 512 26 (fl 64 G) := by subst hwo; have := (Blk.new ((w.alloc (.cells (zb 64 (m)) 24)).alloc (.cells (zb 512 (fl 64 F)) 26)) 512 26 (fl 64 G)); simpa using this
 have hb : Below w.heap.size w W1 := by subst hwo; exact ((((Below.refl _ _).alloc (Nat.le_refl _) _).alloc (by simp) _).alloc (by simp; omega) _)
 rw [← hwo]
 clear hwo
 rcases ckS_two p m [F, G] with hc | hc
 · by_cases hz : skD G < 0
   · have HV := Lib.hid (cdV_5 hc hz)
     go_upto_region 2 with (first | (refine zla (.tmp 5) B0 Try.underlying24 Try.size24 ?_) | (refine zla (.tmp 6) B1 Try.underlying26 Try.size26 ?_) | (refine zla (.tmp 7) B2 Try.underlying26 Try.size26 ?_) | (refine zbk rfl 170 _ [F, G] rfl 26 Try.underlying170 Try.elem26 (by simp) (by simp) rfl ?_; intro wa hps hba) | (go_at_call 92; refine (l03Code_any _ m hm [F, G] (by simp [hF, hG]) (by simp) _ _ hps).mono ?_; rintro e W2 ⟨rfl, hbb⟩; rw [hc]))
     have hBB : Below W1.heap.size W1 W2 := hba.trans (hbb.mono hba.size)
     replace B0 := B0.zw hBB
     replace B1 := B1.zw hBB
     replace B2 := B2.zw hBB
     replace hb := hb.trans (hBB.mono hb.size)
     clear hBB hba hbb hps
     clear hc
     go_upto_region 3 with (first | (refine zlg rfl 26 (.tmp 7) rfl _ rfl 512 26 _ (B2) _ Try.underlying26 rfl Try.size26 ?_) | (go_at_call 97; refine (l03Deg_any G _).mono ?_; rintro e W3 ⟨rfl, hW3⟩; replace B0 := B0.zw hW3; replace B1 := B1.zw hW3; replace B2 := B2.zw hW3; replace hb := (hb).trans (hW3.mono (hb).size)))
     go_wp2_with fail
     go_ret
     exact ⟨by rw [HV.out]; rfl, hb⟩
   have HV := Lib.hid (cdV_0 hc hz)
   go_upto_region 2 with (first | (refine zla (.tmp 5) B0 Try.underlying24 Try.size24 ?_) | (refine zla (.tmp 6) B1 Try.underlying26 Try.size26 ?_) | (refine zla (.tmp 7) B2 Try.underlying26 Try.size26 ?_) | (refine zbk rfl 170 _ [F, G] rfl 26 Try.underlying170 Try.elem26 (by simp) (by simp) rfl ?_; intro wa hps hba) | (go_at_call 92; refine (l03Code_any _ m hm [F, G] (by simp [hF, hG]) (by simp) _ _ hps).mono ?_; rintro e W2 ⟨rfl, hbb⟩; rw [hc]))
   have hBB : Below W1.heap.size W1 W2 := hba.trans (hbb.mono hba.size)
   replace B0 := B0.zw hBB
   replace B1 := B1.zw hBB
   replace B2 := B2.zw hBB
   replace hb := hb.trans (hBB.mono hb.size)
   clear hBB hba hbb hps
   clear hc
   go_upto_region 4 with (first | (refine zlg rfl 26 (.tmp 7) rfl _ rfl 512 26 _ (B2) _ Try.underlying26 rfl Try.size26 ?_) | (go_at_call 97; refine (l03Deg_any G _).mono ?_; rintro e W3 ⟨rfl, hW3⟩; replace B0 := B0.zw hW3; replace B1 := B1.zw hW3; replace B2 := B2.zw hW3; replace hb := (hb).trans (hW3.mono (hb).size)))
   go_wp2_with fail
   go_ret
   exact ⟨by rw [HV.out]; rfl, hb⟩
 have HV := Lib.hid (cdV_1 hc)
 go_upto_region 4 with (first | (refine zla (.tmp 5) B0 Try.underlying24 Try.size24 ?_) | (refine zla (.tmp 6) B1 Try.underlying26 Try.size26 ?_) | (refine zla (.tmp 7) B2 Try.underlying26 Try.size26 ?_) | (refine zbk rfl 170 _ [F, G] rfl 26 Try.underlying170 Try.elem26 (by simp) (by simp) rfl ?_; intro wa hps hba) | (go_at_call 92; refine (l03Code_any _ m hm [F, G] (by simp [hF, hG]) (by simp) _ _ hps).mono ?_; rintro e W2 ⟨rfl, hbb⟩; rw [hc]))
 have hBB : Below W1.heap.size W1 W2 := hba.trans (hbb.mono hba.size)
 replace B0 := B0.zw hBB
 replace B1 := B1.zw hBB
 replace B2 := B2.zw hBB
 replace hb := hb.trans (hBB.mono hb.size)
 clear hBB hba hbb hps
 clear hc
 go_wp2_with fail
 go_ret
 exact ⟨by rw [HV.out]; rfl, hb⟩
end Go.Proofs.Yteloknnooebabaa
