/-
  Walks: the least primitive residue.
-/
import Derived.Test.YtbjpkmbhbpcbgaaPb
namespace Go.Proofs.Ytbjpkmbhbpcbgaa
open Go Go.RowKit
set_option linter.unusedVariables false
set_option linter.unusedSimpArgs false
set_option maxRecDepth 100000 in
set_option maxHeartbeats 800000 in
theorem checkPolys_nil (p : Int) (w : World) :
    Calls Try.prog 77 #[.int .i64 p, .slice none 0 0] w fun e w' => e = .returned (.int .i64 (codeL p [])) ∧ Below w.heap.size w w' := by
  cases hp : okP p with
  | false =>
    go_enter Try.func77, Try.ntmps77
    go_wp2_with (go_at_call 149; refine (isPrime_any _ _).mono ?_; rintro e w' ⟨rfl, rfl⟩)
    go_ret
    exact ⟨ret_int (codeL_p hp).symm, Below.refl _ _⟩
  | true =>
    go_enter Try.func77, Try.ntmps77
    go_wp2_with (go_at_call 149; refine (isPrime_any _ _).mono ?_; rintro e w' ⟨rfl, rfl⟩)
    go_loopw [12] (fun i wr => i = .int .i64 ((0 : Nat) : Int) ∧ Below w.heap.size w wr) (fun _ _ => 0)
    case atStart => exact ⟨rfl, Below.refl _ _⟩
    case round =>
      obtain ⟨rfl, hb⟩ := hrel
      go_wp2_with fail
      go_ret
      exact ⟨ret_int (codeL_ok hp fun j f hj => by simp at hj).symm, hb⟩
set_option maxRecDepth 100000 in
set_option maxHeartbeats 800000 in
theorem l01Code_nil (p : Int) (w : World) :
    Calls Try.prog 72 #[.int .i64 p, .slice none 0 0] w fun e w' => e = .returned (.int .i64 (codeL p [])) ∧ Below w.heap.size w w' := by
  cases hp : okP p with
  | false =>
    go_enter Try.func72, Try.ntmps72
    go_wp2_with (go_at_call 147; refine (l01Prime_any _ _).mono ?_; rintro e w' ⟨rfl, rfl⟩)
    go_ret
    exact ⟨ret_int (codeL_p hp).symm, Below.refl _ _⟩
  | true =>
    go_enter Try.func72, Try.ntmps72
    go_wp2_with (go_at_call 147; refine (l01Prime_any _ _).mono ?_; rintro e w' ⟨rfl, rfl⟩)
    go_loopw [5] (fun i wr => i = .int .i64 ((0 : Nat) : Int) ∧ Below w.heap.size w wr) (fun _ _ => 0)
    case atStart => exact ⟨rfl, Below.refl _ _⟩
    case round =>
      obtain ⟨rfl, hb⟩ := hrel
      go_wp2_with fail
      go_ret
      exact ⟨ret_int (codeL_ok hp fun j f hj => by simp at hj).symm, hb⟩
set_option maxRecDepth 100000 in
set_option maxHeartbeats 800000 in
theorem checkModulus_nil (p : Int) (m : Nat → Nat) (hmb : byte m) (w : World) :
    Calls Try.prog 87 #[.int .i64 p, .agg (bcells 64 m), .slice none 0 0] w fun e w' => e = .returned (.int .i64 (modV p m [])) ∧ Below w.heap.size w w' := by
  obtain ⟨fb1, fb2⟩ := deg_bounds m
  go_enter Try.func87, Try.ntmps87
  go_upto_region 1 with (fail)
  obtain ⟨W1, hwo⟩ : ∃ v : World, v = (w.alloc (.cells (bcells 64 (m)) 23)) := ⟨_, rfl⟩
  have B0 : Blk W1 (w.heap.size) 64 23 (m) := by subst hwo; have := (Blk.new w 64 23 (m)); simpa using this
  have hb : Below w.heap.size w W1 := by subst hwo; exact ((Below.refl _ _).alloc (Nat.le_refl _) _)
  rw [← hwo]
  clear hwo
  rcases codeL_two p [m] with hc1 | hc1
  · rcases codeL_two p [] with hc2 | hc2
    · cases hm5 : monUp 5 m with
      | false =>
        have HV := Lib.hid (modV_3 hc1 hc2 hm5)
        go_upto_region 3 with (first | (refine wpList_load_any rfl 23 (.tmp 4) rfl _ rfl 64 23 _ B0 _ Try.underlying23 rfl Try.size23 ?_) | (refine wpList_build_polys rfl 47 _ [m] rfl 23 rfl Try.underlying47 Try.elem23 (by simp) (by simp) rfl ?_; intro wa hwa hps hba; clear hwa) | (go_at_call 77; refine (checkPolys_any p [m] (by simp [hmb]) _ _ hps (by simp)).mono ?_; rintro e W2 ⟨rfl, hbb⟩; replace B0 := B0.below (hba.trans (hbb.mono hba.size)) B0.lt; replace hb := hb.trans ((hba.trans (hbb.mono hba.size)).mono hb.size); clear hps; rw [hc1]) | (go_at_call 77; refine (checkPolys_nil p _).mono ?_; rintro e W3 ⟨rfl, hb3⟩; replace B0 := B0.below hb3 B0.lt; replace hb := hb.trans (hb3.mono hb.size); rw [hc2]))
        clear hba hbb hb3
        go_upto_region 4 with (first | (refine wpList_load_any rfl 23 (.tmp 4) rfl _ rfl 64 23 _ (B0) _ Try.underlying23 rfl Try.size23 ?_) | (go_at_call 156; refine (isModulus_any m hmb _).mono ?_; rintro e W2 ⟨rfl, hW2⟩; replace B0 := B0.below hW2 B0.lt; replace hb := (hb).trans (hW2.mono (hb).size); rw [hm5]))
        go_wp2_with fail
        go_ret
        exact ⟨ret_int HV.out.symm, hb⟩
      | true =>
        have HV := Lib.hid (modV_0 hc1 hc2 hm5)
        go_upto_region 3 with (first | (refine wpList_load_any rfl 23 (.tmp 4) rfl _ rfl 64 23 _ B0 _ Try.underlying23 rfl Try.size23 ?_) | (refine wpList_build_polys rfl 47 _ [m] rfl 23 rfl Try.underlying47 Try.elem23 (by simp) (by simp) rfl ?_; intro wa hwa hps hba; clear hwa) | (go_at_call 77; refine (checkPolys_any p [m] (by simp [hmb]) _ _ hps (by simp)).mono ?_; rintro e W2 ⟨rfl, hbb⟩; replace B0 := B0.below (hba.trans (hbb.mono hba.size)) B0.lt; replace hb := hb.trans ((hba.trans (hbb.mono hba.size)).mono hb.size); clear hps; rw [hc1]) | (go_at_call 77; refine (checkPolys_nil p _).mono ?_; rintro e W3 ⟨rfl, hb3⟩; replace B0 := B0.below hb3 B0.lt; replace hb := hb.trans (hb3.mono hb.size); rw [hc2]))
        clear hba hbb hb3
        go_upto_region 5 with (first | (refine wpList_load_any rfl 23 (.tmp 4) rfl _ rfl 64 23 _ (B0) _ Try.underlying23 rfl Try.size23 ?_) | (go_at_call 156; refine (isModulus_any m hmb _).mono ?_; rintro e W2 ⟨rfl, hW2⟩; replace B0 := B0.below hW2 B0.lt; replace hb := (hb).trans (hW2.mono (hb).size); rw [hm5]))
        go_wp2_with fail
        go_ret
        exact ⟨ret_int HV.out.symm, hb⟩
    · have HV := Lib.hid (modV_2 (m := m) hc2)
      go_upto_region 2 with (first | (refine wpList_load_any rfl 23 (.tmp 4) rfl _ rfl 64 23 _ B0 _ Try.underlying23 rfl Try.size23 ?_) | (refine wpList_build_polys rfl 47 _ [m] rfl 23 rfl Try.underlying47 Try.elem23 (by simp) (by simp) rfl ?_; intro wa hwa hps hba; clear hwa) | (go_at_call 77; refine (checkPolys_any p [m] (by simp [hmb]) _ _ hps (by simp)).mono ?_; rintro e W2 ⟨rfl, hbb⟩; replace B0 := B0.below (hba.trans (hbb.mono hba.size)) B0.lt; replace hb := hb.trans ((hba.trans (hbb.mono hba.size)).mono hb.size); clear hps; rw [hc1]) | (go_at_call 77; refine (checkPolys_nil p _).mono ?_; rintro e W3 ⟨rfl, hb3⟩; replace B0 := B0.below hb3 B0.lt; replace hb := hb.trans (hb3.mono hb.size); rw [hc2]))
      go_wp2_with fail
      go_ret
      exact ⟨ret_int HV.out.symm, hb⟩
  · have HV := Lib.hid (modV_1 (fs := []) hc1)
    go_upto_region 2 with (first | (refine wpList_load_any rfl 23 (.tmp 4) rfl _ rfl 64 23 _ B0 _ Try.underlying23 rfl Try.size23 ?_) | (refine wpList_build_polys rfl 47 _ [m] rfl 23 rfl Try.underlying47 Try.elem23 (by simp) (by simp) rfl ?_; intro wa hwa hps hba; clear hwa) | (go_at_call 77; refine (checkPolys_any p [m] (by simp [hmb]) _ _ hps (by simp)).mono ?_; rintro e W2 ⟨rfl, hbb⟩; replace B0 := B0.below (hba.trans (hbb.mono hba.size)) B0.lt; replace hb := hb.trans ((hba.trans (hbb.mono hba.size)).mono hb.size); clear hps; rw [hc1]))
    go_wp2_with fail
    go_ret
    exact ⟨ret_int HV.out.symm, hb⟩
set_option maxRecDepth 100000 in
set_option maxHeartbeats 800000 in
theorem l02Modulus_nil (p : Int) (m : Nat → Nat) (hmb : byte m) (w : World) :
    Calls Try.prog 82 #[.int .i64 p, .agg (bcells 64 m), .slice none 0 0] w fun e w' => e = .returned (.int .i64 (modV p m [])) ∧ Below w.heap.size w w' := by
  obtain ⟨fb1, fb2⟩ := deg_bounds m
  go_enter Try.func82, Try.ntmps82
  go_upto_region 1 with (fail)
  obtain ⟨W1, hwo⟩ : ∃ v : World, v = (w.alloc (.cells (bcells 64 (m)) 23)) := ⟨_, rfl⟩
  have B0 : Blk W1 (w.heap.size) 64 23 (m) := by subst hwo; have := (Blk.new w 64 23 (m)); simpa using this
  have hb : Below w.heap.size w W1 := by subst hwo; exact ((Below.refl _ _).alloc (Nat.le_refl _) _)
  rw [← hwo]
  clear hwo
  rcases codeL_two p [m] with hc1 | hc1
  · rcases codeL_two p [] with hc2 | hc2
    · cases hm5 : monUp 5 m with
      | false =>
        have HV := Lib.hid (modV_3 hc1 hc2 hm5)
        go_upto_region 3 with (first | (refine wpList_load_any rfl 23 (.tmp 4) rfl _ rfl 64 23 _ B0 _ Try.underlying23 rfl Try.size23 ?_) | (refine wpList_build_polys rfl 47 _ [m] rfl 23 rfl Try.underlying47 Try.elem23 (by simp) (by simp) rfl ?_; intro wa hwa hps hba; clear hwa) | (go_at_call 72; refine (l01Code_any p [m] (by simp [hmb]) _ _ hps (by simp)).mono ?_; rintro e W2 ⟨rfl, hbb⟩; replace B0 := B0.below (hba.trans (hbb.mono hba.size)) B0.lt; replace hb := hb.trans ((hba.trans (hbb.mono hba.size)).mono hb.size); clear hps; rw [hc1]) | (go_at_call 72; refine (l01Code_nil p _).mono ?_; rintro e W3 ⟨rfl, hb3⟩; replace B0 := B0.below hb3 B0.lt; replace hb := hb.trans (hb3.mono hb.size); rw [hc2]))
        clear hba hbb hb3
        cases hmo : monB m with
        | false =>
          go_upto_region 4 with (first | (refine wpList_load_any rfl 23 (.tmp 4) rfl _ rfl 64 23 _ (B0) _ Try.underlying23 rfl Try.size23 ?_) | (go_at_call 121; refine (l01Monic_any m hmb _).mono ?_; rintro e W2 ⟨rfl, hW2⟩; replace B0 := B0.below hW2 B0.lt; replace hb := (hb).trans (hW2.mono (hb).size); rw [hmo]))
          go_wp2_with fail
          go_ret
          exact ⟨ret_int HV.out.symm, hb⟩
        | true =>
          have hnr : ¬ (1 ≤ deg m ∧ deg m ≤ 5) := by intro h; rw [monUp_B, hmo] at hm5; simp at hm5; omega
          go_upto_region 4 with (first | (refine wpList_load_any rfl 23 (.tmp 4) rfl _ rfl 64 23 _ (B0) _ Try.underlying23 rfl Try.size23 ?_) | (go_at_call 121; refine (l01Monic_any m hmb _).mono ?_; rintro e W2 ⟨rfl, hW2⟩; replace B0 := B0.below hW2 B0.lt; replace hb := (hb).trans (hW2.mono (hb).size); rw [hmo]) | (refine wpList_load_any_g rfl 23 (.tmp 4) rfl _ rfl 64 23 _ (B0) _ Try.underlying23 rfl Try.size23 ?_) | (go_at_call 73; refine (l01Deg_any m _).mono ?_; rintro e W3 ⟨rfl, hW3⟩; replace B0 := B0.below hW3 B0.lt; replace hb := (hb).trans (hW3.mono (hb).size)) | (go_at_call 74; refine (l01In_no (deg m) 1 5 hnr _).mono ?_; rintro e wS ⟨rfl, rfl⟩))
          go_wp2_with fail
          go_ret
          exact ⟨ret_int HV.out.symm, hb⟩
      | true =>
        have HV := Lib.hid (modV_0 hc1 hc2 hm5)
        go_upto_region 3 with (first | (refine wpList_load_any rfl 23 (.tmp 4) rfl _ rfl 64 23 _ B0 _ Try.underlying23 rfl Try.size23 ?_) | (refine wpList_build_polys rfl 47 _ [m] rfl 23 rfl Try.underlying47 Try.elem23 (by simp) (by simp) rfl ?_; intro wa hwa hps hba; clear hwa) | (go_at_call 72; refine (l01Code_any p [m] (by simp [hmb]) _ _ hps (by simp)).mono ?_; rintro e W2 ⟨rfl, hbb⟩; replace B0 := B0.below (hba.trans (hbb.mono hba.size)) B0.lt; replace hb := hb.trans ((hba.trans (hbb.mono hba.size)).mono hb.size); clear hps; rw [hc1]) | (go_at_call 72; refine (l01Code_nil p _).mono ?_; rintro e W3 ⟨rfl, hb3⟩; replace B0 := B0.below hb3 B0.lt; replace hb := hb.trans (hb3.mono hb.size); rw [hc2]))
        clear hba hbb hb3
        have hmo : monB m = true := by cases h : monB m with | true => rfl | false => rw [monUp_B, h] at hm5; simp at hm5
        have hyr : 1 ≤ deg m ∧ deg m ≤ 5 := by rw [monUp_B, hmo] at hm5; simpa using hm5
        go_upto_region 5 with (first | (refine wpList_load_any rfl 23 (.tmp 4) rfl _ rfl 64 23 _ (B0) _ Try.underlying23 rfl Try.size23 ?_) | (go_at_call 121; refine (l01Monic_any m hmb _).mono ?_; rintro e W2 ⟨rfl, hW2⟩; replace B0 := B0.below hW2 B0.lt; replace hb := (hb).trans (hW2.mono (hb).size); rw [hmo]) | (refine wpList_load_any_g rfl 23 (.tmp 4) rfl _ rfl 64 23 _ (B0) _ Try.underlying23 rfl Try.size23 ?_) | (go_at_call 73; refine (l01Deg_any m _).mono ?_; rintro e W3 ⟨rfl, hW3⟩; replace B0 := B0.below hW3 B0.lt; replace hb := (hb).trans (hW3.mono (hb).size)) | (go_at_call 74; refine (l01In_yes (deg m) 1 5 hyr _).mono ?_; rintro e wS ⟨rfl, rfl⟩))
        go_wp2_with fail
        go_ret
        exact ⟨ret_int HV.out.symm, hb⟩
    · have HV := Lib.hid (modV_2 (m := m) hc2)
      go_upto_region 2 with (first | (refine wpList_load_any rfl 23 (.tmp 4) rfl _ rfl 64 23 _ B0 _ Try.underlying23 rfl Try.size23 ?_) | (refine wpList_build_polys rfl 47 _ [m] rfl 23 rfl Try.underlying47 Try.elem23 (by simp) (by simp) rfl ?_; intro wa hwa hps hba; clear hwa) | (go_at_call 72; refine (l01Code_any p [m] (by simp [hmb]) _ _ hps (by simp)).mono ?_; rintro e W2 ⟨rfl, hbb⟩; replace B0 := B0.below (hba.trans (hbb.mono hba.size)) B0.lt; replace hb := hb.trans ((hba.trans (hbb.mono hba.size)).mono hb.size); clear hps; rw [hc1]) | (go_at_call 72; refine (l01Code_nil p _).mono ?_; rintro e W3 ⟨rfl, hb3⟩; replace B0 := B0.below hb3 B0.lt; replace hb := hb.trans (hb3.mono hb.size); rw [hc2]))
      go_wp2_with fail
      go_ret
      exact ⟨ret_int HV.out.symm, hb⟩
  · have HV := Lib.hid (modV_1 (fs := []) hc1)
    go_upto_region 2 with (first | (refine wpList_load_any rfl 23 (.tmp 4) rfl _ rfl 64 23 _ B0 _ Try.underlying23 rfl Try.size23 ?_) | (refine wpList_build_polys rfl 47 _ [m] rfl 23 rfl Try.underlying47 Try.elem23 (by simp) (by simp) rfl ?_; intro wa hwa hps hba; clear hwa) | (go_at_call 72; refine (l01Code_any p [m] (by simp [hmb]) _ _ hps (by simp)).mono ?_; rintro e W2 ⟨rfl, hbb⟩; replace B0 := B0.below (hba.trans (hbb.mono hba.size)) B0.lt; replace hb := hb.trans ((hba.trans (hbb.mono hba.size)).mono hb.size); clear hps; rw [hc1]))
    go_wp2_with fail
    go_ret
    exact ⟨ret_int HV.out.symm, hb⟩
/-- the first number from k on that passes -/
def fndN (T : Nat → Bool) : Nat → Nat → Nat
  | 0, k => k
  | f + 1, k => if T k = true then k else fndN T f (k + 1)
theorem fndN_at {T : Nat → Bool} : ∀ (f k0 k : Nat), T k = true → k0 ≤ k → k < k0 + f → (∀ j, k0 ≤ j → j < k → T j = false) → fndN T f k0 = k
  | 0, k0, k, _, h1, h2, _ => by omega
  | f + 1, k0, k, ht, h1, h2, h3 => by
    rw [fndN]
    by_cases e : k0 = k
    · subst e; rw [if_pos ht]
    · rw [if_neg (by rw [h3 k0 (Nat.le_refl _) (by omega)]; simp)]
      exact fndN_at f (k0 + 1) k ht (by omega) (by omega) (fun j h4 h5 => h3 j (by omega) h5)
/-- the number of the least primitive residue -/
def pxN (p : Nat) (m : Nat → Nat) : Nat := fndN (fun k => decide (odN p (ofN p k) m = p ^ (deg m).toNat - 1)) 16807 1
theorem pxN_at {p d k : Nat} {m : Nat → Nat} (hd : deg m = (d : Int)) (h1 : 1 ≤ k) (h2 : k ≤ 16807) (h3 : odN p (ofN p k) m = p ^ d - 1) (h4 : ∀ j, 1 ≤ j → j < k → odN p (ofN p j) m ≠ p ^ d - 1) : pxN p m = k := by
  unfold pxN
  rw [hd]
  exact fndN_at 16807 1 k (by simpa using h3) h1 (by omega) (fun j a b => by simpa using h4 j a b)
noncomputable def prW (p : Int) (m : Nat → Nat) : (Nat → Nat) × Int := if modV p m [] = 0 then (if irB p.toNat m = true then (ofN p.toNat (pxN p.toNat m), 0) else (fun _ => 0, 5)) else (fun _ => 0, modV p m [])
theorem prW_code {p c : Int} {m : Nat → Nat} (h : modV p m [] = c) (h2 : c ≠ 0) : prW p m = (fun _ => 0, c) := by unfold prW; rw [h, if_neg h2]
theorem prW_no {n : Nat} {m : Nat → Nat} (h : modV (n : Int) m [] = 0) (h2 : irB n m = false) : prW (n : Int) m = (fun _ => 0, 5) := by
  unfold prW; rw [if_pos h, Int.toNat_natCast, if_neg (by rw [h2]; simp)]
theorem prW_ok {n : Nat} {m : Nat → Nat} (h : modV (n : Int) m [] = 0) (h2 : irB n m = true) : prW (n : Int) m = (ofN n (pxN n m), 0) := by
  unfold prW; rw [if_pos h, Int.toNat_natCast, if_pos h2]
attribute [local irreducible] deg invN odN pxN prW ofN irB resP pmP
set_option maxRecDepth 100000 in
set_option maxHeartbeats 3200000 in
theorem spec_Primitive_core (p : Int) (m : Nat → Nat) (hm : byte m) (hz : ∀ k, 64 ≤ k → m k = 0) (w : World) :
    Calls Try.prog 27 #[.int .i64 p, .agg (bcells 64 m)] w fun e w' => e = .returned (.tuple #[.agg (bcells 64 (prW p m).1), .int .i64 (prW p m).2]) ∧ Below w.heap.size w w' := by
  have hcut : cut m = m := by
    funext k; unfold cut
    split
    · rfl
    · exact (hz k (by omega)).symm
  go_enter Try.func27, Try.ntmps27
  go_upto_region 1 with (fail)
  rw [← zero64]
  obtain ⟨W1, hwo⟩ : ∃ v : World, v = ((w.alloc (.cells (bcells 64 (m)) 23)).alloc (.cells (bcells 64 fun _ => 0) 23)) := ⟨_, rfl⟩
  have B0 : Blk W1 (w.heap.size) 64 23 (m) := by subst hwo; have := ((Blk.new w 64 23 (m)).alloc (.cells (bcells 64 fun _ => 0) 23)); simpa using this
  have B1 : Blk W1 (w.heap.size + 1) 64 23 (fun _ => 0) := by subst hwo; have := (Blk.new (w.alloc (.cells (bcells 64 (m)) 23)) 64 23 (fun _ => 0)); simpa using this
  have hb : Below w.heap.size w W1 := by subst hwo; exact (((Below.refl _ _).alloc (Nat.le_refl _) _).alloc (by simp) _)
  rw [← hwo]
  clear hwo
  go_upto_region 2 with (first | (refine wpList_load_any rfl 23 (.tmp 3) rfl _ rfl 64 23 _ (B0) _ Try.underlying23 rfl Try.size23 ?_) | (go_at_call 82; refine (l02Modulus_nil p m hm _).mono ?_; rintro e W2 ⟨rfl, hW2⟩; replace B0 := B0.below hW2 B0.lt; replace B1 := B1.below hW2 B1.lt; replace hb := (hb).trans (hW2.mono (hb).size)))
  rcases modV_cases (p := p) (m := m) (fs := []) with ⟨c, hc, hc0, hc12⟩ | ⟨hc, hcm, hcf, hm5⟩
  · have HV := Lib.hid (prW_code hc hc0)
    rw [hc]
    clear hc
    have hb1 : ((c : Int) != 0) = true := by simp [hc0]
    go_upto_region 3 with (fail)
    have lt_B0 := B0.lt
    have lt_B1 := B1.lt
    go_wp2_with (first | rw [← zero64] | (refine wpList_store_blk rfl 23 (.tmp 4) (.tmp 15) rfl _ 64 (fun _ => 0) rfl rfl 23 _ (B1) Try.size23 ?_; try simp only [Act.put]; go_wp2_with fail))
    have qB0 : Blk (W2.setRow (w.heap.size + 1) (bcells 64 (fun _ => 0))) (w.heap.size) 64 23 (m) := (B0.rowOther (by omega))
    have qB1 : Blk (W2.setRow (w.heap.size + 1) (bcells 64 (fun _ => 0))) (w.heap.size + 1) 64 23 (fun _ => 0) := (B1.row (fun _ => 0))
    have qhb : Below w.heap.size w (W2.setRow (w.heap.size + 1) (bcells 64 (fun _ => 0))) := (below_row hb (by omega) _)
    obtain ⟨W3, hwo⟩ : ∃ v : World, v = (W2.setRow (w.heap.size + 1) (bcells 64 (fun _ => 0))) := ⟨_, rfl⟩
    rw [← hwo] at qB0 qB1 qhb ⊢
    clear hwo
    clear B0 B1 hb
    have B0 := qB0
    have B1 := qB1
    have hb := qhb
    clear qB0 qB1 qhb
    try simp only [Act.put, List.setIfInBounds_toArray, List.set_cons_zero, List.set_cons_succ]
    refine bodyPost_ret (results_bt rfl _ _ _ 64 23 5 _ rfl B1 Try.underlying23 Try.size23) rfl ⟨by first | (rw [HV.out]; rfl) | rw [HV.out], hb⟩
  · obtain ⟨n, hn, n2, n7⟩ := okP_nat (codeL_zero hcm).1
    subst hn
    have lm := lt_of_code hcm (f := m) (by simp)
    have hpr := prime_of hcm
    obtain ⟨d, hmon, hd1, hd5⟩ := mon_up hm5
    have h0 : 0 ≤ deg m := by rw [hmon.1]; omega
    have h12 : deg m ≤ 12 := by rw [hmon.1]; omega
    cases hu : irB n m with
    | false =>
      have HV := Lib.hid (prW_no hc hu)
      have HI := Lib.hid (fun W => l01Irreducible_any n m d W hpr lm hmon (by omega))
      rw [hu] at HI
      rw [hc]
      clear hc
      go_upto_region 4 with (fail)
      go_upto_region 5 with (first | (refine wpList_load_any rfl 23 (.tmp 3) rfl _ rfl 64 23 _ (B0) _ Try.underlying23 rfl Try.size23 ?_) | (go_at_call 83; refine (HI.out _).mono ?_; rintro e W3 ⟨rfl, hW3⟩; replace B0 := B0.below hW3 B0.lt; replace B1 := B1.below hW3 B1.lt; replace hb := (hb).trans (hW3.mono (hb).size)))
      have lt_B0 := B0.lt
      have lt_B1 := B1.lt
      go_wp2_with (first | rw [← zero64] | (refine wpList_store_blk rfl 23 (.tmp 4) (.tmp 21) rfl _ 64 (fun _ => 0) rfl rfl 23 _ (B1) Try.size23 ?_; try simp only [Act.put]; go_wp2_with fail))
      have qB0 : Blk (W3.setRow (w.heap.size + 1) (bcells 64 (fun _ => 0))) (w.heap.size) 64 23 (m) := (B0.rowOther (by omega))
      have qB1 : Blk (W3.setRow (w.heap.size + 1) (bcells 64 (fun _ => 0))) (w.heap.size + 1) 64 23 (fun _ => 0) := (B1.row (fun _ => 0))
      have qhb : Below w.heap.size w (W3.setRow (w.heap.size + 1) (bcells 64 (fun _ => 0))) := (below_row hb (by omega) _)
      obtain ⟨W4, hwo⟩ : ∃ v : World, v = (W3.setRow (w.heap.size + 1) (bcells 64 (fun _ => 0))) := ⟨_, rfl⟩
      rw [← hwo] at qB0 qB1 qhb ⊢
      clear hwo
      clear B0 B1 hb
      have B0 := qB0
      have B1 := qB1
      have hb := qhb
      clear qB0 qB1 qhb
      try simp only [Act.put, List.setIfInBounds_toArray, List.set_cons_zero, List.set_cons_succ]
      refine bodyPost_ret (results_bt rfl _ _ _ 64 23 5 _ rfl B1 Try.underlying23 Try.size23) rfl ⟨by first | (rw [HV.out]; rfl) | rw [HV.out], hb⟩
    | true =>
      have HV := Lib.hid (prW_ok hc hu)
      have HI := Lib.hid (fun W => l01Irreducible_any n m d W hpr lm hmon (by omega))
      rw [hu] at HI
      obtain ⟨dd, hir⟩ := irB_iff.1 hu
      rw [hcut] at hir
      have hdd : dd = d := by have h1 := hir.2.1.1; rw [hmon.1] at h1; omega
      rw [hdd] at hir
      obtain ⟨N0, hN1, hN2, hN3⟩ := prim_ex hpr hir (by omega)
      have hpw := pw_le5 hpr (show d ≤ 5 by omega)
      have hpw2 : 2 ≤ n ^ d := by
        have h2 : n ^ 1 ≤ n ^ d := Nat.pow_le_pow_right (by omega) hd1
        rw [Nat.pow_one] at h2; omega
      have HX := Lib.hid (fun k => pxN_at (p := n) (k := k) hmon.1)
      obtain ⟨Q, hQ⟩ : ∃ Q, Q = n ^ d := ⟨_, rfl⟩
      rw [← hQ] at hN2 hN3 HX hpw hpw2
      have HQ := Lib.hid hQ
      have HN3 := Lib.hid hN3
      have HOF := Lib.hid (fun (k : Nat) (hk : k ≤ 16807) W => l01Of_any n k W n2 n7 (by omega))
      have HOR := Lib.hid (fun (k : Nat) W => l02Order_any n (ofN n k) m W hpr (fun i _ => ofN_lt (by omega) k i) lm h0 h12)
      have HCO := Lib.hid (fun W => l01Count_any n d W n2 n7 (by omega))
      rw [← hQ] at HCO
      have HMD := Lib.hid hmon.1
      rw [hc]
      clear hc hQ hN3 hir hdd hmon hu hm5 hcm hcf hcut
      go_upto_region 4 with (fail)
      go_upto_region 6 with (first | (refine wpList_load_any rfl 23 (.tmp 3) rfl _ rfl 64 23 _ (B0) _ Try.underlying23 rfl Try.size23 ?_) | (go_at_call 83; refine (HI.out _).mono ?_; rintro e W3 ⟨rfl, hW3⟩; replace B0 := B0.below hW3 B0.lt; replace B1 := B1.below hW3 B1.lt; replace hb := (hb).trans (hW3.mono (hb).size)))
      go_upto_region 7 with (first | (refine wpList_load_any rfl 23 (.tmp 3) rfl _ rfl 64 23 _ (B0) _ Try.underlying23 rfl Try.size23 ?_) | (go_at_call 73; refine (l01Deg_any m _).mono ?_; rintro e W4 ⟨rfl, hW4⟩; replace B0 := B0.below hW4 B0.lt; replace B1 := B1.below hW4 B1.lt; replace hb := (hb).trans (hW4.mono (hb).size); rw [HMD.out]) | (go_at_call 84; refine (HCO.out _).mono ?_; rintro e wS ⟨rfl, rfl⟩))
      go_wp2_with fail
      go_loopw [8] (fun i wr => ∃ k : Nat, i = .int .i64 (k : Int) ∧ 1 ≤ k ∧ k ≤ N0 ∧ Hid (∀ j, 1 ≤ j → j < k → odN n (ofN n j) m ≠ Q - 1) ∧ Below w.heap.size w wr ∧ Blk wr (w.heap.size) 64 23 (m) ∧ Blk wr (w.heap.size + 1) 64 23 (fun _ => 0)) (fun i _ => N0 - (intOf i).toNat)
      case atStart => exact ⟨1, rfl, Nat.le_refl _, hN1, Lib.hid (fun j h1 h2 => by omega), hb, B0, B1⟩
      case round =>
        clear hb B0 B1
        obtain ⟨k, rfl, hk1, hkN, hall, hb, B0, B1⟩ := hrel
        obtain ⟨O, hO⟩ : ∃ O, O = odN n (ofN n k) m := ⟨_, rfl⟩
        have HOK := Lib.hid (fun W => HOR.out k W)
        rw [← hO] at HOK
        have HOI := Lib.hid (fun W => HOF.out k (by omega) W)
        by_cases hE : O = Q - 1
        · have hne : ((O : Int) == (Q : Int) - 1) = true := by simp; omega
          have HV2 := Lib.hid (HX.out k hk1 (by omega) (by rw [← hO]; exact hE) hall.out)
          have HV3 := Lib.hid (show prW (n : Int) m = (ofN n k, 0) by rw [HV.out, HV2.out])
          clear hE hO
          go_upto_region 9 with (fail)
          have lt_B0 := B0.lt
          have lt_B1 := B1.lt
          go_upto_region 10 with (first | rw [← zero64] | (go_at_call 85; refine (HOI.out _).mono ?_; rintro e W5 ⟨rfl, hW5⟩; replace B0 := B0.below hW5 B0.lt; replace B1 := B1.below hW5 B1.lt; replace hb := (hb).trans (hW5.mono (hb).size)) | (refine wpList_store_blk rfl 23 (.tmp 9) (.tmp 30) rfl _ 64 (ofN n k) rfl rfl 23 _ ((Blk.new W5 64 23 (fun _ => 0))) Try.size23 ?_; try simp only [Act.put]))
          have lt_B0 := B0.lt
          have lt_B1 := B1.lt
          have lhb := hb.size
          have qB0 : Blk ((W5.alloc (.cells (bcells 64 fun _ => 0) 23)).setRow (W5.heap.size) (bcells 64 (ofN n k))) (w.heap.size) 64 23 (m) := ((B0.alloc (.cells (bcells 64 fun _ => 0) 23)).rowOther (by omega))
          have qB1 : Blk ((W5.alloc (.cells (bcells 64 fun _ => 0) 23)).setRow (W5.heap.size) (bcells 64 (ofN n k))) (w.heap.size + 1) 64 23 (fun _ => 0) := ((B1.alloc (.cells (bcells 64 fun _ => 0) 23)).rowOther (by omega))
          have qB2 : Blk ((W5.alloc (.cells (bcells 64 fun _ => 0) 23)).setRow (W5.heap.size) (bcells 64 (ofN n k))) (W5.heap.size) 64 23 (ofN n k) := ((Blk.new W5 64 23 (fun _ => 0)).row (ofN n k))
          have qhb : Below w.heap.size w ((W5.alloc (.cells (bcells 64 fun _ => 0) 23)).setRow (W5.heap.size) (bcells 64 (ofN n k))) := (below_row (hb.alloc (by have := hb.size; simp; omega) (.cells (bcells 64 fun _ => 0) 23)) (by omega) _)
          obtain ⟨W6, hwo⟩ : ∃ v : World, v = ((W5.alloc (.cells (bcells 64 fun _ => 0) 23)).setRow (W5.heap.size) (bcells 64 (ofN n k))) := ⟨_, rfl⟩
          rw [← hwo] at qB0 qB1 qB2 qhb ⊢
          clear hwo
          clear B0 B1 hb
          have B0 := qB0
          have B1 := qB1
          have B2 := qB2
          have hb := qhb
          clear qB0 qB1 qB2 qhb
          obtain ⟨N1, hNN⟩ : ∃ n : Nat, n = W5.heap.size := ⟨_, rfl⟩
          rw [← hNN] at lt_B0 lt_B1 lhb B2 ⊢
          clear hNN
          have zN1_0 := lt_B0
          have zN1_1 := lt_B1
          have zN1 := lhb
          clear lt_B0 lt_B1 lhb
          try simp only [Act.put, List.setIfInBounds_toArray, List.set_cons_zero, List.set_cons_succ]
          go_upto_region 11 with (first | (refine wpList_load_any rfl 23 (.tmp 9) rfl _ rfl 64 23 _ (B2) _ Try.underlying23 rfl Try.size23 ?_) | (refine wpList_load_any rfl 23 (.tmp 3) rfl _ rfl 64 23 _ (B0) _ Try.underlying23 rfl Try.size23 ?_) | (go_at_call 86; refine (HOK.out _).mono ?_; rintro e W7 ⟨rfl, hW7⟩; replace B0 := B0.below hW7 B0.lt; replace B1 := B1.below hW7 B1.lt; replace B2 := B2.below hW7 B2.lt; replace hb := (hb).trans (hW7.mono (hb).size)))
          have lt_B0 := B0.lt
          have lt_B1 := B1.lt
          have lt_B2 := B2.lt
          go_wp2_with (first | rw [← zero64] | (refine wpList_load_any rfl 23 (.tmp 9) rfl _ rfl 64 23 _ (B2) _ Try.underlying23 rfl Try.size23 ?_) | (refine wpList_store_blk rfl 23 (.tmp 4) (.tmp 38) rfl _ 64 (ofN n k) rfl rfl 23 _ (B1) Try.size23 ?_; try simp only [Act.put]; go_wp2_with fail))
          have qB0 : Blk (W7.setRow (w.heap.size + 1) (bcells 64 (ofN n k))) (w.heap.size) 64 23 (m) := (B0.rowOther (by omega))
          have qB1 : Blk (W7.setRow (w.heap.size + 1) (bcells 64 (ofN n k))) (w.heap.size + 1) 64 23 (ofN n k) := (B1.row (ofN n k))
          have qB2 : Blk (W7.setRow (w.heap.size + 1) (bcells 64 (ofN n k))) (N1) 64 23 (ofN n k) := (B2.rowOther (by omega))
          have qhb : Below w.heap.size w (W7.setRow (w.heap.size + 1) (bcells 64 (ofN n k))) := (below_row hb (by omega) _)
          obtain ⟨W8, hwo⟩ : ∃ v : World, v = (W7.setRow (w.heap.size + 1) (bcells 64 (ofN n k))) := ⟨_, rfl⟩
          rw [← hwo] at qB0 qB1 qB2 qhb ⊢
          clear hwo
          clear B0 B1 B2 hb
          have B0 := qB0
          have B1 := qB1
          have B2 := qB2
          have hb := qhb
          clear qB0 qB1 qB2 qhb
          try simp only [Act.put, List.setIfInBounds_toArray, List.set_cons_zero, List.set_cons_succ]
          refine bodyPost_ret (results_bt rfl _ _ _ 64 23 5 _ rfl B1 Try.underlying23 Try.size23) rfl ⟨by first | (rw [HV3.out]; rfl) | rw [HV3.out], hb⟩
        · have hne : ((O : Int) == (Q : Int) - 1) = false := by simp; omega
          have HNE := Lib.hid (show odN n (ofN n k) m ≠ Q - 1 from by rw [← hO]; exact hE)
          have hkl : k < N0 := by
            apply Classical.byContradiction
            intro h
            have : k = N0 := by omega
            have h1 := HN3.out
            have h2 := HNE.out
            rw [this] at h2
            exact h2 h1
          clear hE hO
          go_upto_region 9 with (fail)
          have lt_B0 := B0.lt
          have lt_B1 := B1.lt
          go_upto_region 10 with (first | rw [← zero64] | (go_at_call 85; refine (HOI.out _).mono ?_; rintro e W5 ⟨rfl, hW5⟩; replace B0 := B0.below hW5 B0.lt; replace B1 := B1.below hW5 B1.lt; replace hb := (hb).trans (hW5.mono (hb).size)) | (refine wpList_store_blk rfl 23 (.tmp 9) (.tmp 30) rfl _ 64 (ofN n k) rfl rfl 23 _ ((Blk.new W5 64 23 (fun _ => 0))) Try.size23 ?_; try simp only [Act.put]))
          have lt_B0 := B0.lt
          have lt_B1 := B1.lt
          have lhb := hb.size
          have qB0 : Blk ((W5.alloc (.cells (bcells 64 fun _ => 0) 23)).setRow (W5.heap.size) (bcells 64 (ofN n k))) (w.heap.size) 64 23 (m) := ((B0.alloc (.cells (bcells 64 fun _ => 0) 23)).rowOther (by omega))
          have qB1 : Blk ((W5.alloc (.cells (bcells 64 fun _ => 0) 23)).setRow (W5.heap.size) (bcells 64 (ofN n k))) (w.heap.size + 1) 64 23 (fun _ => 0) := ((B1.alloc (.cells (bcells 64 fun _ => 0) 23)).rowOther (by omega))
          have qB2 : Blk ((W5.alloc (.cells (bcells 64 fun _ => 0) 23)).setRow (W5.heap.size) (bcells 64 (ofN n k))) (W5.heap.size) 64 23 (ofN n k) := ((Blk.new W5 64 23 (fun _ => 0)).row (ofN n k))
          have qhb : Below w.heap.size w ((W5.alloc (.cells (bcells 64 fun _ => 0) 23)).setRow (W5.heap.size) (bcells 64 (ofN n k))) := (below_row (hb.alloc (by have := hb.size; simp; omega) (.cells (bcells 64 fun _ => 0) 23)) (by omega) _)
          obtain ⟨W6, hwo⟩ : ∃ v : World, v = ((W5.alloc (.cells (bcells 64 fun _ => 0) 23)).setRow (W5.heap.size) (bcells 64 (ofN n k))) := ⟨_, rfl⟩
          rw [← hwo] at qB0 qB1 qB2 qhb ⊢
          clear hwo
          clear B0 B1 hb
          have B0 := qB0
          have B1 := qB1
          have B2 := qB2
          have hb := qhb
          clear qB0 qB1 qB2 qhb
          obtain ⟨N1, hNN⟩ : ∃ n : Nat, n = W5.heap.size := ⟨_, rfl⟩
          rw [← hNN] at lt_B0 lt_B1 lhb B2 ⊢
          clear hNN
          have zN1_0 := lt_B0
          have zN1_1 := lt_B1
          have zN1 := lhb
          clear lt_B0 lt_B1 lhb
          try simp only [Act.put, List.setIfInBounds_toArray, List.set_cons_zero, List.set_cons_succ]
          go_upto_region 8 with (first | (refine wpList_load_any rfl 23 (.tmp 9) rfl _ rfl 64 23 _ (B2) _ Try.underlying23 rfl Try.size23 ?_) | (refine wpList_load_any rfl 23 (.tmp 3) rfl _ rfl 64 23 _ (B0) _ Try.underlying23 rfl Try.size23 ?_) | (go_at_call 86; refine (HOK.out _).mono ?_; rintro e W7 ⟨rfl, hW7⟩; replace B0 := B0.below hW7 B0.lt; replace B1 := B1.below hW7 B1.lt; replace B2 := B2.below hW7 B2.lt; replace hb := (hb).trans (hW7.mono (hb).size)))
          go_wp2_with fail
          go_roundw
          case rel => exact ⟨k + 1, by go_num, by omega, by omega, Lib.hid (fun j h1 h2 => by
            by_cases e : j = k
            · subst e; exact HNE.out
            · exact hall.out j h1 (by omega)), hb, B0, B1⟩
          case measure => simp [intOf] <;> omega
theorem spec_PrimitiveOf_any (p : Int) (m : Nat → Nat) (hm : byte m) (w : World) :
    Calls Try.prog 27 #[.int .i64 p, .agg (bcells 64 m)] w fun e w' => e = .returned (.tuple #[.agg (bcells 64 (prW p (cut m)).1), .int .i64 (prW p (cut m)).2]) ∧ Below w.heap.size w w' := by
  have h := spec_Primitive_core p (cut m) (fun k => by unfold cut; split; exact hm k; omega) (fun k hk => by unfold cut; rw [if_neg (by omega)]) w
  rw [bcells_cut] at h
  exact h
set_option maxRecDepth 100000 in
set_option maxHeartbeats 3200000 in
theorem impl_Primitive_core (p : Int) (m : Nat → Nat) (hm : byte m) (hz : ∀ k, 64 ≤ k → m k = 0) (w : World) :
    Calls Try.prog 28 #[.int .i64 p, .agg (bcells 64 m)] w fun e w' => e = .returned (.tuple #[.agg (bcells 64 (prW p m).1), .int .i64 (prW p m).2]) ∧ Below w.heap.size w w' := by
  have hcut : cut m = m := by
    funext k; unfold cut
    split
    · rfl
    · exact (hz k (by omega)).symm
  go_enter Try.func28, Try.ntmps28
  go_upto_region 1 with (fail)
  rw [← zero64]
  obtain ⟨W1, hwo⟩ : ∃ v : World, v = ((w.alloc (.cells (bcells 64 (m)) 23)).alloc (.cells (bcells 64 fun _ => 0) 23)) := ⟨_, rfl⟩
  have B0 : Blk W1 (w.heap.size) 64 23 (m) := by subst hwo; have := ((Blk.new w 64 23 (m)).alloc (.cells (bcells 64 fun _ => 0) 23)); simpa using this
  have B1 : Blk W1 (w.heap.size + 1) 64 23 (fun _ => 0) := by subst hwo; have := (Blk.new (w.alloc (.cells (bcells 64 (m)) 23)) 64 23 (fun _ => 0)); simpa using this
  have hb : Below w.heap.size w W1 := by subst hwo; exact (((Below.refl _ _).alloc (Nat.le_refl _) _).alloc (by simp) _)
  rw [← hwo]
  clear hwo
  go_upto_region 2 with (first | (refine wpList_load_any rfl 23 (.tmp 3) rfl _ rfl 64 23 _ (B0) _ Try.underlying23 rfl Try.size23 ?_) | (go_at_call 87; refine (checkModulus_nil p m hm _).mono ?_; rintro e W2 ⟨rfl, hW2⟩; replace B0 := B0.below hW2 B0.lt; replace B1 := B1.below hW2 B1.lt; replace hb := (hb).trans (hW2.mono (hb).size)))
  rcases modV_cases (p := p) (m := m) (fs := []) with ⟨c, hc, hc0, hc12⟩ | ⟨hc, hcm, hcf, hm5⟩
  · have HV := Lib.hid (prW_code hc hc0)
    rw [hc]
    clear hc
    have hb1 : ((c : Int) != 0) = true := by simp [hc0]
    go_upto_region 3 with (fail)
    have lt_B0 := B0.lt
    have lt_B1 := B1.lt
    go_wp2_with (first | rw [← zero64] | (refine wpList_store_blk rfl 23 (.tmp 4) (.tmp 13) rfl _ 64 (fun _ => 0) rfl rfl 23 _ (B1) Try.size23 ?_; try simp only [Act.put]; go_wp2_with fail))
    have qB0 : Blk (W2.setRow (w.heap.size + 1) (bcells 64 (fun _ => 0))) (w.heap.size) 64 23 (m) := (B0.rowOther (by omega))
    have qB1 : Blk (W2.setRow (w.heap.size + 1) (bcells 64 (fun _ => 0))) (w.heap.size + 1) 64 23 (fun _ => 0) := (B1.row (fun _ => 0))
    have qhb : Below w.heap.size w (W2.setRow (w.heap.size + 1) (bcells 64 (fun _ => 0))) := (below_row hb (by omega) _)
    obtain ⟨W3, hwo⟩ : ∃ v : World, v = (W2.setRow (w.heap.size + 1) (bcells 64 (fun _ => 0))) := ⟨_, rfl⟩
    rw [← hwo] at qB0 qB1 qhb ⊢
    clear hwo
    clear B0 B1 hb
    have B0 := qB0
    have B1 := qB1
    have hb := qhb
    clear qB0 qB1 qhb
    try simp only [Act.put, List.setIfInBounds_toArray, List.set_cons_zero, List.set_cons_succ]
    refine bodyPost_ret (results_bt rfl _ _ _ 64 23 5 _ rfl B1 Try.underlying23 Try.size23) rfl ⟨by first | (rw [HV.out]; rfl) | rw [HV.out], hb⟩
  · obtain ⟨n, hn, n2, n7⟩ := okP_nat (codeL_zero hcm).1
    subst hn
    have lm := lt_of_code hcm (f := m) (by simp)
    have hpr := prime_of hcm
    obtain ⟨d, hmon, hd1, hd5⟩ := mon_up hm5
    have h0 : 0 ≤ deg m := by rw [hmon.1]; omega
    have h12 : deg m ≤ 12 := by rw [hmon.1]; omega
    cases hu : irB n m with
    | false =>
      have HV := Lib.hid (prW_no hc hu)
      have HI := Lib.hid (show ∀ W, Calls Try.prog 88 #[.int .i64 (n : Int), .agg (bcells 64 m)] W fun e w' => e = .returned (.bool false) ∧ Below W.heap.size W w' from fun W => by
        have h := isIrreducible_any n m W hpr lm
        have hb5 : monB m = true := by
          have h5 := hm5
          rw [monUp_B] at h5
          simp only [Bool.and_eq_true, decide_eq_true_eq] at h5
          exact h5.1
        rw [irV_B h12, hb5, hu] at h
        exact h)
      rw [hc]
      clear hc
      go_upto_region 4 with (fail)
      go_upto_region 5 with (first | (refine wpList_load_any rfl 23 (.tmp 3) rfl _ rfl 64 23 _ (B0) _ Try.underlying23 rfl Try.size23 ?_) | (go_at_call 88; refine (HI.out _).mono ?_; rintro e W3 ⟨rfl, hW3⟩; replace B0 := B0.below hW3 B0.lt; replace B1 := B1.below hW3 B1.lt; replace hb := (hb).trans (hW3.mono (hb).size)))
      have lt_B0 := B0.lt
      have lt_B1 := B1.lt
      go_wp2_with (first | rw [← zero64] | (refine wpList_store_blk rfl 23 (.tmp 4) (.tmp 19) rfl _ 64 (fun _ => 0) rfl rfl 23 _ (B1) Try.size23 ?_; try simp only [Act.put]; go_wp2_with fail))
      have qB0 : Blk (W3.setRow (w.heap.size + 1) (bcells 64 (fun _ => 0))) (w.heap.size) 64 23 (m) := (B0.rowOther (by omega))
      have qB1 : Blk (W3.setRow (w.heap.size + 1) (bcells 64 (fun _ => 0))) (w.heap.size + 1) 64 23 (fun _ => 0) := (B1.row (fun _ => 0))
      have qhb : Below w.heap.size w (W3.setRow (w.heap.size + 1) (bcells 64 (fun _ => 0))) := (below_row hb (by omega) _)
      obtain ⟨W4, hwo⟩ : ∃ v : World, v = (W3.setRow (w.heap.size + 1) (bcells 64 (fun _ => 0))) := ⟨_, rfl⟩
      rw [← hwo] at qB0 qB1 qhb ⊢
      clear hwo
      clear B0 B1 hb
      have B0 := qB0
      have B1 := qB1
      have hb := qhb
      clear qB0 qB1 qhb
      try simp only [Act.put, List.setIfInBounds_toArray, List.set_cons_zero, List.set_cons_succ]
      refine bodyPost_ret (results_bt rfl _ _ _ 64 23 5 _ rfl B1 Try.underlying23 Try.size23) rfl ⟨by first | (rw [HV.out]; rfl) | rw [HV.out], hb⟩
    | true =>
      have HV := Lib.hid (prW_ok hc hu)
      have HI := Lib.hid (show ∀ W, Calls Try.prog 88 #[.int .i64 (n : Int), .agg (bcells 64 m)] W fun e w' => e = .returned (.bool true) ∧ Below W.heap.size W w' from fun W => by
        have h := isIrreducible_any n m W hpr lm
        have hb5 : monB m = true := by
          have h5 := hm5
          rw [monUp_B] at h5
          simp only [Bool.and_eq_true, decide_eq_true_eq] at h5
          exact h5.1
        rw [irV_B h12, hb5, hu] at h
        exact h)
      obtain ⟨dd, hir⟩ := irB_iff.1 hu
      rw [hcut] at hir
      have hdd : dd = d := by have h1 := hir.2.1.1; rw [hmon.1] at h1; omega
      rw [hdd] at hir
      obtain ⟨N0, hN1, hN2, hN3⟩ := prim_ex hpr hir (by omega)
      have hpw := pw_le5 hpr (show d ≤ 5 by omega)
      have hpw2 : 2 ≤ n ^ d := by
        have h2 : n ^ 1 ≤ n ^ d := Nat.pow_le_pow_right (by omega) hd1
        rw [Nat.pow_one] at h2; omega
      have HX := Lib.hid (fun k => pxN_at (p := n) (k := k) hmon.1)
      obtain ⟨Q, hQ⟩ : ∃ Q, Q = n ^ d := ⟨_, rfl⟩
      rw [← hQ] at hN2 hN3 HX hpw hpw2
      have HQ := Lib.hid hQ
      have HN3 := Lib.hid hN3
      have HOF := Lib.hid (fun (k : Nat) (hk : k ≤ 16807) W => polyOfNumber_any n k W n2 n7 (by omega))
      have HOR := Lib.hid (fun (k : Nat) W => orderOf_any n (ofN n k) m W hpr (fun i _ => ofN_lt (by omega) k i) lm h0 h12)
      have HDG := Lib.hid (show ∀ W, Calls Try.prog 78 #[.agg (bcells 64 m)] W fun e w' => e = .returned (.int .i64 (d : Int)) ∧ Below W.heap.size W w' from fun W => by
        have h := degree_any m W
        rw [hmon.1] at h; exact h)
      have HNO := Lib.hid (show ∀ W, Calls Try.prog 91 #[.int .i64 (n : Int), .int .i64 (d : Int)] W fun e w' => e = .returned (.int .i64 (Q : Int)) ∧ Below W.heap.size W w' from fun W => by
        have h := norm_any n d W n2 n7 (by omega)
        rw [← hQ] at h
        exact h.mono (by rintro e w' ⟨rfl, rfl⟩; exact ⟨rfl, Below.refl _ _⟩))
      have HMD := Lib.hid hmon.1
      rw [hc]
      clear hc hQ hN3 hir hdd hmon hu hm5 hcm hcf hcut
      go_upto_region 4 with (fail)
      go_upto_region 6 with (first | (refine wpList_load_any rfl 23 (.tmp 3) rfl _ rfl 64 23 _ (B0) _ Try.underlying23 rfl Try.size23 ?_) | (go_at_call 88; refine (HI.out _).mono ?_; rintro e W3 ⟨rfl, hW3⟩; replace B0 := B0.below hW3 B0.lt; replace B1 := B1.below hW3 B1.lt; replace hb := (hb).trans (hW3.mono (hb).size)))
      go_wp2_with fail
      go_loopw [7] (fun i wr => ∃ k : Nat, i = .int .i64 (k : Int) ∧ 1 ≤ k ∧ k ≤ N0 ∧ Hid (∀ j, 1 ≤ j → j < k → odN n (ofN n j) m ≠ Q - 1) ∧ Below w.heap.size w wr ∧ Blk wr (w.heap.size) 64 23 (m) ∧ Blk wr (w.heap.size + 1) 64 23 (fun _ => 0)) (fun i _ => N0 - (intOf i).toNat)
      case atStart => exact ⟨1, rfl, Nat.le_refl _, hN1, Lib.hid (fun j h1 h2 => by omega), hb, B0, B1⟩
      case round =>
        clear hb B0 B1
        obtain ⟨k, rfl, hk1, hkN, hall, hb, B0, B1⟩ := hrel
        obtain ⟨O, hO⟩ : ∃ O, O = odN n (ofN n k) m := ⟨_, rfl⟩
        have HOK := Lib.hid (fun W => HOR.out k W)
        rw [← hO] at HOK
        have HOI := Lib.hid (fun W => HOF.out k (by omega) W)
        by_cases hE : O = Q - 1
        · have hne : ((O : Int) != (Q : Int) - 1) = false := by simp; omega
          have HV2 := Lib.hid (HX.out k hk1 (by omega) (by rw [← hO]; exact hE) hall.out)
          have HV3 := Lib.hid (show prW (n : Int) m = (ofN n k, 0) by rw [HV.out, HV2.out])
          clear hE hO
          go_upto_region 7 with (fail)
          have lt_B0 : (w.heap.size) < wr.heap.size := B0.lt
          have lt_B1 : (w.heap.size + 1) < wr.heap.size := B1.lt
          have hbase : w.heap.size ≤ wr.heap.size := hb.size
          refine wp_region_steps0 Try.mixed (by kernel_rfl) (by kernel_rfl) (fun v => by (simp only [frL, Act.put, List.setIfInBounds_toArray, List.set_cons_zero, List.set_cons_succ, Nat.reduceAdd, Nat.zero_add]; exact rfl))
            (fun L v W4 => Below w.heap.size w W4 ∧ wr.heap.size ≤ W4.heap.size ∧ Blk W4 (w.heap.size) 64 23 (m) ∧ Blk W4 (w.heap.size + 1) 64 23 (fun _ => 0) ∧ (L 0 = true → v 0 = (.int .i64 (n : Int))) ∧ (L 1 = true → v 1 = (.int .i64 (n : Int))) ∧ (L 2 = true → v 2 = (.int .i64 (k : Int))) ∧ (L 3 = true → v 3 = (.agg (bcells 64 (ofN n k)))) ∧ (L 4 = true → v 4 = (.agg (bcells 64 (m)))) ∧ (L 5 = true → v 5 = (.int .i64 (O : Int))) ∧ (L 6 = true → v 6 = (.int .i64 (n : Int))) ∧ (L 7 = true → v 7 = (.agg (bcells 64 (m)))) ∧ (L 8 = true → v 8 = (.int .i64 (d : Int))) ∧ (L 9 = true → v 9 = (.int .i64 (Q : Int))) ∧ (L 10 = true → v 10 = (.int .i64 ((Q : Int) - 1))) ∧ (L 11 = true → v 11 = (.bool false))) ?_ ?_ ?_
          · intro v hv0
            exact ⟨hb.drew, Nat.le_refl _, B0.drew, B1.drew, (fun h => by cases h), (fun h => by cases h), (fun h => by cases h), (fun h => by cases h), (fun h => by cases h), (fun h => by cases h), (fun h => by cases h), (fun h => by cases h), (fun h => by cases h), (fun h => by cases h), (fun h => by cases h), (fun h => by cases h)⟩
          · refine (.cons rfl ?_ (.cons rfl ?_ (.cons rfl ?_ (.cons rfl ?_ (.cons rfl ?_ (.cons rfl ?_ (.cons rfl ?_ (.cons rfl ?_ (.cons rfl ?_ (.cons rfl ?_ (.cons rfl ?_ (.cons rfl ?_ (.nil _)))))))))))))
            · intro L v W4 hd hn ⟨hB, hz, s0, s1, h0, h1, h2, h3, h4, h5, h6, h7, h8, h9, h10, h11⟩ K hK
              go_wp2_with fail
              exact hK _ (.int .i64 (n : Int)) _ (by simp only [Act.put, List.setIfInBounds_toArray, List.set_cons_zero, List.set_cons_succ ]) ⟨hB, hz, s0, s1, (fun _ => rfl), h1, h2, h3, h4, h5, h6, h7, h8, h9, h10, h11⟩
            · intro L v W4 hd hn ⟨hB, hz, s0, s1, h0, h1, h2, h3, h4, h5, h6, h7, h8, h9, h10, h11⟩ K hK
              go_wp2_with fail
              exact hK _ (.int .i64 (n : Int)) _ (by simp only [Act.put, List.setIfInBounds_toArray, List.set_cons_zero, List.set_cons_succ ]) ⟨hB, hz, s0, s1, h0, (fun _ => rfl), h2, h3, h4, h5, h6, h7, h8, h9, h10, h11⟩
            · intro L v W4 hd hn ⟨hB, hz, s0, s1, h0, h1, h2, h3, h4, h5, h6, h7, h8, h9, h10, h11⟩ K hK
              go_wp2_with fail
              exact hK _ (.int .i64 (k : Int)) _ (by simp only [Act.put, List.setIfInBounds_toArray, List.set_cons_zero, List.set_cons_succ ]) ⟨hB, hz, s0, s1, h0, h1, (fun _ => rfl), h3, h4, h5, h6, h7, h8, h9, h10, h11⟩
            · intro L v W4 hd hn ⟨hB, hz, s0, s1, h0, h1, h2, h3, h4, h5, h6, h7, h8, h9, h10, h11⟩ K hK
              have e1 := h1 (hd ⟨1, .data⟩ (by simp) rfl)
              have e2 := h2 (hd ⟨2, .data⟩ (by simp) rfl)
              go_wp2_with (go_at_call 90; refine (HOI.out _).mono ?_; rintro e wy ⟨rfl, hy⟩)
              exact hK _ (.agg (bcells 64 (ofN n k))) _ (by simp only [Act.put, List.setIfInBounds_toArray, List.set_cons_zero, List.set_cons_succ, e1, e2]) ⟨hB.trans (hy.mono hB.size), (Nat.le_trans hz hy.size), (s0).below hy (s0).lt, (s1).below hy (s1).lt, h0, h1, h2, (fun _ => rfl), h4, h5, h6, h7, h8, h9, h10, h11⟩
            · intro L v W4 hd hn ⟨hB, hz, s0, s1, h0, h1, h2, h3, h4, h5, h6, h7, h8, h9, h10, h11⟩ K hK
              refine wp_load_any 23 _ rfl _ rfl 64 23 _ s0 _ Try.underlying23 rfl Try.size23 ?_
              exact hK _ _ _ rfl ⟨hB, hz, s0, s1, h0, h1, h2, h3, (fun _ => rfl), h5, h6, h7, h8, h9, h10, h11⟩
            · intro L v W4 hd hn ⟨hB, hz, s0, s1, h0, h1, h2, h3, h4, h5, h6, h7, h8, h9, h10, h11⟩ K hK
              have e0 := h0 (hd ⟨0, .data⟩ (by simp) rfl)
              have e3 := h3 (hd ⟨3, .data⟩ (by simp) rfl)
              have e4 := h4 (hd ⟨4, .data⟩ (by simp) rfl)
              go_wp2_with (go_at_call 89; refine (HOK.out _).mono ?_; rintro e wy ⟨rfl, hy⟩)
              exact hK _ (.int .i64 (O : Int)) _ (by simp only [Act.put, List.setIfInBounds_toArray, List.set_cons_zero, List.set_cons_succ, e0, e3, e4]) ⟨hB.trans (hy.mono hB.size), (Nat.le_trans hz hy.size), (s0).below hy (s0).lt, (s1).below hy (s1).lt, h0, h1, h2, h3, h4, (fun _ => rfl), h6, h7, h8, h9, h10, h11⟩
            · intro L v W4 hd hn ⟨hB, hz, s0, s1, h0, h1, h2, h3, h4, h5, h6, h7, h8, h9, h10, h11⟩ K hK
              go_wp2_with fail
              exact hK _ (.int .i64 (n : Int)) _ (by simp only [Act.put, List.setIfInBounds_toArray, List.set_cons_zero, List.set_cons_succ ]) ⟨hB, hz, s0, s1, h0, h1, h2, h3, h4, h5, (fun _ => rfl), h7, h8, h9, h10, h11⟩
            · intro L v W4 hd hn ⟨hB, hz, s0, s1, h0, h1, h2, h3, h4, h5, h6, h7, h8, h9, h10, h11⟩ K hK
              refine wp_load_any 23 _ rfl _ rfl 64 23 _ s0 _ Try.underlying23 rfl Try.size23 ?_
              exact hK _ _ _ rfl ⟨hB, hz, s0, s1, h0, h1, h2, h3, h4, h5, h6, (fun _ => rfl), h8, h9, h10, h11⟩
            · intro L v W4 hd hn ⟨hB, hz, s0, s1, h0, h1, h2, h3, h4, h5, h6, h7, h8, h9, h10, h11⟩ K hK
              have e7 := h7 (hd ⟨7, .data⟩ (by simp) rfl)
              go_wp2_with (go_at_call 78; refine (HDG.out _).mono ?_; rintro e wy ⟨rfl, hy⟩)
              exact hK _ (.int .i64 (d : Int)) _ (by simp only [Act.put, List.setIfInBounds_toArray, List.set_cons_zero, List.set_cons_succ, e7]) ⟨hB.trans (hy.mono hB.size), (Nat.le_trans hz hy.size), (s0).below hy (s0).lt, (s1).below hy (s1).lt, h0, h1, h2, h3, h4, h5, h6, h7, (fun _ => rfl), h9, h10, h11⟩
            · intro L v W4 hd hn ⟨hB, hz, s0, s1, h0, h1, h2, h3, h4, h5, h6, h7, h8, h9, h10, h11⟩ K hK
              have e6 := h6 (hd ⟨6, .data⟩ (by simp) rfl)
              have e8 := h8 (hd ⟨8, .data⟩ (by simp) rfl)
              go_wp2_with (go_at_call 91; refine (HNO.out _).mono ?_; rintro e wy ⟨rfl, hy⟩)
              exact hK _ (.int .i64 (Q : Int)) _ (by simp only [Act.put, List.setIfInBounds_toArray, List.set_cons_zero, List.set_cons_succ, e6, e8]) ⟨hB.trans (hy.mono hB.size), (Nat.le_trans hz hy.size), (s0).below hy (s0).lt, (s1).below hy (s1).lt, h0, h1, h2, h3, h4, h5, h6, h7, h8, (fun _ => rfl), h10, h11⟩
            · intro L v W4 hd hn ⟨hB, hz, s0, s1, h0, h1, h2, h3, h4, h5, h6, h7, h8, h9, h10, h11⟩ K hK
              have e9 := h9 (hd ⟨9, .data⟩ (by simp) rfl)
              go_wp2_with fail
              exact hK _ (.int .i64 ((Q : Int) - 1)) _ (by simp only [Act.put, List.setIfInBounds_toArray, List.set_cons_zero, List.set_cons_succ, e9]) ⟨hB, hz, s0, s1, h0, h1, h2, h3, h4, h5, h6, h7, h8, h9, (fun _ => rfl), h11⟩
            · intro L v W4 hd hn ⟨hB, hz, s0, s1, h0, h1, h2, h3, h4, h5, h6, h7, h8, h9, h10, h11⟩ K hK
              have e5 := h5 (hd ⟨5, .data⟩ (by simp) rfl)
              have e10 := h10 (hd ⟨10, .data⟩ (by simp) rfl)
              go_wp2_with fail
              exact hK _ (.bool false) _ (by simp only [Act.put, List.setIfInBounds_toArray, List.set_cons_zero, List.set_cons_succ, e5, e10]) ⟨hB, hz, s0, s1, h0, h1, h2, h3, h4, h5, h6, h7, h8, h9, h10, (fun _ => rfl)⟩
          · intro L v W4 hL ⟨hB, hz, s0, s1, h0, h1, h2, h3, h4, h5, h6, h7, h8, h9, h10, h11⟩
            have e0 := h0 (hL 0 (by decide))
            have e1 := h1 (hL 1 (by decide))
            have e2 := h2 (hL 2 (by decide))
            have e3 := h3 (hL 3 (by decide))
            have e4 := h4 (hL 4 (by decide))
            have e5 := h5 (hL 5 (by decide))
            have e6 := h6 (hL 6 (by decide))
            have e7 := h7 (hL 7 (by decide))
            have e8 := h8 (hL 8 (by decide))
            have e9 := h9 (hL 9 (by decide))
            have e10 := h10 (hL 10 (by decide))
            have e11 := h11 (hL 11 (by decide))
            clear hL h0 h1 h2 h3 h4 h5 h6 h7 h8 h9 h10 h11
            simp only [Exit.then, e0, e1, e2, e3, e4, e5, e6, e7, e8, e9, e10, e11]
            clear e0 e1 e2 e3 e4 e5 e6 e7 e8 e9 e10 e11
            clear B0
            have B0 := s0
            clear s0
            clear B1
            have B1 := s1
            clear s1
            clear hb
            have hb := hB
            clear hB
            clear hbase hz lt_B0 lt_B1
            go_upto_region 9 with (fail)
            have lt_B0 := B0.lt
            have lt_B1 := B1.lt
            go_wp2_with (first | rw [← zero64] | (go_at_call 90; refine (HOI.out _).mono ?_; rintro e W5 ⟨rfl, hW5⟩; replace B0 := B0.below hW5 B0.lt; replace B1 := B1.below hW5 B1.lt; replace hb := (hb).trans (hW5.mono (hb).size)) | (refine wpList_store_blk rfl 23 (.tmp 4) (.tmp 36) rfl _ 64 (ofN n k) rfl rfl 23 _ (B1) Try.size23 ?_; try simp only [Act.put]; go_wp2_with fail))
            have qB0 : Blk (W5.setRow (w.heap.size + 1) (bcells 64 (ofN n k))) (w.heap.size) 64 23 (m) := (B0.rowOther (by omega))
            have qB1 : Blk (W5.setRow (w.heap.size + 1) (bcells 64 (ofN n k))) (w.heap.size + 1) 64 23 (ofN n k) := (B1.row (ofN n k))
            have qhb : Below w.heap.size w (W5.setRow (w.heap.size + 1) (bcells 64 (ofN n k))) := (below_row hb (by omega) _)
            obtain ⟨W6, hwo⟩ : ∃ v : World, v = (W5.setRow (w.heap.size + 1) (bcells 64 (ofN n k))) := ⟨_, rfl⟩
            rw [← hwo] at qB0 qB1 qhb ⊢
            clear hwo
            clear B0 B1 hb
            have B0 := qB0
            have B1 := qB1
            have hb := qhb
            clear qB0 qB1 qhb
            try simp only [Act.put, List.setIfInBounds_toArray, List.set_cons_zero, List.set_cons_succ]
            refine bodyPost_ret (results_bt rfl _ _ _ 64 23 5 _ rfl B1 Try.underlying23 Try.size23) rfl ⟨by first | (rw [HV3.out]; rfl) | rw [HV3.out], hb⟩
        · have hne : ((O : Int) != (Q : Int) - 1) = true := by simp; omega
          have HNE := Lib.hid (show odN n (ofN n k) m ≠ Q - 1 from by rw [← hO]; exact hE)
          have hkl : k < N0 := by
            apply Classical.byContradiction
            intro h
            have : k = N0 := by omega
            have h1 := HN3.out
            have h2 := HNE.out
            rw [this] at h2
            exact h2 h1
          clear hE hO
          go_upto_region 7 with (fail)
          have lt_B0 : (w.heap.size) < wr.heap.size := B0.lt
          have lt_B1 : (w.heap.size + 1) < wr.heap.size := B1.lt
          have hbase : w.heap.size ≤ wr.heap.size := hb.size
          refine wp_region_steps0 Try.mixed (by kernel_rfl) (by kernel_rfl) (fun v => by (simp only [frL, Act.put, List.setIfInBounds_toArray, List.set_cons_zero, List.set_cons_succ, Nat.reduceAdd, Nat.zero_add]; exact rfl))
            (fun L v W4 => Below w.heap.size w W4 ∧ wr.heap.size ≤ W4.heap.size ∧ Blk W4 (w.heap.size) 64 23 (m) ∧ Blk W4 (w.heap.size + 1) 64 23 (fun _ => 0) ∧ (L 0 = true → v 0 = (.int .i64 (n : Int))) ∧ (L 1 = true → v 1 = (.int .i64 (n : Int))) ∧ (L 2 = true → v 2 = (.int .i64 (k : Int))) ∧ (L 3 = true → v 3 = (.agg (bcells 64 (ofN n k)))) ∧ (L 4 = true → v 4 = (.agg (bcells 64 (m)))) ∧ (L 5 = true → v 5 = (.int .i64 (O : Int))) ∧ (L 6 = true → v 6 = (.int .i64 (n : Int))) ∧ (L 7 = true → v 7 = (.agg (bcells 64 (m)))) ∧ (L 8 = true → v 8 = (.int .i64 (d : Int))) ∧ (L 9 = true → v 9 = (.int .i64 (Q : Int))) ∧ (L 10 = true → v 10 = (.int .i64 ((Q : Int) - 1))) ∧ (L 11 = true → v 11 = (.bool true))) ?_ ?_ ?_
          · intro v hv0
            exact ⟨hb.drew, Nat.le_refl _, B0.drew, B1.drew, (fun h => by cases h), (fun h => by cases h), (fun h => by cases h), (fun h => by cases h), (fun h => by cases h), (fun h => by cases h), (fun h => by cases h), (fun h => by cases h), (fun h => by cases h), (fun h => by cases h), (fun h => by cases h), (fun h => by cases h)⟩
          · refine (.cons rfl ?_ (.cons rfl ?_ (.cons rfl ?_ (.cons rfl ?_ (.cons rfl ?_ (.cons rfl ?_ (.cons rfl ?_ (.cons rfl ?_ (.cons rfl ?_ (.cons rfl ?_ (.cons rfl ?_ (.cons rfl ?_ (.nil _)))))))))))))
            · intro L v W4 hd hn ⟨hB, hz, s0, s1, h0, h1, h2, h3, h4, h5, h6, h7, h8, h9, h10, h11⟩ K hK
              go_wp2_with fail
              exact hK _ (.int .i64 (n : Int)) _ (by simp only [Act.put, List.setIfInBounds_toArray, List.set_cons_zero, List.set_cons_succ ]) ⟨hB, hz, s0, s1, (fun _ => rfl), h1, h2, h3, h4, h5, h6, h7, h8, h9, h10, h11⟩
            · intro L v W4 hd hn ⟨hB, hz, s0, s1, h0, h1, h2, h3, h4, h5, h6, h7, h8, h9, h10, h11⟩ K hK
              go_wp2_with fail
              exact hK _ (.int .i64 (n : Int)) _ (by simp only [Act.put, List.setIfInBounds_toArray, List.set_cons_zero, List.set_cons_succ ]) ⟨hB, hz, s0, s1, h0, (fun _ => rfl), h2, h3, h4, h5, h6, h7, h8, h9, h10, h11⟩
            · intro L v W4 hd hn ⟨hB, hz, s0, s1, h0, h1, h2, h3, h4, h5, h6, h7, h8, h9, h10, h11⟩ K hK
              go_wp2_with fail
              exact hK _ (.int .i64 (k : Int)) _ (by simp only [Act.put, List.setIfInBounds_toArray, List.set_cons_zero, List.set_cons_succ ]) ⟨hB, hz, s0, s1, h0, h1, (fun _ => rfl), h3, h4, h5, h6, h7, h8, h9, h10, h11⟩
            · intro L v W4 hd hn ⟨hB, hz, s0, s1, h0, h1, h2, h3, h4, h5, h6, h7, h8, h9, h10, h11⟩ K hK
              have e1 := h1 (hd ⟨1, .data⟩ (by simp) rfl)
              have e2 := h2 (hd ⟨2, .data⟩ (by simp) rfl)
              go_wp2_with (go_at_call 90; refine (HOI.out _).mono ?_; rintro e wy ⟨rfl, hy⟩)
              exact hK _ (.agg (bcells 64 (ofN n k))) _ (by simp only [Act.put, List.setIfInBounds_toArray, List.set_cons_zero, List.set_cons_succ, e1, e2]) ⟨hB.trans (hy.mono hB.size), (Nat.le_trans hz hy.size), (s0).below hy (s0).lt, (s1).below hy (s1).lt, h0, h1, h2, (fun _ => rfl), h4, h5, h6, h7, h8, h9, h10, h11⟩
            · intro L v W4 hd hn ⟨hB, hz, s0, s1, h0, h1, h2, h3, h4, h5, h6, h7, h8, h9, h10, h11⟩ K hK
              refine wp_load_any 23 _ rfl _ rfl 64 23 _ s0 _ Try.underlying23 rfl Try.size23 ?_
              exact hK _ _ _ rfl ⟨hB, hz, s0, s1, h0, h1, h2, h3, (fun _ => rfl), h5, h6, h7, h8, h9, h10, h11⟩
            · intro L v W4 hd hn ⟨hB, hz, s0, s1, h0, h1, h2, h3, h4, h5, h6, h7, h8, h9, h10, h11⟩ K hK
              have e0 := h0 (hd ⟨0, .data⟩ (by simp) rfl)
              have e3 := h3 (hd ⟨3, .data⟩ (by simp) rfl)
              have e4 := h4 (hd ⟨4, .data⟩ (by simp) rfl)
              go_wp2_with (go_at_call 89; refine (HOK.out _).mono ?_; rintro e wy ⟨rfl, hy⟩)
              exact hK _ (.int .i64 (O : Int)) _ (by simp only [Act.put, List.setIfInBounds_toArray, List.set_cons_zero, List.set_cons_succ, e0, e3, e4]) ⟨hB.trans (hy.mono hB.size), (Nat.le_trans hz hy.size), (s0).below hy (s0).lt, (s1).below hy (s1).lt, h0, h1, h2, h3, h4, (fun _ => rfl), h6, h7, h8, h9, h10, h11⟩
            · intro L v W4 hd hn ⟨hB, hz, s0, s1, h0, h1, h2, h3, h4, h5, h6, h7, h8, h9, h10, h11⟩ K hK
              go_wp2_with fail
              exact hK _ (.int .i64 (n : Int)) _ (by simp only [Act.put, List.setIfInBounds_toArray, List.set_cons_zero, List.set_cons_succ ]) ⟨hB, hz, s0, s1, h0, h1, h2, h3, h4, h5, (fun _ => rfl), h7, h8, h9, h10, h11⟩
            · intro L v W4 hd hn ⟨hB, hz, s0, s1, h0, h1, h2, h3, h4, h5, h6, h7, h8, h9, h10, h11⟩ K hK
              refine wp_load_any 23 _ rfl _ rfl 64 23 _ s0 _ Try.underlying23 rfl Try.size23 ?_
              exact hK _ _ _ rfl ⟨hB, hz, s0, s1, h0, h1, h2, h3, h4, h5, h6, (fun _ => rfl), h8, h9, h10, h11⟩
            · intro L v W4 hd hn ⟨hB, hz, s0, s1, h0, h1, h2, h3, h4, h5, h6, h7, h8, h9, h10, h11⟩ K hK
              have e7 := h7 (hd ⟨7, .data⟩ (by simp) rfl)
              go_wp2_with (go_at_call 78; refine (HDG.out _).mono ?_; rintro e wy ⟨rfl, hy⟩)
              exact hK _ (.int .i64 (d : Int)) _ (by simp only [Act.put, List.setIfInBounds_toArray, List.set_cons_zero, List.set_cons_succ, e7]) ⟨hB.trans (hy.mono hB.size), (Nat.le_trans hz hy.size), (s0).below hy (s0).lt, (s1).below hy (s1).lt, h0, h1, h2, h3, h4, h5, h6, h7, (fun _ => rfl), h9, h10, h11⟩
            · intro L v W4 hd hn ⟨hB, hz, s0, s1, h0, h1, h2, h3, h4, h5, h6, h7, h8, h9, h10, h11⟩ K hK
              have e6 := h6 (hd ⟨6, .data⟩ (by simp) rfl)
              have e8 := h8 (hd ⟨8, .data⟩ (by simp) rfl)
              go_wp2_with (go_at_call 91; refine (HNO.out _).mono ?_; rintro e wy ⟨rfl, hy⟩)
              exact hK _ (.int .i64 (Q : Int)) _ (by simp only [Act.put, List.setIfInBounds_toArray, List.set_cons_zero, List.set_cons_succ, e6, e8]) ⟨hB.trans (hy.mono hB.size), (Nat.le_trans hz hy.size), (s0).below hy (s0).lt, (s1).below hy (s1).lt, h0, h1, h2, h3, h4, h5, h6, h7, h8, (fun _ => rfl), h10, h11⟩
            · intro L v W4 hd hn ⟨hB, hz, s0, s1, h0, h1, h2, h3, h4, h5, h6, h7, h8, h9, h10, h11⟩ K hK
              have e9 := h9 (hd ⟨9, .data⟩ (by simp) rfl)
              go_wp2_with fail
              exact hK _ (.int .i64 ((Q : Int) - 1)) _ (by simp only [Act.put, List.setIfInBounds_toArray, List.set_cons_zero, List.set_cons_succ, e9]) ⟨hB, hz, s0, s1, h0, h1, h2, h3, h4, h5, h6, h7, h8, h9, (fun _ => rfl), h11⟩
            · intro L v W4 hd hn ⟨hB, hz, s0, s1, h0, h1, h2, h3, h4, h5, h6, h7, h8, h9, h10, h11⟩ K hK
              have e5 := h5 (hd ⟨5, .data⟩ (by simp) rfl)
              have e10 := h10 (hd ⟨10, .data⟩ (by simp) rfl)
              go_wp2_with fail
              exact hK _ (.bool true) _ (by simp only [Act.put, List.setIfInBounds_toArray, List.set_cons_zero, List.set_cons_succ, e5, e10]) ⟨hB, hz, s0, s1, h0, h1, h2, h3, h4, h5, h6, h7, h8, h9, h10, (fun _ => rfl)⟩
          · intro L v W4 hL ⟨hB, hz, s0, s1, h0, h1, h2, h3, h4, h5, h6, h7, h8, h9, h10, h11⟩
            have e0 := h0 (hL 0 (by decide))
            have e1 := h1 (hL 1 (by decide))
            have e2 := h2 (hL 2 (by decide))
            have e3 := h3 (hL 3 (by decide))
            have e4 := h4 (hL 4 (by decide))
            have e5 := h5 (hL 5 (by decide))
            have e6 := h6 (hL 6 (by decide))
            have e7 := h7 (hL 7 (by decide))
            have e8 := h8 (hL 8 (by decide))
            have e9 := h9 (hL 9 (by decide))
            have e10 := h10 (hL 10 (by decide))
            have e11 := h11 (hL 11 (by decide))
            clear hL h0 h1 h2 h3 h4 h5 h6 h7 h8 h9 h10 h11
            simp only [Exit.then, e0, e1, e2, e3, e4, e5, e6, e7, e8, e9, e10, e11]
            clear e0 e1 e2 e3 e4 e5 e6 e7 e8 e9 e10 e11
            clear B0
            have B0 := s0
            clear s0
            clear B1
            have B1 := s1
            clear s1
            clear hb
            have hb := hB
            clear hB
            clear hbase hz lt_B0 lt_B1
            go_wp2_with fail
            go_roundw
            case rel => exact ⟨k + 1, by go_num, by omega, by omega, Lib.hid (fun j h1 h2 => by
              by_cases e : j = k
              · subst e; exact HNE.out
              · exact hall.out j h1 (by omega)), hb, B0, B1⟩
            case measure => simp [intOf] <;> omega
theorem impl_PrimitiveOf_any (p : Int) (m : Nat → Nat) (hm : byte m) (w : World) :
    Calls Try.prog 28 #[.int .i64 p, .agg (bcells 64 m)] w fun e w' => e = .returned (.tuple #[.agg (bcells 64 (prW p (cut m)).1), .int .i64 (prW p (cut m)).2]) ∧ Below w.heap.size w w' := by
  have h := impl_Primitive_core p (cut m) (fun k => by unfold cut; split; exact hm k; omega) (fun k hk => by unfold cut; rw [if_neg (by omega)]) w
  rw [bcells_cut] at h
  exact h
end Go.Proofs.Ytbjpkmbhbpcbgaa
