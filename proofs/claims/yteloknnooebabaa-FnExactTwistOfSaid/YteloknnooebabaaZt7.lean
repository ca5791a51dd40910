/-
  What the rows of this claim rest on: arrays of bytes, walks of the functions, plain mathematics.
-/
import Derived.Test.YteloknnooebabaaZt6
import Derived.Test.YteloknnooebabaaRows
import Derived.ProofKit
import Derived.JoinedOf
set_option maxRecDepth 100000
set_option maxHeartbeats 9000000
set_option linter.unusedVariables false
set_option linter.unusedSimpArgs false
namespace Go.Proofs.Yteloknnooebabaa
open Go Go.RowKit
attribute [local irreducible] deg irB monUp monB okA
noncomputable def drB (p : Int) (m G D : Nat → Nat) : Bool := flV p m && (rsB p m G && (rsB p m D && !eqN 64 D (fun _ => 0)))
theorem drB_1 {p : Int} {m G D : Nat → Nat} (h : flV p m = false) : drB p m G D = false := by unfold drB; rw [h]; rfl
theorem drB_2 {p : Int} {m G D : Nat → Nat} (h : rsB p m G = false) : drB p m G D = false := by unfold drB; rw [h]; simp
theorem drB_3 {p : Int} {m G D : Nat → Nat} (h : rsB p m D = false) : drB p m G D = false := by unfold drB; rw [h]; simp
theorem drB_4 {p : Int} {m G D : Nat → Nat} (h : eqN 64 D (fun _ => 0) = true) : drB p m G D = false := by unfold drB; rw [h]; simp
theorem drB_5 {p : Int} {m G D : Nat → Nat} (h1 : flV p m = true) (h2 : rsB p m G = true) (h3 : rsB p m D = true) (h4 : eqN 64 D (fun _ => 0) = false) : drB p m G D = true := by unfold drB; rw [h1, h2, h3, h4]; rfl
theorem drB_code {p : Int} {m G D : Nat → Nat} (h : codeL p [m, G, D] = 1) : drB p m G D = false := by
 cases h1 : okA p m with
 | false => exact drB_1 (flV_1 h1)
 | true =>
  cases h2 : okA p G with
  | false => exact drB_2 (by unfold rsB; rw [h2]; rfl)
  | true =>
   cases h3 : okA p D with
   | false => exact drB_3 (by unfold rsB; rw [h3]; rfl)
   | true =>
    have : codeL p [m, G, D] = 0 := codeL_ok (okA_p h1) (fun j f hf => by
     match j, hf with
     | 0, hf => cases hf; exact h1
     | 1, hf => cases hf; exact h2
     | 2, hf => cases hf; exact h3)
    omega
theorem drB_all {p : Int} {m G D : Nat → Nat} (h : drB p m G D = true) : flV p m = true ∧ rsB p m G = true ∧ rsB p m D = true ∧ eqN 64 D (fun _ => 0) = false := by
 unfold drB at h
 simp only [Bool.and_eq_true, Bool.not_eq_true'] at h
 exact ⟨h.1, h.2.1, h.2.2.1, h.2.2.2⟩
theorem toDrinfeld_any (p : Int) (m G D : Nat → Nat) (hm : byte m) (hG : byte G) (hD : byte D) (w : World) :
 Calls Try.prog 59 #[(.agg (drC p m G D).toArray)] w fun e w' => e = .returned (.agg (drC p m G D).toArray) ∧ Below w.heap.size w w' := by
 go_enter Try.func59, Try.ntmps59
 go_upto_region 1 with (fail)
 rw [← drC_zero]
 obtain ⟨W1, hwo⟩ : ∃ v : World, v = ((w.alloc (.cells (drC p m G D).toArray 55)).alloc (.cells (drC 0 (fun _ => 0) (fun _ => 0) (fun _ => 0)).toArray 58)) := ⟨_, rfl⟩
 have B0 : Row W1 (w.heap.size) 55 (drC p m G D).toArray := by subst hwo; have := ((Row.new w 55 (drC p m G D).toArray).alloc (.cells (drC 0 (fun _ => 0) (fun _ => 0) (fun _ => 0)).toArray 58)); simpa using this
 have B1 : Row W1 (w.heap.size + 1) 58 (drC 0 (fun _ => 0) (fun _ => 0) (fun _ => 0)).toArray := by subst hwo; have := (Row.new (w.alloc (.cells (drC p m G D).toArray 55)) 58 (drC 0 (fun _ => 0) (fun _ => 0) (fun _ => 0)).toArray); simpa using this
 have hb : Below w.heap.size w W1 := by subst hwo; exact (((Below.refl _ _).alloc (Nat.le_refl _) _).alloc (by simp) _)
 rw [← hwo]
 clear hwo
 go_upto_region 2 with (first | rw [← z64] | rw [← drC_zero])
 have lt_B0 := B0.lt
 have lt_B1 := B1.lt
 have lhb := hb.size
 obtain ⟨W2, hwo, hzQ⟩ : ∃ v : World, v = (W1.alloc (.cells (drC 0 (fun _ => 0) (fun _ => 0) (fun _ => 0)).toArray 58)) ∧ Row v (w.heap.size) 55 (drC p m G D).toArray ∧ Row v (w.heap.size + 1) 58 (drC 0 (fun _ => 0) (fun _ => 0) (fun _ => 0)).toArray ∧ Row v (W1.heap.size) 58 (drC 0 (fun _ => 0) (fun _ => 0) (fun _ => 0)).toArray ∧ Below w.heap.size w v := ⟨_, rfl, (B0.alloc (.cells (drC 0 (fun _ => 0) (fun _ => 0) (fun _ => 0)).toArray 58)), (B1.alloc (.cells (drC 0 (fun _ => 0) (fun _ => 0) (fun _ => 0)).toArray 58)), (Row.new W1 58 (drC 0 (fun _ => 0) (fun _ => 0) (fun _ => 0)).toArray), (hb.alloc (by have := hb.size; simp; omega) (.cells (drC 0 (fun _ => 0) (fun _ => 0) (fun _ => 0)).toArray 58))⟩
 rw [← hwo]
 clear hwo B0 B1 hb
 obtain ⟨B0, B1, B2, hb⟩ := hzQ
 obtain ⟨N1, hNN⟩ : ∃ n : Nat, n = W1.heap.size := ⟨_, rfl⟩
 rw [← hNN] at lt_B0 lt_B1 lhb B2 ⊢
 clear hNN
 have zN1_0 := lt_B0
 have zN1_1 := lt_B1
 have zN1 := lhb
 clear lt_B0 lt_B1 lhb
 try simp only [Act.put, pA, pB, pC]
 have cc3 := B2.cell (i := 0) (drC_at _ _ _ _)
 have zz3 := B2.frozen 0
 go_upto_region 3 with (first | rw [← z64] | (refine wpList_load_rowc rfl 2 (.tmp 4) rfl _ 0 rfl 55 _ (B0) (.int .i64 p) (drC_at _ _ _ _) _ Try.underlying2 rfl ?_))
 clear cc3 zz3
 obtain ⟨W3, hwo, hzQ⟩ : ∃ v : World, v = (W2.setCell ⟨N1, 0, none⟩ (.int .i64 p)) ∧ Row v (w.heap.size) 55 (drC p m G D).toArray ∧ Row v (w.heap.size + 1) 58 (drC 0 (fun _ => 0) (fun _ => 0) (fun _ => 0)).toArray ∧ Row v (N1) 58 (drC p (fun _ => 0) (fun _ => 0) (fun _ => 0)).toArray ∧ Below w.heap.size w v := ⟨_, rfl, (B0.setOther (by dsimp only; omega)), (B1.setOther (by dsimp only; omega)), (show Row _ _ _ (drC p (fun _ => 0) (fun _ => 0) (fun _ => 0)).toArray by rw [← (drC_set _ _ _ _ _)]; exact (B2).set), (hb.setCell (by show w.heap.size ≤ (N1); omega) _)⟩
 rw [← hwo]
 clear hwo B0 B1 B2 hb
 obtain ⟨B0, B1, B2, hb⟩ := hzQ
 try simp only [Act.put, pA, pB, pC]
 have lt_B0 := B0.lt
 have lt_B1 := B1.lt
 have lt_B2 := B2.lt
 go_upto_region 4 with (first | rw [← z64] | (refine wpList_load_mid rfl 22 (.tmp 7) rfl _ 1 rfl (bl 64 m) _ (B0.drm) Try.underlying22 rfl (by rw [zl]; exact Try.size22) ?_) | (go_at_call 28; with_reducible refine (toPoly_any m hm _).mono ?_; rintro e W4 ⟨rfl, hW4⟩; replace B0 := B0.zw hW4; replace B1 := B1.zw hW4; replace B2 := B2.zw hW4; replace hb := (hb).trans (hW4.mono (hb).size)) | (refine wpList_store_part rfl 24 (.tmp 10) (.tmp 9) rfl _ 1 (m) rfl rfl 58 _ (drC p m (fun _ => 0) (fun _ => 0)).toArray (B2) (drC_m _ _ _ _ _) (by first | decide | simp [drC_len]) Try.size24 ?_; try simp only [Act.put]))
 obtain ⟨W5, hwo, hzQ⟩ : ∃ v : World, v = (W4.setRow (N1) (drC p m (fun _ => 0) (fun _ => 0)).toArray) ∧ Row v (w.heap.size) 55 (drC p m G D).toArray ∧ Row v (w.heap.size + 1) 58 (drC 0 (fun _ => 0) (fun _ => 0) (fun _ => 0)).toArray ∧ Row v (N1) 58 (drC p m (fun _ => 0) (fun _ => 0)).toArray ∧ Below w.heap.size w v := ⟨_, rfl, (B0.rowOther (by omega)), (B1.rowOther (by omega)), (B2.row (drC p m (fun _ => 0) (fun _ => 0)).toArray), (zr hb (by omega) _)⟩
 rw [← hwo]
 clear hwo B0 B1 B2 hb
 obtain ⟨B0, B1, B2, hb⟩ := hzQ
 try simp only [Act.put, pA, pB, pC]
 have lt_B0 := B0.lt
 have lt_B1 := B1.lt
 have lt_B2 := B2.lt
 go_upto_region 5 with (first | rw [← z64] | (refine wpList_load_mid rfl 22 (.tmp 11) rfl _ 65 rfl (bl 64 G) _ (B0.drg) Try.underlying22 rfl (by rw [zl]; exact Try.size22) ?_) | (go_at_call 28; with_reducible refine (toPoly_any G hG _).mono ?_; rintro e W6 ⟨rfl, hW6⟩; replace B0 := B0.zw hW6; replace B1 := B1.zw hW6; replace B2 := B2.zw hW6; replace hb := (hb).trans (hW6.mono (hb).size)) | (refine wpList_store_part rfl 24 (.tmp 14) (.tmp 13) rfl _ 65 (G) rfl rfl 58 _ (drC p m G (fun _ => 0)).toArray (B2) (drC_g _ _ _ _ _) (by first | decide | simp [drC_len]) Try.size24 ?_; try simp only [Act.put]))
 obtain ⟨W7, hwo, hzQ⟩ : ∃ v : World, v = (W6.setRow (N1) (drC p m G (fun _ => 0)).toArray) ∧ Row v (w.heap.size) 55 (drC p m G D).toArray ∧ Row v (w.heap.size + 1) 58 (drC 0 (fun _ => 0) (fun _ => 0) (fun _ => 0)).toArray ∧ Row v (N1) 58 (drC p m G (fun _ => 0)).toArray ∧ Below w.heap.size w v := ⟨_, rfl, (B0.rowOther (by omega)), (B1.rowOther (by omega)), (B2.row (drC p m G (fun _ => 0)).toArray), (zr hb (by omega) _)⟩
 rw [← hwo]
 clear hwo B0 B1 B2 hb
 obtain ⟨B0, B1, B2, hb⟩ := hzQ
 try simp only [Act.put, pA, pB, pC]
 have lt_B0 := B0.lt
 have lt_B1 := B1.lt
 have lt_B2 := B2.lt
 go_upto_region 6 with (first | rw [← z64] | (refine wpList_load_mid rfl 22 (.tmp 15) rfl _ 129 rfl (bl 64 D) _ (B0.drd) Try.underlying22 rfl (by rw [zl]; exact Try.size22) ?_) | (go_at_call 28; with_reducible refine (toPoly_any D hD _).mono ?_; rintro e W8 ⟨rfl, hW8⟩; replace B0 := B0.zw hW8; replace B1 := B1.zw hW8; replace B2 := B2.zw hW8; replace hb := (hb).trans (hW8.mono (hb).size)) | (refine wpList_store_part rfl 24 (.tmp 18) (.tmp 17) rfl _ 129 (D) rfl rfl 58 _ (drC p m G D).toArray (B2) (drC_d _ _ _ _ _) (by first | decide | simp [drC_len]) Try.size24 ?_; try simp only [Act.put]))
 obtain ⟨W9, hwo, hzQ⟩ : ∃ v : World, v = (W8.setRow (N1) (drC p m G D).toArray) ∧ Row v (w.heap.size) 55 (drC p m G D).toArray ∧ Row v (w.heap.size + 1) 58 (drC 0 (fun _ => 0) (fun _ => 0) (fun _ => 0)).toArray ∧ Row v (N1) 58 (drC p m G D).toArray ∧ Below w.heap.size w v := ⟨_, rfl, (B0.rowOther (by omega)), (B1.rowOther (by omega)), (B2.row (drC p m G D).toArray), (zr hb (by omega) _)⟩
 rw [← hwo]
 clear hwo B0 B1 B2 hb
 obtain ⟨B0, B1, B2, hb⟩ := hzQ
 try simp only [Act.put, pA, pB, pC]
 have lt_B0 := B0.lt
 have lt_B1 := B1.lt
 have lt_B2 := B2.lt
 go_wp2_with (first | rw [← z64] | (refine zlr rfl 58 (.tmp 3) rfl _ rfl 58 (drC p m G D).toArray (B2) _ Try.underlying58 rfl 193 Try.size58 (by simp [drC_len]) ?_) | (refine wpList_store_rowv rfl 58 (.tmp 2) (.tmp 19) rfl _ rfl (drC p m G D).toArray rfl 58 _ (B1) 193 Try.size58 (by simp [drC_len]) (by simp [drC_len]) (drC_all _ _ _ _) ?_; try simp only [Act.put]))
 obtain ⟨W10, hwo, hzQ⟩ : ∃ v : World, v = (W9.setRow (w.heap.size + 1) (drC p m G D).toArray) ∧ Row v (w.heap.size) 55 (drC p m G D).toArray ∧ Row v (w.heap.size + 1) 58 (drC p m G D).toArray ∧ Row v (N1) 58 (drC p m G D).toArray ∧ Below w.heap.size w v := ⟨_, rfl, (B0.rowOther (by omega)), (B1.row (drC p m G D).toArray), (B2.rowOther (by omega)), (zr hb (by omega) _)⟩
 rw [← hwo]
 clear hwo B0 B1 B2 hb
 obtain ⟨B0, B1, B2, hb⟩ := hzQ
 try simp only [Act.put, pA, pB, pC]
 refine bodyPost_ret (results_row rfl _ _ _ _ _ rfl B1 _ Try.underlying58 rfl (by rw [Try.size58]; simp [drC_len])) rfl ⟨rfl, hb⟩
theorem drField_any (p : Int) (m G D : Nat → Nat) (w : World) :
 Calls Try.prog 146 #[(.agg (drC p m G D).toArray)] w fun e w' => e = .returned (.agg (fdC p m).toArray) ∧ Below w.heap.size w w' := by
 go_enter Try.func146, Try.ntmps146
 go_upto_region 1 with (fail)
 rw [← fdC_zero]
 obtain ⟨W1, hwo⟩ : ∃ v : World, v = ((w.alloc (.cells (drC p m G D).toArray 58)).alloc (.cells (fdC 0 (fun _ => 0)).toArray 96)) := ⟨_, rfl⟩
 have B0 : Row W1 (w.heap.size) 58 (drC p m G D).toArray := by subst hwo; have := ((Row.new w 58 (drC p m G D).toArray).alloc (.cells (fdC 0 (fun _ => 0)).toArray 96)); simpa using this
 have B1 : Row W1 (w.heap.size + 1) 96 (fdC 0 (fun _ => 0)).toArray := by subst hwo; have := (Row.new (w.alloc (.cells (drC p m G D).toArray 58)) 96 (fdC 0 (fun _ => 0)).toArray); simpa using this
 have hb : Below w.heap.size w W1 := by subst hwo; exact (((Below.refl _ _).alloc (Nat.le_refl _) _).alloc (by simp) _)
 rw [← hwo]
 clear hwo
 have lt_B0 := B0.lt
 have lt_B1 := B1.lt
 go_wp2_with (first | rw [← z64] | (refine wpList_load_rowc rfl 2 (.tmp 3) rfl _ 0 rfl 58 _ (B0) (.int .i64 p) (drC_at _ _ _ _) _ Try.underlying2 rfl ?_) | (refine wpList_load_mid rfl 24 (.tmp 5) rfl _ 1 rfl (bl 64 m) _ (B0.drm) Try.underlying24 rfl (by rw [zl]; exact Try.size24) ?_) | (refine zbo rfl 96 _ rfl (fdC p m).toArray (by rw [Array.toList_map]; exact built_fd p m) ?_) | (refine wpList_store_rowv rfl 96 (.tmp 2) (.tmp 7) rfl _ rfl (fdC p m).toArray rfl 96 _ (B1) 65 Try.size96 (by simp [fdC_len]) (by simp [fdC_len]) (fdC_all _ _) ?_; try simp only [Act.put]))
 obtain ⟨W2, hwo, hzQ⟩ : ∃ v : World, v = (W1.setRow (w.heap.size + 1) (fdC p m).toArray) ∧ Row v (w.heap.size) 58 (drC p m G D).toArray ∧ Row v (w.heap.size + 1) 96 (fdC p m).toArray ∧ Below w.heap.size w v := ⟨_, rfl, (B0.rowOther (by omega)), (B1.row (fdC p m).toArray), (zr hb (by omega) _)⟩
 rw [← hwo]
 clear hwo B0 B1 hb
 obtain ⟨B0, B1, hb⟩ := hzQ
 try simp only [Act.put, pA, pB, pC]
 refine bodyPost_ret (results_row rfl _ _ _ _ _ rfl B1 _ Try.underlying96 rfl (by rw [Try.size96]; simp [fdC_len])) rfl ⟨rfl, hb⟩
theorem impl_IsDrinfeld_any (p : Int) (m G D : Nat → Nat) (hm : byte m) (hG : byte G) (hD : byte D) (w : World) :
 Calls Try.prog 60 #[(.agg (drC p m G D).toArray)] w fun e w' => e = .returned (.bool (drB p m G D)) ∧ Below w.heap.size w w' := by
 have HFD := Lib.hid (fun W => drField_any p m G D W)
 have HFL := Lib.hid (fun W => impl_IsField_any p m hm W)
 have HRG := Lib.hid (fun W => isResidue_any p m G hm hG W)
 have HRD := Lib.hid (fun W => isResidue_any p m D hm hD W)
 go_enter Try.func60, Try.ntmps60
 go_upto_region 1 with (fail)
 obtain ⟨W1, hwo⟩ : ∃ v : World, v = (w.alloc (.cells (drC p m G D).toArray 58)) := ⟨_, rfl⟩
 have B0 : Row W1 (w.heap.size) 58 (drC p m G D).toArray := by subst hwo; have := (Row.new w 58 (drC p m G D).toArray); simpa using this
 have hb : Below w.heap.size w W1 := by subst hwo; exact ((Below.refl _ _).alloc (Nat.le_refl _) _)
 rw [← hwo]
 clear hwo
 have lt_B0 := B0.lt
 go_upto_region 2 with (first | rw [← z64] | rw [← fdC_zero] | (refine zlr rfl 58 (.tmp 1) rfl _ rfl 58 (drC p m G D).toArray (B0) _ Try.underlying58 rfl 193 Try.size58 (by simp [drC_len]) ?_) | (go_at_call 146; refine (HFD.out _).mono ?_; rintro e W2 ⟨rfl, hW2⟩; replace B0 := B0.zw hW2; replace hb := (hb).trans (hW2.mono (hb).size)) | (refine wpList_store_rowv rfl 96 (.tmp 3) (.tmp 5) rfl _ rfl (fdC p m).toArray rfl 96 _ ((Row.new W2 96 (fdC 0 (fun _ => 0)).toArray)) 65 Try.size96 (by simp [fdC_len]) (by simp [fdC_len]) (fdC_all _ _) ?_; try simp only [Act.put]))
 have lt_B0 := B0.lt
 have lhb := hb.size
 obtain ⟨W3, hwo, hzQ⟩ : ∃ v : World, v = ((W2.alloc (.cells (fdC 0 (fun _ => 0)).toArray 96)).setRow (W2.heap.size) (fdC p m).toArray) ∧ Row v (w.heap.size) 58 (drC p m G D).toArray ∧ Row v (W2.heap.size) 96 (fdC p m).toArray ∧ Below w.heap.size w v := ⟨_, rfl, ((B0.alloc (.cells (fdC 0 (fun _ => 0)).toArray 96)).rowOther (by omega)), ((Row.new W2 96 (fdC 0 (fun _ => 0)).toArray).row (fdC p m).toArray), (zr (hb.alloc (by have := hb.size; simp; omega) (.cells (fdC 0 (fun _ => 0)).toArray 96)) (by omega) _)⟩
 rw [← hwo]
 clear hwo B0 hb
 obtain ⟨B0, B1, hb⟩ := hzQ
 obtain ⟨N1, hNN⟩ : ∃ n : Nat, n = W2.heap.size := ⟨_, rfl⟩
 rw [← hNN] at lt_B0 lhb B1 ⊢
 clear hNN
 have zN1_0 := lt_B0
 have zN1 := lhb
 clear lt_B0 lhb
 try simp only [Act.put, pA, pB, pC]
 cases hf : flV p m with
 | false =>
  have HV := Lib.hid (drB_1 (G := G) (D := D) hf)
  go_wp2_with (first | (refine wpList_load_rowc rfl 2 (.tmp 6) rfl _ 0 rfl 96 _ (B1) (.int .i64 p) (fdC_at _ _) _ Try.underlying2 rfl ?_) | (refine wpList_load_mid rfl 24 (.tmp 8) rfl _ 1 rfl (bl 64 m) _ (B1.fd) Try.underlying24 rfl (by rw [zl]; exact Try.size24) ?_) | (go_at_call 113; refine (HFL.out _).mono ?_; rintro e W4 ⟨rfl, hW4⟩; replace B0 := B0.zw hW4; replace B1 := B1.zw hW4; replace hb := (hb).trans (hW4.mono (hb).size); rw [hf]))
  go_ret
  exact ⟨by rw [HV.out]; rfl, hb⟩
 | true =>
  cases hg : rsB p m G with
  | false =>
   have HV := Lib.hid (drB_2 (D := D) hg)
   go_wp2_with (first | (refine wpList_load_rowc rfl 2 (.tmp 6) rfl _ 0 rfl 96 _ (B1) (.int .i64 p) (fdC_at _ _) _ Try.underlying2 rfl ?_) | (refine wpList_load_mid rfl 24 (.tmp 8) rfl _ 1 rfl (bl 64 m) _ (B1.fd) Try.underlying24 rfl (by rw [zl]; exact Try.size24) ?_) | (go_at_call 113; refine (HFL.out _).mono ?_; rintro e W4 ⟨rfl, hW4⟩; replace B0 := B0.zw hW4; replace B1 := B1.zw hW4; replace hb := (hb).trans (hW4.mono (hb).size); rw [hf]) | (refine wpList_load_rowv_g rfl 96 (.tmp 3) rfl _ rfl 96 (fdC p m).toArray (B1) _ Try.underlying96 rfl 65 Try.size96 (by simp [fdC_len]) ?_) | (refine wpList_load_mid_g rfl 24 (.tmp 13) rfl _ 65 rfl (bl 64 G) _ (B0.drg) Try.underlying24 rfl (by rw [zl]; exact Try.size24) ?_) | (go_at_call 114; with_reducible refine (HRG.out _).mono ?_; rintro e W5 ⟨rfl, hW5⟩; replace B0 := B0.zw hW5; replace B1 := B1.zw hW5; replace hb := (hb).trans (hW5.mono (hb).size); try rw [hg]))
   go_ret
   exact ⟨by rw [HV.out]; rfl, hb⟩
  | true =>
   cases hd : rsB p m D with
   | false =>
    have HV := Lib.hid (drB_3 (G := G) hd)
    go_wp2_with (first | (refine wpList_load_rowc rfl 2 (.tmp 6) rfl _ 0 rfl 96 _ (B1) (.int .i64 p) (fdC_at _ _) _ Try.underlying2 rfl ?_) | (refine wpList_load_mid rfl 24 (.tmp 8) rfl _ 1 rfl (bl 64 m) _ (B1.fd) Try.underlying24 rfl (by rw [zl]; exact Try.size24) ?_) | (go_at_call 113; refine (HFL.out _).mono ?_; rintro e W4 ⟨rfl, hW4⟩; replace B0 := B0.zw hW4; replace B1 := B1.zw hW4; replace hb := (hb).trans (hW4.mono (hb).size); rw [hf]) | (refine wpList_load_rowv_g rfl 96 (.tmp 3) rfl _ rfl 96 (fdC p m).toArray (B1) _ Try.underlying96 rfl 65 Try.size96 (by simp [fdC_len]) ?_) | (refine wpList_load_mid_g rfl 24 (.tmp 13) rfl _ 65 rfl (bl 64 G) _ (B0.drg) Try.underlying24 rfl (by rw [zl]; exact Try.size24) ?_) | (go_at_call 114; with_reducible refine (HRG.out _).mono ?_; rintro e W5 ⟨rfl, hW5⟩; replace B0 := B0.zw hW5; replace B1 := B1.zw hW5; replace hb := (hb).trans (hW5.mono (hb).size); try rw [hg]) | (refine wpList_load_rowv_g rfl 96 (.tmp 3) rfl _ rfl 96 (fdC p m).toArray (B1) _ Try.underlying96 rfl 65 Try.size96 (by simp [fdC_len]) ?_) | (refine wpList_load_mid_g rfl 24 (.tmp 19) rfl _ 129 rfl (bl 64 D) _ (B0.drd) Try.underlying24 rfl (by rw [zl]; exact Try.size24) ?_) | (go_at_call 114; with_reducible refine (HRD.out _).mono ?_; rintro e W6 ⟨rfl, hW6⟩; replace B0 := B0.zw hW6; replace B1 := B1.zw hW6; replace hb := (hb).trans (hW6.mono (hb).size); try rw [hd]))
    go_ret
    exact ⟨by rw [HV.out]; rfl, hb⟩
   | true =>
    cases hz : eqN 64 D (fun _ => 0) with
    | true =>
     have HV := Lib.hid (drB_4 (p := p) (m := m) (G := G) hz)
     have hgd := Try.noGuard24
     have heq := fun W => zeb (P := Try.prog) W 9998 24 5 64 D (fun _ => 0) Try.underlying24 Try.underlying5 Try.size5
     rw [hz] at heq
     go_wp2_with (first | rw [← z64] | (refine wpList_load_rowc rfl 2 (.tmp 6) rfl _ 0 rfl 96 _ (B1) (.int .i64 p) (fdC_at _ _) _ Try.underlying2 rfl ?_) | (refine wpList_load_mid rfl 24 (.tmp 8) rfl _ 1 rfl (bl 64 m) _ (B1.fd) Try.underlying24 rfl (by rw [zl]; exact Try.size24) ?_) | (go_at_call 113; refine (HFL.out _).mono ?_; rintro e W4 ⟨rfl, hW4⟩; replace B0 := B0.zw hW4; replace B1 := B1.zw hW4; replace hb := (hb).trans (hW4.mono (hb).size); rw [hf]) | (refine wpList_load_rowv_g rfl 96 (.tmp 3) rfl _ rfl 96 (fdC p m).toArray (B1) _ Try.underlying96 rfl 65 Try.size96 (by simp [fdC_len]) ?_) | (refine wpList_load_mid_g rfl 24 (.tmp 13) rfl _ 65 rfl (bl 64 G) _ (B0.drg) Try.underlying24 rfl (by rw [zl]; exact Try.size24) ?_) | (go_at_call 114; with_reducible refine (HRG.out _).mono ?_; rintro e W5 ⟨rfl, hW5⟩; replace B0 := B0.zw hW5; replace B1 := B1.zw hW5; replace hb := (hb).trans (hW5.mono (hb).size); try rw [hg]) | (refine wpList_load_rowv_g rfl 96 (.tmp 3) rfl _ rfl 96 (fdC p m).toArray (B1) _ Try.underlying96 rfl 65 Try.size96 (by simp [fdC_len]) ?_) | (refine wpList_load_mid_g rfl 24 (.tmp 19) rfl _ 129 rfl (bl 64 D) _ (B0.drd) Try.underlying24 rfl (by rw [zl]; exact Try.size24) ?_) | (go_at_call 114; with_reducible refine (HRD.out _).mono ?_; rintro e W6 ⟨rfl, hW6⟩; replace B0 := B0.zw hW6; replace B1 := B1.zw hW6; replace hb := (hb).trans (hW6.mono (hb).size); try rw [hd]) | (refine wpList_load_mid_g rfl 24 (.tmp 24) rfl _ 129 rfl (bl 64 D) _ (B0.drd) Try.underlying24 rfl (by rw [zl]; exact Try.size24) ?_))
     go_ret
     exact ⟨by rw [HV.out]; rfl, hb⟩
    | false =>
     have HV := Lib.hid (drB_5 hf hg hd hz)
     have hgd := Try.noGuard24
     have heq := fun W => zeb (P := Try.prog) W 9998 24 5 64 D (fun _ => 0) Try.underlying24 Try.underlying5 Try.size5
     rw [hz] at heq
     go_wp2_with (first | rw [← z64] | (refine wpList_load_rowc rfl 2 (.tmp 6) rfl _ 0 rfl 96 _ (B1) (.int .i64 p) (fdC_at _ _) _ Try.underlying2 rfl ?_) | (refine wpList_load_mid rfl 24 (.tmp 8) rfl _ 1 rfl (bl 64 m) _ (B1.fd) Try.underlying24 rfl (by rw [zl]; exact Try.size24) ?_) | (go_at_call 113; refine (HFL.out _).mono ?_; rintro e W4 ⟨rfl, hW4⟩; replace B0 := B0.zw hW4; replace B1 := B1.zw hW4; replace hb := (hb).trans (hW4.mono (hb).size); rw [hf]) | (refine wpList_load_rowv_g rfl 96 (.tmp 3) rfl _ rfl 96 (fdC p m).toArray (B1) _ Try.underlying96 rfl 65 Try.size96 (by simp [fdC_len]) ?_) | (refine wpList_load_mid_g rfl 24 (.tmp 13) rfl _ 65 rfl (bl 64 G) _ (B0.drg) Try.underlying24 rfl (by rw [zl]; exact Try.size24) ?_) | (go_at_call 114; with_reducible refine (HRG.out _).mono ?_; rintro e W5 ⟨rfl, hW5⟩; replace B0 := B0.zw hW5; replace B1 := B1.zw hW5; replace hb := (hb).trans (hW5.mono (hb).size); try rw [hg]) | (refine wpList_load_rowv_g rfl 96 (.tmp 3) rfl _ rfl 96 (fdC p m).toArray (B1) _ Try.underlying96 rfl 65 Try.size96 (by simp [fdC_len]) ?_) | (refine wpList_load_mid_g rfl 24 (.tmp 19) rfl _ 129 rfl (bl 64 D) _ (B0.drd) Try.underlying24 rfl (by rw [zl]; exact Try.size24) ?_) | (go_at_call 114; with_reducible refine (HRD.out _).mono ?_; rintro e W6 ⟨rfl, hW6⟩; replace B0 := B0.zw hW6; replace B1 := B1.zw hW6; replace hb := (hb).trans (hW6.mono (hb).size); try rw [hd]) | (refine wpList_load_mid_g rfl 24 (.tmp 24) rfl _ 129 rfl (bl 64 D) _ (B0.drd) Try.underlying24 rfl (by rw [zl]; exact Try.size24) ?_))
     go_ret
     exact ⟨by rw [HV.out]; rfl, hb⟩
theorem l06Is_any (p : Int) (m G D : Nat → Nat) (hm : byte m) (hG : byte G) (hD : byte D) (w : World) :
 Calls Try.prog 145 #[(.agg (drC p m G D).toArray)] w fun e w' => e = .returned (.bool (drB p m G D)) ∧ Below w.heap.size w w' := by
 go_enter Try.func145, Try.ntmps145
 go_upto_region 1 with (fail)
 obtain ⟨W1, hwo⟩ : ∃ v : World, v = (w.alloc (.cells (drC p m G D).toArray 58)) := ⟨_, rfl⟩
 have B0 : Row W1 (w.heap.size) 58 (drC p m G D).toArray := by subst hwo; have := (Row.new w 58 (drC p m G D).toArray); simpa using this
 have hb : Below w.heap.size w W1 := by subst hwo; exact ((Below.refl _ _).alloc (Nat.le_refl _) _)
 rw [← hwo]
 clear hwo
 go_upto_region 2 with (first | (refine wpList_load_rowc rfl 2 (.tmp 5) rfl _ 0 rfl 58 _ (B0) (.int .i64 p) (drC_at _ _ _ _) _ Try.underlying2 rfl ?_))
 rcases codeL_two p [m, G, D] with hc | hc
 · obtain ⟨hpp, hall⟩ := codeL_zero hc
   have hom := hall m (by simp)
   have hoG := hall G (by simp)
   have hoD := hall D (by simp)
   have hmB := monUp_B (c := 4) (f := m)
   have hRG : rsB p m G = decide (deg G < deg m) := by unfold rsB; rw [hoG]; rfl
   have hRD : rsB p m D = decide (deg D < deg m) := by unfold rsB; rw [hoD]; rfl
   clear hall
   cases hmo : monB m with
   | false =>
    have HV := Lib.hid (drB_1 (G := G) (D := D) (flV_2 (p := p) (by rw [hmB, hmo]; rfl)))
    clear hmB hRG hRD
    have hmo' := hmo
    go_upto_region 3 with (first | (refine wpList_load_mid rfl 24 (.tmp 8) rfl _ 1 rfl (bl 64 m) _ (B0.drm) Try.underlying24 rfl (by rw [zl]; exact Try.size24) ?_) | (refine wpList_load_mid rfl 24 (.tmp 10) rfl _ 65 rfl (bl 64 G) _ (B0.drg) Try.underlying24 rfl (by rw [zl]; exact Try.size24) ?_) | (refine wpList_load_mid rfl 24 (.tmp 12) rfl _ 129 rfl (bl 64 D) _ (B0.drd) Try.underlying24 rfl (by rw [zl]; exact Try.size24) ?_) | (refine wpList_build_polys rfl 40 _ [m, G, D] rfl 24 rfl Try.underlying40 Try.elem24 (by simp) (by simp) rfl ?_; intro wa hwa hps hba; clear hwa; replace B0 := B0.zw hba; replace hb := hb.trans (hba.mono hb.size)) | (go_at_call 122; refine (l01Code_any p [m, G, D] (by simp [hm, hG, hD]) _ _ hps (by simp)).mono ?_; rintro e W8 ⟨rfl, hbb⟩; replace B0 := B0.zw hbb; replace hb := hb.trans (hbb.mono hb.size); rw [hc]) | (refine wpList_load_mid_g rfl 24 (.tmp 18) rfl _ 1 rfl (bl 64 m) _ (B0.drm) Try.underlying24 rfl (by rw [zl]; exact Try.size24) ?_) | (go_at_call 123; refine (l01Monic_any m hm _).mono ?_; rintro e W9 ⟨rfl, hbc⟩; replace B0 := B0.zw hbc; replace hb := hb.trans (hbc.mono hb.size); rw [hmo]))
    go_wp2_with fail
    go_ret
    exact ⟨by rw [HV.out]; rfl, hb⟩
   | true =>
    obtain ⟨n, rfl, hpr, lm⟩ := okA_nat hom
    have hmo' := hmo
    go_upto_region 4 with (first | (refine wpList_load_mid rfl 24 (.tmp 8) rfl _ 1 rfl (bl 64 m) _ (B0.drm) Try.underlying24 rfl (by rw [zl]; exact Try.size24) ?_) | (refine wpList_load_mid rfl 24 (.tmp 10) rfl _ 65 rfl (bl 64 G) _ (B0.drg) Try.underlying24 rfl (by rw [zl]; exact Try.size24) ?_) | (refine wpList_load_mid rfl 24 (.tmp 12) rfl _ 129 rfl (bl 64 D) _ (B0.drd) Try.underlying24 rfl (by rw [zl]; exact Try.size24) ?_) | (refine wpList_build_polys rfl 40 _ [m, G, D] rfl 24 rfl Try.underlying40 Try.elem24 (by simp) (by simp) rfl ?_; intro wa hwa hps hba; clear hwa; replace B0 := B0.zw hba; replace hb := hb.trans (hba.mono hb.size)) | (go_at_call 122; refine (l01Code_any (n : Int) [m, G, D] (by simp [hm, hG, hD]) _ _ hps (by simp)).mono ?_; rintro e W8 ⟨rfl, hbb⟩; replace B0 := B0.zw hbb; replace hb := hb.trans (hbb.mono hb.size); rw [hc]) | (refine wpList_load_mid_g rfl 24 (.tmp 18) rfl _ 1 rfl (bl 64 m) _ (B0.drm) Try.underlying24 rfl (by rw [zl]; exact Try.size24) ?_) | (go_at_call 123; refine (l01Monic_any m hm _).mono ?_; rintro e W9 ⟨rfl, hbc⟩; replace B0 := B0.zw hbc; replace hb := hb.trans (hbc.mono hb.size); rw [hmo]))
    go_upto_region 5 with (first | (refine wpList_load_mid rfl 24 (.tmp 23) rfl _ 1 rfl (bl 64 m) _ (B0.drm) Try.underlying24 rfl (by rw [zl]; exact Try.size24) ?_) | (go_at_call 124; with_reducible refine (l01Deg_any m _).mono ?_; rintro e W21 ⟨rfl, hW21⟩; replace B0 := B0.zw hW21; replace hb := (hb).trans (hW21.mono (hb).size)))
    by_cases hr : 1 ≤ deg m ∧ deg m ≤ 4
    · have hFL := flV_3 hom (by rw [hmB, hmo]; simp; omega)
      have hmm := hmo
      unfold monB at hmm
      simp only [decide_eq_true_eq] at hmm
      obtain ⟨d, hdg⟩ : ∃ d : Nat, deg m = (d : Int) := ⟨(deg m).toNat, by omega⟩
      have hmon : mon m d := ⟨hdg, by have := hmm.2; rwa [hdg, Int.toNat_natCast] at this⟩
      have HI := Lib.hid (fun W => l01Irreducible_any n m d W hpr lm hmon (by omega))
      clear hmm hmon hmB hdg
      cases hi : irB n m with
      | false =>
       have HV := Lib.hid (drB_1 (G := G) (D := D) (by rw [hFL, hi]))
       clear hFL hRG hRD
       go_wp2_with (first | (go_at_call 98; refine (l01In_any _ _ _ _).mono ?_; rintro e wS ⟨rfl, rfl⟩; rw [show decide ((1 : Int) ≤ deg m ∧ deg m ≤ 4) = true by simp; omega]) | (refine wpList_load_mid_g rfl 24 (.tmp 30) rfl _ 1 rfl (bl 64 m) _ (B0.drm) Try.underlying24 rfl (by rw [zl]; exact Try.size24) ?_) | (go_at_call 125; refine (HI.out _).mono ?_; rintro e W22 ⟨rfl, hW22⟩; replace B0 := B0.zw hW22; replace hb := (hb).trans (hW22.mono (hb).size); rw [hi]))
       go_ret
       exact ⟨by rw [HV.out]; rfl, hb⟩
      | true =>
       by_cases hg : deg G < deg m
       · by_cases hd : deg D < deg m
         · cases hz : eqN 64 D (fun _ => 0) with
           | true =>
            have HV := Lib.hid (drB_4 (p := (n : Int)) (m := m) (G := G) hz)
            have hgd := Try.noGuard24
            have heq := fun W => zeb (P := Try.prog) W 9998 24 5 64 D (fun _ => 0) Try.underlying24 Try.underlying5 Try.size5
            rw [hz] at heq
            clear hFL hRG hRD
            go_wp2_with (first | rw [← z64] | (go_at_call 98; refine (l01In_any _ _ _ _).mono ?_; rintro e wS ⟨rfl, rfl⟩; rw [show decide ((1 : Int) ≤ deg m ∧ deg m ≤ 4) = true by simp; omega]) | (refine wpList_load_mid_g rfl 24 (.tmp 30) rfl _ 1 rfl (bl 64 m) _ (B0.drm) Try.underlying24 rfl (by rw [zl]; exact Try.size24) ?_) | (go_at_call 125; refine (HI.out _).mono ?_; rintro e W22 ⟨rfl, hW22⟩; replace B0 := B0.zw hW22; replace hb := (hb).trans (hW22.mono (hb).size); rw [hi]) | (refine wpList_load_mid_g rfl 24 (.tmp 35) rfl _ 65 rfl (bl 64 G) _ (B0.drg) Try.underlying24 rfl (by rw [zl]; exact Try.size24) ?_) | (go_at_call 124; with_reducible refine (l01Deg_any G _).mono ?_; rintro e W23 ⟨rfl, hW23⟩; replace B0 := B0.zw hW23; replace hb := (hb).trans (hW23.mono (hb).size)) | (refine wpList_load_mid_g rfl 24 (.tmp 42) rfl _ 129 rfl (bl 64 D) _ (B0.drd) Try.underlying24 rfl (by rw [zl]; exact Try.size24) ?_) | (go_at_call 124; with_reducible refine (l01Deg_any D _).mono ?_; rintro e W24 ⟨rfl, hW24⟩; replace B0 := B0.zw hW24; replace hb := (hb).trans (hW24.mono (hb).size)) | (refine wpList_load_mid_g rfl 24 (.tmp 49) rfl _ 129 rfl (bl 64 D) _ (B0.drd) Try.underlying24 rfl (by rw [zl]; exact Try.size24) ?_))
            go_ret
            exact ⟨by rw [HV.out]; rfl, hb⟩
           | false =>
            have HV := Lib.hid (drB_5 (by rw [hFL, hi]) (by rw [hRG]; exact decide_eq_true hg) (by rw [hRD]; exact decide_eq_true hd) hz)
            have hgd := Try.noGuard24
            have heq := fun W => zeb (P := Try.prog) W 9998 24 5 64 D (fun _ => 0) Try.underlying24 Try.underlying5 Try.size5
            rw [hz] at heq
            clear hFL hRG hRD
            go_wp2_with (first | rw [← z64] | (go_at_call 98; refine (l01In_any _ _ _ _).mono ?_; rintro e wS ⟨rfl, rfl⟩; rw [show decide ((1 : Int) ≤ deg m ∧ deg m ≤ 4) = true by simp; omega]) | (refine wpList_load_mid_g rfl 24 (.tmp 30) rfl _ 1 rfl (bl 64 m) _ (B0.drm) Try.underlying24 rfl (by rw [zl]; exact Try.size24) ?_) | (go_at_call 125; refine (HI.out _).mono ?_; rintro e W22 ⟨rfl, hW22⟩; replace B0 := B0.zw hW22; replace hb := (hb).trans (hW22.mono (hb).size); rw [hi]) | (refine wpList_load_mid_g rfl 24 (.tmp 35) rfl _ 65 rfl (bl 64 G) _ (B0.drg) Try.underlying24 rfl (by rw [zl]; exact Try.size24) ?_) | (go_at_call 124; with_reducible refine (l01Deg_any G _).mono ?_; rintro e W23 ⟨rfl, hW23⟩; replace B0 := B0.zw hW23; replace hb := (hb).trans (hW23.mono (hb).size)) | (refine wpList_load_mid_g rfl 24 (.tmp 42) rfl _ 129 rfl (bl 64 D) _ (B0.drd) Try.underlying24 rfl (by rw [zl]; exact Try.size24) ?_) | (go_at_call 124; with_reducible refine (l01Deg_any D _).mono ?_; rintro e W24 ⟨rfl, hW24⟩; replace B0 := B0.zw hW24; replace hb := (hb).trans (hW24.mono (hb).size)) | (refine wpList_load_mid_g rfl 24 (.tmp 49) rfl _ 129 rfl (bl 64 D) _ (B0.drd) Try.underlying24 rfl (by rw [zl]; exact Try.size24) ?_))
            go_ret
            exact ⟨by rw [HV.out]; rfl, hb⟩
         skip
         have HV := Lib.hid (drB_3 (p := (n : Int)) (G := G) (by rw [hRD]; exact decide_eq_false hd))
         clear hFL hRG hRD
         go_wp2_with (first | (go_at_call 98; refine (l01In_any _ _ _ _).mono ?_; rintro e wS ⟨rfl, rfl⟩; rw [show decide ((1 : Int) ≤ deg m ∧ deg m ≤ 4) = true by simp; omega]) | (refine wpList_load_mid_g rfl 24 (.tmp 30) rfl _ 1 rfl (bl 64 m) _ (B0.drm) Try.underlying24 rfl (by rw [zl]; exact Try.size24) ?_) | (go_at_call 125; refine (HI.out _).mono ?_; rintro e W22 ⟨rfl, hW22⟩; replace B0 := B0.zw hW22; replace hb := (hb).trans (hW22.mono (hb).size); rw [hi]) | (refine wpList_load_mid_g rfl 24 (.tmp 35) rfl _ 65 rfl (bl 64 G) _ (B0.drg) Try.underlying24 rfl (by rw [zl]; exact Try.size24) ?_) | (go_at_call 124; with_reducible refine (l01Deg_any G _).mono ?_; rintro e W23 ⟨rfl, hW23⟩; replace B0 := B0.zw hW23; replace hb := (hb).trans (hW23.mono (hb).size)) | (refine wpList_load_mid_g rfl 24 (.tmp 42) rfl _ 129 rfl (bl 64 D) _ (B0.drd) Try.underlying24 rfl (by rw [zl]; exact Try.size24) ?_) | (go_at_call 124; with_reducible refine (l01Deg_any D _).mono ?_; rintro e W24 ⟨rfl, hW24⟩; replace B0 := B0.zw hW24; replace hb := (hb).trans (hW24.mono (hb).size)))
         go_ret
         exact ⟨by rw [HV.out]; rfl, hb⟩
       skip
       have HV := Lib.hid (drB_2 (p := (n : Int)) (D := D) (by rw [hRG]; exact decide_eq_false hg))
       clear hFL hRG hRD
       go_wp2_with (first | (go_at_call 98; refine (l01In_any _ _ _ _).mono ?_; rintro e wS ⟨rfl, rfl⟩; rw [show decide ((1 : Int) ≤ deg m ∧ deg m ≤ 4) = true by simp; omega]) | (refine wpList_load_mid_g rfl 24 (.tmp 30) rfl _ 1 rfl (bl 64 m) _ (B0.drm) Try.underlying24 rfl (by rw [zl]; exact Try.size24) ?_) | (go_at_call 125; refine (HI.out _).mono ?_; rintro e W22 ⟨rfl, hW22⟩; replace B0 := B0.zw hW22; replace hb := (hb).trans (hW22.mono (hb).size); rw [hi]) | (refine wpList_load_mid_g rfl 24 (.tmp 35) rfl _ 65 rfl (bl 64 G) _ (B0.drg) Try.underlying24 rfl (by rw [zl]; exact Try.size24) ?_) | (go_at_call 124; with_reducible refine (l01Deg_any G _).mono ?_; rintro e W23 ⟨rfl, hW23⟩; replace B0 := B0.zw hW23; replace hb := (hb).trans (hW23.mono (hb).size)))
       go_ret
       exact ⟨by rw [HV.out]; rfl, hb⟩
    have HV := Lib.hid (drB_1 (G := G) (D := D) (flV_2 (p := (n : Int)) (by rw [hmB, hmo]; simp; omega)))
    clear hmB hRG hRD
    go_wp2_with (first | (go_at_call 98; refine (l01In_any _ _ _ _).mono ?_; rintro e wS ⟨rfl, rfl⟩; rw [show decide ((1 : Int) ≤ deg m ∧ deg m ≤ 4) = false by simp; omega]))
    go_ret
    exact ⟨by rw [HV.out]; rfl, hb⟩
 have HV := Lib.hid (drB_code hc)
 go_upto_region 3 with (first | (refine wpList_load_mid rfl 24 (.tmp 8) rfl _ 1 rfl (bl 64 m) _ (B0.drm) Try.underlying24 rfl (by rw [zl]; exact Try.size24) ?_) | (refine wpList_load_mid rfl 24 (.tmp 10) rfl _ 65 rfl (bl 64 G) _ (B0.drg) Try.underlying24 rfl (by rw [zl]; exact Try.size24) ?_) | (refine wpList_load_mid rfl 24 (.tmp 12) rfl _ 129 rfl (bl 64 D) _ (B0.drd) Try.underlying24 rfl (by rw [zl]; exact Try.size24) ?_) | (refine wpList_build_polys rfl 40 _ [m, G, D] rfl 24 rfl Try.underlying40 Try.elem24 (by simp) (by simp) rfl ?_; intro wa hwa hps hba; clear hwa; replace B0 := B0.zw hba; replace hb := hb.trans (hba.mono hb.size)) | (go_at_call 122; refine (l01Code_any p [m, G, D] (by simp [hm, hG, hD]) _ _ hps (by simp)).mono ?_; rintro e W8 ⟨rfl, hbb⟩; replace B0 := B0.zw hbb; replace hb := hb.trans (hbb.mono hb.size); rw [hc]))
 go_wp2_with fail
 go_ret
 exact ⟨by rw [HV.out]; rfl, hb⟩
end Go.Proofs.Yteloknnooebabaa
namespace Go.Proofs.Yteloknnooebabaa
open Go Go.RowKit
attribute [local irreducible] deg irB monUp monB okA drB frN mmP
theorem flV_fld {p : Int} {m : Nat → Nat} (h1 : flV p m = true) : ∃ n : Nat, p = (n : Int) ∧ (n = 2 ∨ n = 3 ∨ n = 5 ∨ n = 7) ∧ (∀ k, k < 64 → m k < n) ∧ ∃ d, mon m d ∧ 1 ≤ d ∧ d ≤ 4 := by
 have ho : okA p m = true := by
  cases ho : okA p m with
  | true => rfl
  | false => rw [flV_1 ho] at h1; cases h1
 have hm : monUp 4 m = true := by
  cases hm : monUp 4 m with
  | true => rfl
  | false => rw [flV_2 hm] at h1; cases h1
 obtain ⟨n, hn, hpr, hl⟩ := okA_nat ho
 obtain ⟨d, a1, a2, a3⟩ := mon_up hm
 exact ⟨n, hn, hpr, hl, d, a1, a2, by omega⟩
noncomputable def drCo (p : Int) (m G D : Nat → Nat) (fs : List (Nat → Nat)) : Int := if drB p m G D = true then codeL p fs else 1
theorem drCo_t {p : Int} {m G D : Nat → Nat} {fs : List (Nat → Nat)} (h : drB p m G D = true) : drCo p m G D fs = codeL p fs := if_pos h
theorem drCo_f {p : Int} {m G D : Nat → Nat} {fs : List (Nat → Nat)} (h : drB p m G D = false) : drCo p m G D fs = 1 := if_neg (by rw [h]; simp)
theorem drCo_two (p : Int) (m G D : Nat → Nat) (fs : List (Nat → Nat)) : drCo p m G D fs = 0 ∨ drCo p m G D fs = 1 := by
 cases h : drB p m G D with
 | true => rw [drCo_t h]; exact codeL_two p fs
 | false => rw [drCo_f h]; exact .inr rfl
theorem drCo_zero {p : Int} {m G D : Nat → Nat} {fs : List (Nat → Nat)} (h : drCo p m G D fs = 0) : drB p m G D = true ∧ codeL p fs = 0 := by
 cases h2 : drB p m G D with
 | true => rw [drCo_t h2] at h; exact ⟨rfl, h⟩
 | false => rw [drCo_f h2] at h; cases h
attribute [irreducible] drCo
theorem checkDrinfeld_any (p : Int) (m G D : Nat → Nat) (hm : byte m) (hG : byte G) (hD : byte D) (fs : List (Nat → Nat)) (hf : ∀ f ∈ fs, byte f) (bS : Nat) (w : World) (hS : PolS w bS fs) (hl : fs.length ≤ 8) :
 Calls Try.prog 149 #[(.agg (drC p m G D).toArray), (.slice (some ⟨bS, 0, none⟩) fs.length fs.length)] w fun e w' => e = .returned (.int .i64 (drCo p m G D fs)) ∧ Below w.heap.size w w' := by
 have HIS := Lib.hid (fun W => impl_IsDrinfeld_any p m G D hm hG hD W)
 have HCP := Lib.hid (fun W (h : PolS W bS fs) => checkPolys_any p fs hf bS W h hl)
 clear hf hm hG hD
 go_enter Try.func149, Try.ntmps149
 go_upto_region 1 with (fail)
 obtain ⟨W1, hwo⟩ : ∃ v : World, v = (w.alloc (.cells (drC p m G D).toArray 58)) := ⟨_, rfl⟩
 have B0 : Row W1 (w.heap.size) 58 (drC p m G D).toArray := by subst hwo; have := (Row.new w 58 (drC p m G D).toArray); simpa using this
 have hb : Below w.heap.size w W1 := by subst hwo; exact ((Below.refl _ _).alloc (Nat.le_refl _) _)
 rw [← hwo]
 clear hwo
 cases hr : drB p m G D with
 | false =>
  have HV := Lib.hid (drCo_f (fs := fs) hr)
  go_upto_region 2 with (first | (refine zlr rfl 58 (.tmp 2) rfl _ rfl 58 (drC p m G D).toArray (B0) _ Try.underlying58 rfl 193 Try.size58 (by simp [drC_len]) ?_) | (go_at_call 60; refine (HIS.out _).mono ?_; rintro e W2 ⟨rfl, hW2⟩; replace B0 := B0.zw hW2; replace hb := (hb).trans (hW2.mono (hb).size); rw [hr]))
  go_wp2_with fail
  go_ret
  exact ⟨by rw [HV.out]; rfl, hb⟩
 | true =>
  have HV := Lib.hid (drCo_t (fs := fs) hr)
  go_upto_region 3 with (first | (refine zlr rfl 58 (.tmp 2) rfl _ rfl 58 (drC p m G D).toArray (B0) _ Try.underlying58 rfl 193 Try.size58 (by simp [drC_len]) ?_) | (go_at_call 60; refine (HIS.out _).mono ?_; rintro e W2 ⟨rfl, hW2⟩; replace B0 := B0.zw hW2; replace hb := (hb).trans (hW2.mono (hb).size); rw [hr]))
  go_wp2_with (first | (refine wpList_load_rowc rfl 2 (.tmp 8) rfl _ 0 rfl 58 _ (B0) (.int .i64 p) (drC_at _ _ _ _) _ Try.underlying2 rfl ?_) | (go_at_call 131; refine (HCP.out _ (hS.zw hb)).mono ?_; rintro e W3 ⟨rfl, hW3⟩; replace B0 := B0.zw hW3; replace hb := (hb).trans (hW3.mono (hb).size)))
  go_ret
  exact ⟨by rw [HV.out]; rfl, hb⟩
theorem l06Code_any (p : Int) (m G D : Nat → Nat) (hm : byte m) (hG : byte G) (hD : byte D) (fs : List (Nat → Nat)) (hf : ∀ f ∈ fs, byte f) (bS : Nat) (w : World) (hS : PolS w bS fs) (hl : fs.length ≤ 8) :
 Calls Try.prog 147 #[(.agg (drC p m G D).toArray), (.slice (some ⟨bS, 0, none⟩) fs.length fs.length)] w fun e w' => e = .returned (.int .i64 (drCo p m G D fs)) ∧ Below w.heap.size w w' := by
 have HIS := Lib.hid (fun W => l06Is_any p m G D hm hG hD W)
 have HCP := Lib.hid (fun W (h : PolS W bS fs) => l01Code_any p fs hf bS W h hl)
 clear hf hm hG hD
 go_enter Try.func147, Try.ntmps147
 go_upto_region 1 with (fail)
 obtain ⟨W1, hwo⟩ : ∃ v : World, v = (w.alloc (.cells (drC p m G D).toArray 58)) := ⟨_, rfl⟩
 have B0 : Row W1 (w.heap.size) 58 (drC p m G D).toArray := by subst hwo; have := (Row.new w 58 (drC p m G D).toArray); simpa using this
 have hb : Below w.heap.size w W1 := by subst hwo; exact ((Below.refl _ _).alloc (Nat.le_refl _) _)
 rw [← hwo]
 clear hwo
 cases hr : drB p m G D with
 | false =>
  have HV := Lib.hid (drCo_f (fs := fs) hr)
  go_upto_region 2 with (first | (refine zlr rfl 58 (.tmp 2) rfl _ rfl 58 (drC p m G D).toArray (B0) _ Try.underlying58 rfl 193 Try.size58 (by simp [drC_len]) ?_) | (go_at_call 145; refine (HIS.out _).mono ?_; rintro e W2 ⟨rfl, hW2⟩; replace B0 := B0.zw hW2; replace hb := (hb).trans (hW2.mono (hb).size); rw [hr]))
  go_wp2_with fail
  go_ret
  exact ⟨by rw [HV.out]; rfl, hb⟩
 | true =>
  have HV := Lib.hid (drCo_t (fs := fs) hr)
  rcases codeL_two p fs with hc | hc
  · rw [hc] at HV
    go_upto_region 3 with (first | (refine zlr rfl 58 (.tmp 2) rfl _ rfl 58 (drC p m G D).toArray (B0) _ Try.underlying58 rfl 193 Try.size58 (by simp [drC_len]) ?_) | (go_at_call 145; refine (HIS.out _).mono ?_; rintro e W2 ⟨rfl, hW2⟩; replace B0 := B0.zw hW2; replace hb := (hb).trans (hW2.mono (hb).size); rw [hr]) | (refine wpList_load_rowc_g rfl 2 (.tmp 9) rfl _ 0 rfl 58 _ (B0) (.int .i64 p) (drC_at _ _ _ _) _ Try.underlying2 rfl ?_) | (go_at_call 122; refine (HCP.out _ (hS.zw hb)).mono ?_; rintro e W3 ⟨rfl, hW3⟩; replace B0 := B0.zw hW3; replace hb := (hb).trans (hW3.mono (hb).size); rw [hc]))
    go_wp2_with fail
    go_ret
    exact ⟨by rw [HV.out]; rfl, hb⟩
  rw [hc] at HV
  go_upto_region 2 with (first | (refine zlr rfl 58 (.tmp 2) rfl _ rfl 58 (drC p m G D).toArray (B0) _ Try.underlying58 rfl 193 Try.size58 (by simp [drC_len]) ?_) | (go_at_call 145; refine (HIS.out _).mono ?_; rintro e W2 ⟨rfl, hW2⟩; replace B0 := B0.zw hW2; replace hb := (hb).trans (hW2.mono (hb).size); rw [hr]) | (refine wpList_load_rowc_g rfl 2 (.tmp 9) rfl _ 0 rfl 58 _ (B0) (.int .i64 p) (drC_at _ _ _ _) _ Try.underlying2 rfl ?_) | (go_at_call 122; refine (HCP.out _ (hS.zw hb)).mono ?_; rintro e W3 ⟨rfl, hW3⟩; replace B0 := B0.zw hW3; replace hb := (hb).trans (hW3.mono (hb).size); rw [hc]))
  go_wp2_with fail
  go_ret
  exact ⟨by rw [HV.out]; rfl, hb⟩
theorem l06Times_any (p : Nat) (m G D f g : Nat → Nat) (w : World) (hpr : p = 2 ∨ p = 3 ∨ p = 5 ∨ p = 7) (lm : ∀ k, k < 64 → m k < p) (h0 : 0 ≤ deg m) (lf : ∀ k, k < 64 → f k < p) (lg : ∀ k, k < 64 → g k < p) :
 Calls Try.prog 154 #[(.agg (drC (p : Int) m G D).toArray), .agg (zb 64 f), .agg (zb 64 g)] w fun e w' => e = .returned (.agg (zb 64 (mmP p f g m))) ∧ Below w.heap.size w w' := by
 have HMM := Lib.hid (fun W => l01MulMod_any p f g m W hpr lf lg lm h0)
 go_enter Try.func154, Try.ntmps154
 go_upto_region 1 with (fail)
 rw [← z64]
 obtain ⟨W1, hwo⟩ : ∃ v : World, v = ((((w.alloc (.cells (drC (p : Int) m G D).toArray 58)).alloc (.cells (zb 64 (f)) 24)).alloc (.cells (zb 64 (g)) 24)).alloc (.cells (zb 64 (fun _ => 0)) 24)) := ⟨_, rfl⟩
 have B0 : Row W1 (w.heap.size) 58 (drC (p : Int) m G D).toArray := by subst hwo; have := ((((Row.new w 58 (drC (p : Int) m G D).toArray).alloc (.cells (zb 64 (f)) 24)).alloc (.cells (zb 64 (g)) 24)).alloc (.cells (zb 64 (fun _ => 0)) 24)); simpa using this
 have B1 : Blk W1 (w.heap.size + 1) 64 24 (f) := by subst hwo; have := (((Blk.new (w.alloc (.cells (drC (p : Int) m G D).toArray 58)) 64 24 (f)).alloc (.cells (zb 64 (g)) 24)).alloc (.cells (zb 64 (fun _ => 0)) 24)); simpa using this
 have B2 : Blk W1 (w.heap.size + 1 + 1) 64 24 (g) := by subst hwo; have := ((Blk.new ((w.alloc (.cells (drC (p : Int) m G D).toArray 58)).alloc (.cells (zb 64 (f)) 24)) 64 24 (g)).alloc (.cells (zb 64 (fun _ => 0)) 24)); simpa using this
 have B3 : Blk W1 (w.heap.size + 1 + 1 + 1) 64 24 (fun _ => 0) := by subst hwo; have := (Blk.new (((w.alloc (.cells (drC (p : Int) m G D).toArray 58)).alloc (.cells (zb 64 (f)) 24)).alloc (.cells (zb 64 (g)) 24)) 64 24 (fun _ => 0)); simpa using this
 have hb : Below w.heap.size w W1 := by subst hwo; exact (((((Below.refl _ _).alloc (Nat.le_refl _) _).alloc (by simp) _).alloc (by simp; omega) _).alloc (by simp; omega) _)
 rw [← hwo]
 clear hwo
 go_wp2_with (first | rw [← z64] | (refine wpList_load_rowc rfl 2 (.tmp 7) rfl _ 0 rfl 58 _ (B0) (.int .i64 (p : Int)) (drC_at _ _ _ _) _ Try.underlying2 rfl ?_) | (refine zla (.tmp 4) B1 Try.underlying24 Try.size24 ?_) | (refine zla (.tmp 5) B2 Try.underlying24 Try.size24 ?_) | (refine wpList_load_mid rfl 24 (.tmp 11) rfl _ 1 rfl (bl 64 m) _ (B0.drm) Try.underlying24 rfl (by rw [zl]; exact Try.size24) ?_) | (go_at_call 188; refine (HMM.out _).mono ?_; rintro e W2 ⟨rfl, hW2⟩; replace B0 := B0.zw hW2; replace B1 := B1.zw hW2; replace B2 := B2.zw hW2; replace B3 := B3.zw hW2; replace hb := (hb).trans (hW2.mono (hb).size)) | (refine zsr (.tmp 6) (.tmp 13) (mmP p f g m) B3 Try.size24 ?_; try simp only [Act.put]))
 obtain ⟨W3, hwo, hzQ⟩ : ∃ v : World, v = (W2.setRow (w.heap.size + 1 + 1 + 1) (zb 64 (mmP p f g m))) ∧ Row v (w.heap.size) 58 (drC (p : Int) m G D).toArray ∧ Blk v (w.heap.size + 1) 64 24 (f) ∧ Blk v (w.heap.size + 1 + 1) 64 24 (g) ∧ Blk v (w.heap.size + 1 + 1 + 1) 64 24 (mmP p f g m) ∧ Below w.heap.size w v := ⟨_, rfl, (B0.rowOther (by omega)), (B1.rowOther (by omega)), (B2.rowOther (by omega)), (B3.row (mmP p f g m)), (zr hb (by omega) _)⟩
 rw [← hwo]
 clear hwo B0 B1 B2 B3 hb
 obtain ⟨B0, B1, B2, B3, hb⟩ := hzQ
 try simp only [Act.put, pA, pB, pC]
 refine bodyPost_ret (zrb rfl _ _ _ 64 24 5 _ rfl B3 Try.underlying24 Try.size24) rfl ⟨rfl, hb⟩
end Go.Proofs.Yteloknnooebabaa
namespace Go.Proofs.Yteloknnooebabaa
open Rg
theorem pw_pred {R : Type} [Rg R] (a : R) : ∀ {n : Nat}, 1 ≤ n → pw a n = a * pw a (n - 1)
 | n + 1, _ => rfl
end Go.Proofs.Yteloknnooebabaa
namespace Go.Proofs.Yteloknnooebabaa
open Rg
theorem rs_cong {p : Nat} {m : Nat → Int} {f g : Nat → Nat} (h : ∀ k, k < 64 → f k = g k) : (rs f : Res p m) = rs g := cl_congr (by
 funext k
 unfold lz cut
 by_cases hk : k < 64
 · rw [if_pos hk, if_pos hk, h k hk]
 rw [if_neg hk, if_neg hk])
end Go.Proofs.Yteloknnooebabaa
namespace Go.Proofs.Yteloknnooebabaa
open Rg
def gdR (p : Nat) (T N : (Nat → Nat → Nat) → (Nat → Nat → Nat)) (g : Int) : Nat → (Nat → Nat → Nat) → (Nat → Nat → Nat) → (Nat → Nat → Nat) × (Nat → Nat → Nat)
 | 0, Q, F => (Q, F)
 | fu + 1, Q, F => if skD F < g then (Q, F) else gdR p T N g fu (skA p Q (T F) 1) (N F)
def dq (p : Nat) (m : Nat → Nat) (d : Nat) (F G : Nat → Nat → Nat) : (Nat → Nat → Nat) × (Nat → Nat → Nat) := gdR p (fun F => dvT p m d F G) (fun F => dvF p m d F G) (skD G) 8 (fun _ _ => 0) F
def eD (p : Nat) (m : Nat → Nat) (d : Nat) : Nat → (Nat → Nat → Nat) → (Nat → Nat → Nat) → (Nat → Nat → Nat)
 | 0, A, B => A
 | n + 1, A, B => if skD B < 0 then A else eD p m d n B (dq p m d A B).2
attribute [irreducible] gdR dq eD
end Go.Proofs.Yteloknnooebabaa
namespace Go.Proofs.Yteloknnooebabaa
open Go Go.RowKit
attribute [local irreducible] deg addK strP frI frN mmP pmP resP bzU bzD bzW skA skD
theorem quotient_any (p : Nat) (m x y : Nat → Nat) (w : World) (hpr : p = 2 ∨ p = 3 ∨ p = 5 ∨ p = 7) (lm : ∀ k, k < 64 → m k < p) (h0 : 0 ≤ deg m) (lx : ∀ k, k < 64 → x k < p) (ly : ∀ k, k < 64 → y k < p) :
 Calls Try.prog 156 #[.agg (fdC (p : Int) m).toArray, .agg (zb 64 x), .agg (zb 64 y)] w fun e w' => e = .returned (.agg (zb 64 (mmP p x (bzU p y m) m))) ∧ Below w.heap.size w w' := by
 have HB := Lib.hid (fun W => bezout_any p y m W hpr ly lm (.inr h0))
 have HP := Lib.hid (fun W => kproduct_any p m x (bzU p y m) W hpr lm h0 lx (fun k _ => bzU_lt (by omega) k))
 clear h0 lx ly lm
 go_enter Try.func156, Try.ntmps156
 go_upto_region 1 with (fail)
 rw [← z64]
 obtain ⟨W1, hwo⟩ : ∃ v : World, v = ((((w.alloc (.cells (fdC (p : Int) m).toArray 96)).alloc (.cells (zb 64 (x)) 24)).alloc (.cells (zb 64 (y)) 24)).alloc (.cells (zb 64 (fun _ => 0)) 24)) := ⟨_, rfl⟩
 have B0 : Row W1 (w.heap.size) 96 (fdC (p : Int) m).toArray := by subst hwo; have := ((((Row.new w 96 (fdC (p : Int) m).toArray).alloc (.cells (zb 64 (x)) 24)).alloc (.cells (zb 64 (y)) 24)).alloc (.cells (zb 64 (fun _ => 0)) 24)); simpa using this
 have B1 : Blk W1 (w.heap.size + 1) 64 24 (x) := by subst hwo; have := (((Blk.new (w.alloc (.cells (fdC (p : Int) m).toArray 96)) 64 24 (x)).alloc (.cells (zb 64 (y)) 24)).alloc (.cells (zb 64 (fun _ => 0)) 24)); simpa using this
 have B2 : Blk W1 (w.heap.size + 1 + 1) 64 24 (y) := by subst hwo; have := ((Blk.new ((w.alloc (.cells (fdC (p : Int) m).toArray 96)).alloc (.cells (zb 64 (x)) 24)) 64 24 (y)).alloc (.cells (zb 64 (fun _ => 0)) 24)); simpa using this
 have B3 : Blk W1 (w.heap.size + 1 + 1 + 1) 64 24 (fun _ => 0) := by subst hwo; have := (Blk.new (((w.alloc (.cells (fdC (p : Int) m).toArray 96)).alloc (.cells (zb 64 (x)) 24)).alloc (.cells (zb 64 (y)) 24)) 64 24 (fun _ => 0)); simpa using this
 have hb : Below w.heap.size w W1 := by subst hwo; exact (((((Below.refl _ _).alloc (Nat.le_refl _) _).alloc (by simp) _).alloc (by simp; omega) _).alloc (by simp; omega) _)
 rw [← hwo]
 clear hwo
 have cc := B0.cell (i := 0) (v := .int .i64 (p : Int)) (fdC_at (p : Int) m)
 have lt_B0 := B0.lt
 have lt_B1 := B1.lt
 have lt_B2 := B2.lt
 have lt_B3 := B3.lt
 go_upto_region 2 with (first | rw [← z64] | (refine zla (.tmp 5) B2 Try.underlying24 Try.size24 ?_) | (refine wpList_load_mid rfl 24 (.tmp 14) rfl _ 1 rfl (bl 64 m) _ (B0.fd) Try.underlying24 rfl (by rw [zl]; exact Try.size24) ?_) | (go_at_call 221; refine (HB.out _).mono ?_; rintro e W2 ⟨rfl, hW2⟩; replace B0 := B0.zw hW2; replace B1 := B1.zw hW2; replace B2 := B2.zw hW2; replace B3 := B3.zw hW2; replace hb := (hb).trans (hW2.mono (hb).size)) | (refine wpList_store_blk rfl 24 (.tmp 7) (.tmp 17) rfl _ 64 (bzD p y m) rfl rfl 24 _ ((((Blk.new W2 64 24 (fun _ => 0)).alloc (.cells (zb 64 (fun _ => 0)) 24)).alloc (.cells (zb 64 (fun _ => 0)) 24))) Try.size24 ?_; try simp only [Act.put]) | (refine wpList_store_blk rfl 24 (.tmp 8) (.tmp 18) rfl _ 64 (bzU p y m) rfl rfl 24 _ ((((show Blk ((W2.alloc (.cells (zb 64 (fun _ => 0)) 24)).alloc (.cells (zb 64 (fun _ => 0)) 24)) (W2.heap.size + 1) 64 24 (fun _ => 0) by have := Blk.new (W2.alloc (.cells (zb 64 (fun _ => 0)) 24)) 64 24 (fun _ => 0); simpa using this).alloc (.cells (zb 64 (fun _ => 0)) 24)).rowOther (by omega))) Try.size24 ?_; try simp only [Act.put]) | (refine wpList_store_blk rfl 24 (.tmp 9) (.tmp 19) rfl _ 64 (bzW p y m) rfl rfl 24 _ ((((show Blk (((W2.alloc (.cells (zb 64 (fun _ => 0)) 24)).alloc (.cells (zb 64 (fun _ => 0)) 24)).alloc (.cells (zb 64 (fun _ => 0)) 24)) (W2.heap.size + 1 + 1) 64 24 (fun _ => 0) by have := Blk.new ((W2.alloc (.cells (zb 64 (fun _ => 0)) 24)).alloc (.cells (zb 64 (fun _ => 0)) 24)) 64 24 (fun _ => 0); simpa using this).rowOther (by omega)).rowOther (by omega))) Try.size24 ?_; try simp only [Act.put]))
 have lt_B0 := B0.lt
 have lt_B1 := B1.lt
 have lt_B2 := B2.lt
 have lt_B3 := B3.lt
 have lhb := hb.size
 obtain ⟨W3, hwo, hzQ⟩ : ∃ v : World, v = ((((((W2.alloc (.cells (zb 64 (fun _ => 0)) 24)).alloc (.cells (zb 64 (fun _ => 0)) 24)).alloc (.cells (zb 64 (fun _ => 0)) 24)).setRow (W2.heap.size) (zb 64 (bzD p y m))).setRow (W2.heap.size + 1) (zb 64 (bzU p y m))).setRow (W2.heap.size + 1 + 1) (zb 64 (bzW p y m))) ∧ Row v (w.heap.size) 96 (fdC (p : Int) m).toArray ∧ Blk v (w.heap.size + 1) 64 24 (x) ∧ Blk v (w.heap.size + 1 + 1) 64 24 (y) ∧ Blk v (w.heap.size + 1 + 1 + 1) 64 24 (fun _ => 0) ∧ Blk v (W2.heap.size) 64 24 (bzD p y m) ∧ Blk v (W2.heap.size + 1) 64 24 (bzU p y m) ∧ Blk v (W2.heap.size + 1 + 1) 64 24 (bzW p y m) ∧ Below w.heap.size w v := ⟨_, rfl, ((((((B0.alloc (.cells (zb 64 (fun _ => 0)) 24)).alloc (.cells (zb 64 (fun _ => 0)) 24)).alloc (.cells (zb 64 (fun _ => 0)) 24)).rowOther (by omega)).rowOther (by omega)).rowOther (by omega)), ((((((B1.alloc (.cells (zb 64 (fun _ => 0)) 24)).alloc (.cells (zb 64 (fun _ => 0)) 24)).alloc (.cells (zb 64 (fun _ => 0)) 24)).rowOther (by omega)).rowOther (by omega)).rowOther (by omega)), ((((((B2.alloc (.cells (zb 64 (fun _ => 0)) 24)).alloc (.cells (zb 64 (fun _ => 0)) 24)).alloc (.cells (zb 64 (fun _ => 0)) 24)).rowOther (by omega)).rowOther (by omega)).rowOther (by omega)), ((((((B3.alloc (.cells (zb 64 (fun _ => 0)) 24)).alloc (.cells (zb 64 (fun _ => 0)) 24)).alloc (.cells (zb 64 (fun _ => 0)) 24)).rowOther (by omega)).rowOther (by omega)).rowOther (by omega)), ((((((Blk.new W2 64 24 (fun _ => 0)).alloc (.cells (zb 64 (fun _ => 0)) 24)).alloc (.cells (zb 64 (fun _ => 0)) 24)).row (bzD p y m)).rowOther (by omega)).rowOther (by omega)), (((((show Blk ((W2.alloc (.cells (zb 64 (fun _ => 0)) 24)).alloc (.cells (zb 64 (fun _ => 0)) 24)) (W2.heap.size + 1) 64 24 (fun _ => 0) by have := Blk.new (W2.alloc (.cells (zb 64 (fun _ => 0)) 24)) 64 24 (fun _ => 0); simpa using this).alloc (.cells (zb 64 (fun _ => 0)) 24)).rowOther (by omega)).row (bzU p y m)).rowOther (by omega)), ((((show Blk (((W2.alloc (.cells (zb 64 (fun _ => 0)) 24)).alloc (.cells (zb 64 (fun _ => 0)) 24)).alloc (.cells (zb 64 (fun _ => 0)) 24)) (W2.heap.size + 1 + 1) 64 24 (fun _ => 0) by have := Blk.new ((W2.alloc (.cells (zb 64 (fun _ => 0)) 24)).alloc (.cells (zb 64 (fun _ => 0)) 24)) 64 24 (fun _ => 0); simpa using this).rowOther (by omega)).rowOther (by omega)).row (bzW p y m)), (zr (zr (zr (((hb.alloc (by have := hb.size; simp; omega) (.cells (zb 64 (fun _ => 0)) 24)).alloc (by have := hb.size; simp; omega) (.cells (zb 64 (fun _ => 0)) 24)).alloc (by have := hb.size; simp; omega) (.cells (zb 64 (fun _ => 0)) 24)) (by omega) _) (by omega) _) (by omega) _)⟩
 rw [← hwo]
 clear hwo B0 B1 B2 B3 hb
 obtain ⟨B0, B1, B2, B3, B4, B5, B6, hb⟩ := hzQ
 obtain ⟨N1, hNN⟩ : ∃ n : Nat, n = W2.heap.size := ⟨_, rfl⟩
 rw [← hNN] at lt_B0 lt_B1 lt_B2 lt_B3 lhb B4 B5 B6 ⊢
 clear hNN
 have zN1_0 := lt_B0
 have zN1_1 := lt_B1
 have zN1_2 := lt_B2
 have zN1_3 := lt_B3
 have zN1 := lhb
 clear lt_B0 lt_B1 lt_B2 lt_B3 lhb
 try simp only [Act.put, pA, pB, pC]
 have lt_B0 := B0.lt
 have lt_B1 := B1.lt
 have lt_B2 := B2.lt
 have lt_B3 := B3.lt
 have lt_B4 := B4.lt
 have lt_B5 := B5.lt
 have lt_B6 := B6.lt
 go_wp2_with (first | rw [← z64] | (refine zlr rfl 96 (.tmp 3) rfl _ rfl 96 (fdC (p : Int) m).toArray B0 _ Try.underlying96 rfl 65 Try.size96 (by simp [fdC_len]) ?_) | (refine zla (.tmp 4) B1 Try.underlying24 Try.size24 ?_) | (refine zla (.tmp 8) B5 Try.underlying24 Try.size24 ?_) | (go_at_call 157; refine (HP.out _).mono ?_; rintro e W4 ⟨rfl, hW4⟩; replace B0 := B0.zw hW4; replace B1 := B1.zw hW4; replace B2 := B2.zw hW4; replace B3 := B3.zw hW4; replace B4 := B4.zw hW4; replace B5 := B5.zw hW4; replace B6 := B6.zw hW4; replace hb := (hb).trans (hW4.mono (hb).size)) | (refine zsr (.tmp 6) (.tmp 23) (mmP p x (bzU p y m) m) B3 Try.size24 ?_; try simp only [Act.put]))
 obtain ⟨W5, hwo, hzQ⟩ : ∃ v : World, v = (W4.setRow (w.heap.size + 1 + 1 + 1) (zb 64 (mmP p x (bzU p y m) m))) ∧ Row v (w.heap.size) 96 (fdC (p : Int) m).toArray ∧ Blk v (w.heap.size + 1) 64 24 (x) ∧ Blk v (w.heap.size + 1 + 1) 64 24 (y) ∧ Blk v (w.heap.size + 1 + 1 + 1) 64 24 (mmP p x (bzU p y m) m) ∧ Blk v (N1) 64 24 (bzD p y m) ∧ Blk v (N1 + 1) 64 24 (bzU p y m) ∧ Blk v (N1 + 1 + 1) 64 24 (bzW p y m) ∧ Below w.heap.size w v := ⟨_, rfl, (B0.rowOther (by omega)), (B1.rowOther (by omega)), (B2.rowOther (by omega)), (B3.row (mmP p x (bzU p y m) m)), (B4.rowOther (by omega)), (B5.rowOther (by omega)), (B6.rowOther (by omega)), (zr hb (by omega) _)⟩
 rw [← hwo]
 clear hwo B0 B1 B2 B3 B4 B5 B6 hb
 obtain ⟨B0, B1, B2, B3, B4, B5, B6, hb⟩ := hzQ
 try simp only [Act.put, pA, pB, pC]
 refine bodyPost_ret (zrb rfl _ _ _ 64 24 5 _ rfl B3 Try.underlying24 Try.size24) rfl ⟨rfl, hb⟩
end Go.Proofs.Yteloknnooebabaa
namespace Go.Proofs.Yteloknnooebabaa
open Rg
section
variable {p : Nat} {m : Nat → Nat} {d : Nat} (hp : p = 2 ∨ p = 3 ∨ p = 5 ∨ p = 7) (lm : ∀ k, k < 64 → m k < p) (hmon : mon m d) (hi : irr p (cut m) d) (h9 : d ≤ 9)
include hp lm hmon hi h9
theorem fr_d {x : Nat → Nat} (hx : rsd p m x) : fr' p d (rs x : Res p (lz m)) = rs x := by
 have h0 : 0 ≤ deg m := by rw [hmon.1]; omega
 obtain ⟨a, b⟩ := frN_ok hp lm h0 (by rw [hmon.1]; omega) hx d
 rw [← b]
 exact rs_cong (frN_d hp lm h0 (by rw [hmon.1]; omega) hi hx)
theorem fr_mod {x : Nat → Nat} (hx : rsd p m x) (i : Nat) : fr' p i (rs x : Res p (lz m)) = fr' p (i % d) (rs x) := by
 have key : ∀ j r, fr' p (d * j + r) (rs x : Res p (lz m)) = fr' p r (rs x) := by
  intro j
  induction j with
  | zero => intro r; rw [Nat.mul_zero, Nat.zero_add]
  | succ j ih =>
   intro r
   rw [show d * (j + 1) + r = d + (d * j + r) by rw [Nat.mul_succ]; omega, fr_add, fr_d hp lm hmon hi h9 hx]; exact ih r
 have := key (i / d) (i % d)
 rwa [Nat.div_add_mod] at this
end
end Go.Proofs.Yteloknnooebabaa
namespace Go.Proofs.Yteloknnooebabaa
open Rg
section
variable {p : Nat} {m : Nat → Nat} {d : Nat} (hp : p = 2 ∨ p = 3 ∨ p = 5 ∨ p = 7) (lm : ∀ k, k < 64 → m k < p) (hmon : mon m d) (hi : irr p (cut m) d) (h9 : d ≤ 9)
include hp lm hmon hi h9
theorem frN_pw {x : Nat → Nat} (hx : rsd p m x) (k : Nat) : (rs (frN p m x (k % d)) : Res p (lz m)) = pw (rs x) (p ^ k) := by
 have h0 : 0 ≤ deg m := by rw [hmon.1]; omega
 have h9' : deg m ≤ 9 := by rw [hmon.1]; omega
 rw [(frN_ok hp lm h0 h9' hx (k % d)).2, ← fr_mod hp lm hmon hi h9 hx k]
 rfl
theorem twist_eq {c : Nat → Nat} (hc : rsd p m c) (hc0 : 0 ≤ deg c) {k : Nat} (hk : p ^ k < 2 ^ 64) : ∀ j, j < 64 → mmP p c (bzU p (frN p m c (k % d)) m) m j = pmP p (bzU p c m) (p ^ k - 1) m j := by
 have h0 : 0 ≤ deg m := by rw [hmon.1]; omega
 have h9' : deg m ≤ 9 := by rw [hmon.1]; omega
 have hd1 := hi.1
 have lb : ∀ i, i < 64 → bzU p c m i < p := fun i _ => bzU_lt (by omega) i
 obtain ⟨a, e1, _⟩ := pmP_spec (k := p ^ k - 1) hp lb lm h0 (by omega)
 refine rsd_eq hp lm h0 (mm_rsd hp lm h0) ⟨a, e1⟩ ?_
 have hu := (frN_ok hp lm h0 h9' hc (k % d)).1
 have hu0 := frN_ne hp lm hmon hi h9 hc hc0 (n := k % d) (Nat.le_of_lt (Nat.mod_lt _ (by omega)))
 have i1 := inv_res hp lm hmon hi hu hu0
 have i2 := inv_res hp lm hmon hi hc hc0
 rw [rs_mm hp lm h0, rs_pm hp lb lm h0 (by omega)]
 rw [frN_pw hp lm hmon hi h9 hc k] at i1
 have hq : 1 ≤ p ^ k := Nat.pos_of_ne_zero (fun h => by have := Nat.pow_eq_zero.1 h; omega)
 rw [pw_pred _ hq] at i1
 have key : pw (rs (bzU p c m) : Res p (lz m)) (p ^ k - 1) * pw (rs c) (p ^ k - 1) = e := by rw [← pw_mul, i2, pw_one]
 generalize (rs (bzU p (frN p m c (k % d)) m) : Res p (lz m)) = I at i1 ⊢
 generalize pw (rs (bzU p c m) : Res p (lz m)) (p ^ k - 1) = V at key ⊢
 generalize pw (rs c : Res p (lz m)) (p ^ k - 1) = C at key i1
 generalize (rs c : Res p (lz m)) = X at i1 ⊢
 calc X * I = (V * C) * (X * I) := by rw [key, emul]
  _ = V * (C * (X * I)) := massoc _ _ _
  _ = V * (I * (X * C)) := by rw [← massoc C X I, mcomm C X, mcomm (X * C) I]
  _ = V := by rw [i1, mule]
end
end Go.Proofs.Yteloknnooebabaa
namespace Go.Proofs.Yteloknnooebabaa
open Go Go.RowKit
attribute [local irreducible] deg irB monUp monB okA drB frN mmP pmP bzU
theorem drB_irr {n d : Nat} {m G D : Nat → Nat} (h : drB (n : Int) m G D = true) (hmon : mon m d) : irr n (cut m) d := by
 have h1 := (drB_all h).1
 have ho : okA (n : Int) m = true := by
  cases ho : okA (n : Int) m with
  | true => rfl
  | false => rw [flV_1 ho] at h1; cases h1
 have hm : monUp 4 m = true := by
  cases hm : monUp 4 m with
  | true => rfl
  | false => rw [flV_2 hm] at h1; cases h1
 rw [flV_3 ho hm] at h1
 obtain ⟨d2, hi⟩ := irB_iff.1 h1
 have e1 := hi.2.1.1
 have e2 := (mon_cut hmon).1
 have : d2 = d := by omega
 subst this; exact hi
theorem bzD_res {n d : Nat} {m y : Nat → Nat} (hp : n = 2 ∨ n = 3 ∨ n = 5 ∨ n = 7) (lm : ∀ k, k < 64 → m k < n) (hmon : mon m d) (hi : irr n (cut m) d) (hy : rsd n m y) (hy0 : 0 ≤ deg y) : eqN 64 (bzD n y m) oneP = true := by
 have hdm := hmon.1
 obtain ⟨a1, ⟨j, hj⟩, a3, a4⟩ := bz_all hp hy.1 lm (.inl hy0)
 obtain ⟨b1, b2⟩ := (a4 _).1 (dv_self (lz (bzD n y m)))
 have e1 : lz (cut m) = lz m := by funext k; unfold lz; rw [cut_cut]
 have hj0 : j = 0 := by
  rcases hi.2.2.2 _ j a1 hj (by rw [e1]; exact b2) with h | h
  · exact h
  have h2 := dv_deg hy.1 hj b1 hy0
  have h3 := hy.2
  omega
 subst hj0
 refine eqN_iff.2 fun k hk => ?_
 unfold oneP
 by_cases h : k = 0
 · subst h; rw [if_pos rfl]; exact hj.2
 rw [if_neg h]
 have := hj.1
 rcases deg_spec (bzD n y m) with ⟨h1, _⟩ | ⟨d2, _, h1, _, h5⟩
 · omega
 exact h5 k (by omega) hk
theorem deg_nz {D : Nat → Nat} (h : eqN 64 D (fun _ => 0) = false) : 0 ≤ deg D := by
 rw [eqN_zero] at h
 simp only [decide_eq_false_iff_not] at h
 omega
end Go.Proofs.Yteloknnooebabaa
namespace Go.Proofs.Yteloknnooebabaa
open Go Go.RowKit
attribute [local irreducible] deg irB monUp monB okA drB frN mmP pmP bzU
def twM (p : Nat) (m c : Nat → Nat) (k : Nat) : Nat → Nat := pmP p (bzU p c m) (p ^ k - 1) m
theorem twM_lt {p : Nat} {m c : Nat → Nat} {k : Nat} (hpr : p = 2 ∨ p = 3 ∨ p = 5 ∨ p = 7) (lm : ∀ k, k < 64 → m k < p) (h0 : 0 ≤ deg m) (hk : p ^ k - 1 < 2 ^ 64) : ∀ i, i < 64 → twM p m c k i < p := by
 obtain ⟨a, _, _⟩ := pmP_spec (k := p ^ k - 1) (a := bzU p c m) (m := m) hpr (fun i _ => bzU_lt (by omega) i) lm h0 hk
 exact a
def twC (p : Nat) (m G D c : Nat → Nat) : List Value := drC (p : Int) m (mmP p G (twM p m c 1) m) (mmP p D (twM p m c 2) m)
noncomputable def twV (p : Int) (m G D c : Nat → Nat) : List Value × Int :=
 if drCo p m G D [c] = 0 then (if eqN 64 c (fun _ => 0) = false ∧ deg c < deg m then (twC p.toNat m G D c, 0) else (drC 0 (fun _ => 0) (fun _ => 0) (fun _ => 0), 2)) else (drC 0 (fun _ => 0) (fun _ => 0) (fun _ => 0), 1)
theorem twV_1 {p : Int} {m G D c : Nat → Nat} (h : drCo p m G D [c] = 1) : twV p m G D c = (drC 0 (fun _ => 0) (fun _ => 0) (fun _ => 0), 1) := if_neg (by omega)
theorem twV_2 {p : Int} {m G D c : Nat → Nat} (h : drCo p m G D [c] = 0) (h2 : ¬ (eqN 64 c (fun _ => 0) = false ∧ deg c < deg m)) : twV p m G D c = (drC 0 (fun _ => 0) (fun _ => 0) (fun _ => 0), 2) := by unfold twV; rw [if_pos h, if_neg h2]
theorem twV_0 {n : Nat} {m G D c : Nat → Nat} (h : drCo (n : Int) m G D [c] = 0) (h2 : eqN 64 c (fun _ => 0) = false ∧ deg c < deg m) : twV (n : Int) m G D c = (twC n m G D c, 0) := by unfold twV; rw [if_pos h, if_pos h2]; rfl
theorem twV_dr (p : Int) (m G D c : Nat → Nat) : ∃ q m' G' D', (twV p m G D c).1 = drC q m' G' D' := by
 unfold twV twC
 split
 · split <;> exact ⟨_, _, _, _, rfl⟩
 exact ⟨_, _, _, _, rfl⟩
noncomputable def rzB (m c : Nat → Nat) : Bool := !eqN 64 c (fun _ => 0) && decide (deg c < deg m)
theorem rzB_z {m c : Nat → Nat} (h : eqN 64 c (fun _ => 0) = true) : rzB m c = false := by unfold rzB; rw [h]; rfl
theorem rzB_n {m c : Nat → Nat} (h : ¬ deg c < deg m) : rzB m c = false := by unfold rzB; rw [decide_eq_false h, Bool.and_false]
theorem rzB_t {m c : Nat → Nat} (h : eqN 64 c (fun _ => 0) = false) (h2 : deg c < deg m) : rzB m c = true := by unfold rzB; rw [h, decide_eq_true h2]; rfl
attribute [irreducible] twM twV twC rzB
attribute [local irreducible] drC
theorem twist_any (n : Nat) (m G D c : Nat → Nat) (w : World) (hpr : n = 2 ∨ n = 3 ∨ n = 5 ∨ n = 7) (lm : ∀ k, k < 64 → m k < n) (d : Nat) (hmon : mon m d) (hd1 : 1 ≤ d) (hd4 : d ≤ 4) (hi : irr n (cut m) d) (lG : ∀ k, k < 64 → G k < n) (lD : ∀ k, k < 64 → D k < n) (hc : rsd n m c) (hc0 : 0 ≤ deg c) :
 Calls Try.prog 161 #[.agg (drC (n : Int) m G D).toArray, .agg (zb 64 c)] w fun e w' => e = .returned (.agg (twC n m G D c).toArray) ∧ Below w.heap.size w w' := by
 have n2 : 2 ≤ n := by omega
 have hd := hmon.1
 have h0 : 0 ≤ deg m := by omega
 have h9 : deg m ≤ 9 := by omega
 have k1 : n ^ 1 < 2 ^ 64 := by rcases hpr with rfl | rfl | rfl | rfl <;> decide
 have k2 : n ^ 2 < 2 ^ 64 := by rcases hpr with rfl | rfl | rfl | rfl <;> decide
 have l1 := twM_lt (c := c) (k := 1) hpr lm h0 (by omega)
 have l2 := twM_lt (c := c) (k := 2) hpr lm h0 (by omega)
 have HFD := Lib.hid (fun W => drField_any (n : Int) m G D W)
 have HF1 := Lib.hid (fun W => kfrob_any n m c 1 W hpr lm d hd hd1 (by omega) (by omega) hc)
 have HF2 := Lib.hid (fun W => kfrob_any n m c 2 W hpr lm d hd hd1 (by omega) (by omega) hc)
 have HQ1 := Lib.hid (show ∀ W, Calls Try.prog 156 #[.agg (fdC (n : Int) m).toArray, .agg (zb 64 c), .agg (zb 64 (frN n m c (1 % d)))] W fun e w' => e = .returned (.agg (zb 64 (twM n m c 1))) ∧ Below W.heap.size W w' from fun W => by
  have h := quotient_any n m c (frN n m c (1 % d)) W hpr lm h0 hc.1 (frN_ok hpr lm h0 h9 hc (1 % d)).1.1
  rw [zbc (twist_eq hpr lm hmon hi (by omega) hc hc0 k1)] at h
  unfold twM; exact h)
 have HQ2 := Lib.hid (show ∀ W, Calls Try.prog 156 #[.agg (fdC (n : Int) m).toArray, .agg (zb 64 c), .agg (zb 64 (frN n m c (2 % d)))] W fun e w' => e = .returned (.agg (zb 64 (twM n m c 2))) ∧ Below W.heap.size W w' from fun W => by
  have h := quotient_any n m c (frN n m c (2 % d)) W hpr lm h0 hc.1 (frN_ok hpr lm h0 h9 hc (2 % d)).1.1
  rw [zbc (twist_eq hpr lm hmon hi (by omega) hc hc0 k2)] at h
  unfold twM; exact h)
 have HM1 := Lib.hid (fun W => kproduct_any n m G (twM n m c 1) W hpr lm h0 lG l1)
 have HM2 := Lib.hid (fun W => kproduct_any n m D (twM n m c 2) W hpr lm h0 lD l2)
 unfold twC
 clear l1 l2 k1 k2 hc hc0 hi hmon hd
 go_enter Try.func161, Try.ntmps161
 go_upto_region 1 with (fail)
 rw [← drC_zero]
 obtain ⟨W1, hwo⟩ : ∃ v : World, v = (((w.alloc (.cells (drC (n : Int) m G D).toArray 58)).alloc (.cells (zb 64 (c)) 24)).alloc (.cells (drC 0 (fun _ => 0) (fun _ => 0) (fun _ => 0)).toArray 58)) := ⟨_, rfl⟩
 have B0 : Row W1 (w.heap.size) 58 (drC (n : Int) m G D).toArray := by subst hwo; have := (((Row.new w 58 (drC (n : Int) m G D).toArray).alloc (.cells (zb 64 (c)) 24)).alloc (.cells (drC 0 (fun _ => 0) (fun _ => 0) (fun _ => 0)).toArray 58)); simpa using this
 have B1 : Blk W1 (w.heap.size + 1) 64 24 (c) := by subst hwo; have := ((Blk.new (w.alloc (.cells (drC (n : Int) m G D).toArray 58)) 64 24 (c)).alloc (.cells (drC 0 (fun _ => 0) (fun _ => 0) (fun _ => 0)).toArray 58)); simpa using this
 have B2 : Row W1 (w.heap.size + 1 + 1) 58 (drC 0 (fun _ => 0) (fun _ => 0) (fun _ => 0)).toArray := by subst hwo; have := (Row.new ((w.alloc (.cells (drC (n : Int) m G D).toArray 58)).alloc (.cells (zb 64 (c)) 24)) 58 (drC 0 (fun _ => 0) (fun _ => 0) (fun _ => 0)).toArray); simpa using this
 have hb : Below w.heap.size w W1 := by subst hwo; exact ((((Below.refl _ _).alloc (Nat.le_refl _) _).alloc (by simp) _).alloc (by simp; omega) _)
 rw [← hwo]
 clear hwo
 have lt_B0 := B0.lt
 have lt_B1 := B1.lt
 have lt_B2 := B2.lt
 go_upto_region 2 with (first | rw [← z64] | rw [← fdC_zero] | (refine zlr rfl 58 (.tmp 2) rfl _ rfl 58 (drC (n : Int) m G D).toArray (B0) _ Try.underlying58 rfl 193 Try.size58 (by simp [drC_len]) ?_) | (go_at_call 146; refine (HFD.out _).mono ?_; rintro e W2 ⟨rfl, hW2⟩; replace B0 := B0.zw hW2; replace B1 := B1.zw hW2; replace B2 := B2.zw hW2; replace hb := (hb).trans (hW2.mono (hb).size)) | (refine wpList_store_rowv rfl 96 (.tmp 5) (.tmp 7) rfl _ rfl (fdC (n : Int) m).toArray rfl 96 _ ((Row.new W2 96 (fdC 0 (fun _ => 0)).toArray)) 65 Try.size96 (by simp [fdC_len]) (by simp [fdC_len]) (fdC_all _ _) ?_; try simp only [Act.put]))
 have lt_B0 := B0.lt
 have lt_B1 := B1.lt
 have lt_B2 := B2.lt
 have lhb := hb.size
 obtain ⟨W3, hwo, hzQ⟩ : ∃ v : World, v = ((W2.alloc (.cells (fdC 0 (fun _ => 0)).toArray 96)).setRow (W2.heap.size) (fdC (n : Int) m).toArray) ∧ Row v (w.heap.size) 58 (drC (n : Int) m G D).toArray ∧ Blk v (w.heap.size + 1) 64 24 (c) ∧ Row v (w.heap.size + 1 + 1) 58 (drC 0 (fun _ => 0) (fun _ => 0) (fun _ => 0)).toArray ∧ Row v (W2.heap.size) 96 (fdC (n : Int) m).toArray ∧ Below w.heap.size w v := ⟨_, rfl, ((B0.alloc (.cells (fdC 0 (fun _ => 0)).toArray 96)).rowOther (by omega)), ((B1.alloc (.cells (fdC 0 (fun _ => 0)).toArray 96)).rowOther (by omega)), ((B2.alloc (.cells (fdC 0 (fun _ => 0)).toArray 96)).rowOther (by omega)), ((Row.new W2 96 (fdC 0 (fun _ => 0)).toArray).row (fdC (n : Int) m).toArray), (zr (hb.alloc (by have := hb.size; simp; omega) (.cells (fdC 0 (fun _ => 0)).toArray 96)) (by omega) _)⟩
 rw [← hwo]
 clear hwo B0 B1 B2 hb
 obtain ⟨B0, B1, B2, B3, hb⟩ := hzQ
 obtain ⟨N1, hNN⟩ : ∃ n : Nat, n = W2.heap.size := ⟨_, rfl⟩
 rw [← hNN] at lt_B0 lt_B1 lt_B2 lhb B3 ⊢
 clear hNN
 have zN1_0 := lt_B0
 have zN1_1 := lt_B1
 have zN1_2 := lt_B2
 have zN1 := lhb
 clear lt_B0 lt_B1 lt_B2 lhb
 try simp only [Act.put, pA, pB, pC]
 have lt_B0 : (w.heap.size) < W3.heap.size := B0.lt
 have lt_B1 : (w.heap.size + 1) < W3.heap.size := B1.lt
 have lt_B2 : (w.heap.size + 1 + 1) < W3.heap.size := B2.lt
 have lt_B3 : (N1) < W3.heap.size := B3.lt
 have hbase : w.heap.size ≤ W3.heap.size := hb.size
 refine zq Try.mixed (by kernel_rfl) (by kernel_rfl) (fun v => by (simp only [frL, Act.put, pA, pB, pC, Nat.reduceAdd, Nat.zero_add]; exact rfl))
  (fun L v W4 => Below w.heap.size w W4 ∧ Kx [w.heap.size] W3 W4 ∧ (∃ g : Array Value, g.size = 193 ∧ Row W4 (w.heap.size) 58 (g)) ∧ (L 11 = false → Row W4 (w.heap.size) 58 ((drC (n : Int) m G D).toArray)) ∧ (L 11 = true → Row W4 (w.heap.size) 58 ((drC (n : Int) m (mmP n G (twM n m c 1) m) D).toArray)) ∧ VF L v [some (.agg (fdC (n : Int) m).toArray), some (.pointer (some ⟨w.heap.size, 65, none⟩)), some (.agg (zb 64 (G))), some (.agg (fdC (n : Int) m).toArray), some (.agg (zb 64 (c))), some (.agg (fdC (n : Int) m).toArray), some (.agg (zb 64 (c))), some (.agg (zb 64 (frN n m c (1 % d)))), some (.agg (zb 64 (twM n m c 1))), some (.agg (zb 64 (mmP n G (twM n m c 1) m))), some (.pointer (some ⟨w.heap.size, 65, none⟩)), none]) ?_ ?_ ?_
 · intro v hv0
   exact ⟨hb.drew, Kx.start _ _, ⟨_, by simp [drC_len], B0.drew⟩, (fun _ => B0.drew), (fun h => by cases h), VF.start⟩
 · refine (.cons rfl ?_ (.cons rfl ?_ (.cons rfl ?_ (.cons rfl ?_ (.cons rfl ?_ (.cons rfl ?_ (.cons rfl ?_ (.cons rfl ?_ (.cons rfl ?_ (.cons rfl ?_ (.cons rfl ?_ (.cons rfl ?_ (.nil _)))))))))))))
   all_goals intro L v W4 hd hn ⟨hB, hX, x0, q0, n0, V⟩ K hK
   · refine wp_load_rowv 96 _ rfl _ rfl 96 _ (B3.kx hX (by simp <;> omega)) _ Try.underlying96 rfl 65 Try.size96 (by simp [fdC_len]) ?_
     exact hK _ _ _ rfl ⟨hB, hX, x0, q0, n0, V.step 0 rfl⟩
   · go_wp2_with fail
     exact hK _ (.pointer (some ⟨w.heap.size, 65, none⟩)) _ (by simp only [Act.put, pA, pB, pC ]) ⟨hB, hX, x0, q0, n0, V.step 1 rfl⟩
   · have e1 := V.at (zdq hd 1 rfl) rfl
     have s0 := q0 (by
      cases hL : L 11 with
      | false => rfl
      | true => exact absurd rfl (hn 11 _ rfl hL ⟨2, .phase⟩ (by simp) rfl))
     refine wp_load_mid 24 _ rfl _ 65 e1 _ _ (s0.drg) Try.underlying24 rfl (by rw [zl]; exact Try.size24) ?_
     exact hK _ _ _ rfl ⟨hB, hX, x0, q0, n0, V.step 2 rfl⟩
   · refine wp_load_rowv 96 _ rfl _ rfl 96 _ (B3.kx hX (by simp <;> omega)) _ Try.underlying96 rfl 65 Try.size96 (by simp [fdC_len]) ?_
     exact hK _ _ _ rfl ⟨hB, hX, x0, q0, n0, V.step 3 rfl⟩
   · refine wp_load_any 24 _ rfl _ rfl 64 24 _ (B1.kx hX (by simp <;> omega)) _ Try.underlying24 rfl Try.size24 ?_
     exact hK _ _ _ rfl ⟨hB, hX, x0, q0, n0, V.step 4 rfl⟩
   · refine wp_load_rowv 96 _ rfl _ rfl 96 _ (B3.kx hX (by simp <;> omega)) _ Try.underlying96 rfl 65 Try.size96 (by simp [fdC_len]) ?_
     exact hK _ _ _ rfl ⟨hB, hX, x0, q0, n0, V.step 5 rfl⟩
   · refine wp_load_any 24 _ rfl _ rfl 64 24 _ (B1.kx hX (by simp <;> omega)) _ Try.underlying24 rfl Try.size24 ?_
     exact hK _ _ _ rfl ⟨hB, hX, x0, q0, n0, V.step 6 rfl⟩
   · have e5 := V.at (zdq hd 5 rfl) rfl
     have e6 := V.at (zdq hd 6 rfl) rfl
     go_wp2_with (go_at_call 158; refine (HF1.out _).mono ?_; rintro e wy ⟨rfl, hy⟩)
     exact hK _ (.agg (zb 64 (frN n m c (1 % d)))) _ (by simp only [Act.put, pA, pB, pC, e5, e6]) ⟨hB.trans (hy.mono hB.size), hX.below hy, (let ⟨g, hg, h⟩ := x0; ⟨g, hg, h.zw hy⟩), (fun h => (q0 h).below hy (q0 h).lt), (fun h => (n0 h).below hy (n0 h).lt), V.step 7 rfl⟩
   · have e3 := V.at (zdq hd 3 rfl) rfl
     have e4 := V.at (zdq hd 4 rfl) rfl
     have e7 := V.at (zdq hd 7 rfl) rfl
     go_wp2_with (go_at_call 156; refine (HQ1.out _).mono ?_; rintro e wy ⟨rfl, hy⟩)
     exact hK _ (.agg (zb 64 (twM n m c 1))) _ (by simp only [Act.put, pA, pB, pC, e3, e4, e7]) ⟨hB.trans (hy.mono hB.size), hX.below hy, (let ⟨g, hg, h⟩ := x0; ⟨g, hg, h.zw hy⟩), (fun h => (q0 h).below hy (q0 h).lt), (fun h => (n0 h).below hy (n0 h).lt), V.step 8 rfl⟩
   · have e0 := V.at (zdq hd 0 rfl) rfl
     have e2 := V.at (zdq hd 2 rfl) rfl
     have e8 := V.at (zdq hd 8 rfl) rfl
     go_wp2_with (go_at_call 157; refine (HM1.out _).mono ?_; rintro e wy ⟨rfl, hy⟩)
     exact hK _ (.agg (zb 64 (mmP n G (twM n m c 1) m))) _ (by simp only [Act.put, pA, pB, pC, e0, e2, e8]) ⟨hB.trans (hy.mono hB.size), hX.below hy, (let ⟨g, hg, h⟩ := x0; ⟨g, hg, h.zw hy⟩), (fun h => (q0 h).below hy (q0 h).lt), (fun h => (n0 h).below hy (n0 h).lt), V.step 9 rfl⟩
   · go_wp2_with fail
     exact hK _ (.pointer (some ⟨w.heap.size, 65, none⟩)) _ (by simp only [Act.put, pA, pB, pC ]) ⟨hB, hX, x0, q0, n0, V.step 10 rfl⟩
   have e10 := V.at (zdq hd 10 rfl) rfl
   have e9 := V.at (zdq hd 9 rfl) rfl
   obtain ⟨gz, hgz, hk, hg⟩ : ∃ gz : Array Value, gz.size = 193 ∧ Row W4 (w.heap.size) 58 gz ∧ ((bl 64 (mmP n G (twM n m c 1) m)).zipIdx 0).foldl (fun (c : Array Value) (z : Value × Nat) => c.setIfInBounds (65 + z.2) z.1) gz = ((drC (n : Int) m (mmP n G (twM n m c 1) m) D).toArray) := by
    cases hL : L 11 with
    | false => exact ⟨_, by simp [drC_len], q0 hL, (drC_g _ _ _ _ _)⟩
    | true => exact ⟨_, by simp [drC_len], n0 hL, (drC_g _ _ _ _ _)⟩
   refine wp_store_part 24 _ _ rfl _ 65 (mmP n G (twM n m c 1) m) e10 e9 58 gz ((drC (n : Int) m (mmP n G (twM n m c 1) m) D).toArray) hk hg (by omega) Try.size24 ?_
   exact hK _ undef _ rfl ⟨zr hB (by omega) _, hX.row (by simp) _, ⟨_, by simp [drC_len], hk.row _⟩, (fun h => absurd h (by simp [setL])), (fun _ => hk.row _), V.skip 11 rfl⟩
 intro L v W4 hL ⟨hB, hX, x0, q0, n0, V⟩
 have r0 := n0 (hL 11 (by decide))
 have e0 := V.at (hL 0 (by decide)) rfl
 have e1 := V.at (hL 1 (by decide)) rfl
 have e2 := V.at (hL 2 (by decide)) rfl
 have e3 := V.at (hL 3 (by decide)) rfl
 have e4 := V.at (hL 4 (by decide)) rfl
 have e5 := V.at (hL 5 (by decide)) rfl
 have e6 := V.at (hL 6 (by decide)) rfl
 have e7 := V.at (hL 7 (by decide)) rfl
 have e8 := V.at (hL 8 (by decide)) rfl
 have e9 := V.at (hL 9 (by decide)) rfl
 have e10 := V.at (hL 10 (by decide)) rfl
 clear hL x0 q0 n0 V
 replace B1 := B1.kx hX (by simp <;> omega)
 replace B2 := B2.kx hX (by simp <;> omega)
 replace B3 := B3.kx hX (by simp <;> omega)
 clear hX
 simp only [Exit.then, e0, e1, e2, e3, e4, e5, e6, e7, e8, e9, e10]
 clear e0 e1 e2 e3 e4 e5 e6 e7 e8 e9 e10
 replace B0 := r0
 clear r0
 replace hb := hB
 clear hB
 clear hbase lt_B0 lt_B1 lt_B2 lt_B3
 go_upto_region 3 with (fail)
 have lt_B0 : (w.heap.size) < W4.heap.size := B0.lt
 have lt_B1 : (w.heap.size + 1) < W4.heap.size := B1.lt
 have lt_B2 : (w.heap.size + 1 + 1) < W4.heap.size := B2.lt
 have lt_B3 : (N1) < W4.heap.size := B3.lt
 have hbase : w.heap.size ≤ W4.heap.size := hb.size
 refine zq Try.mixed (by kernel_rfl) (by kernel_rfl) (fun v => by (simp only [frL, Act.put, pA, pB, pC, Nat.reduceAdd, Nat.zero_add]; exact rfl))
  (fun L v W5 => Below w.heap.size w W5 ∧ Kx [w.heap.size] W4 W5 ∧ (∃ g : Array Value, g.size = 193 ∧ Row W5 (w.heap.size) 58 (g)) ∧ (L 11 = false → Row W5 (w.heap.size) 58 ((drC (n : Int) m (mmP n G (twM n m c 1) m) D).toArray)) ∧ (L 11 = true → Row W5 (w.heap.size) 58 ((drC (n : Int) m (mmP n G (twM n m c 1) m) (mmP n D (twM n m c 2) m)).toArray)) ∧ VF L v [some (.agg (fdC (n : Int) m).toArray), some (.pointer (some ⟨w.heap.size, 129, none⟩)), some (.agg (zb 64 (D))), some (.agg (fdC (n : Int) m).toArray), some (.agg (zb 64 (c))), some (.agg (fdC (n : Int) m).toArray), some (.agg (zb 64 (c))), some (.agg (zb 64 (frN n m c (2 % d)))), some (.agg (zb 64 (twM n m c 2))), some (.agg (zb 64 (mmP n D (twM n m c 2) m))), some (.pointer (some ⟨w.heap.size, 129, none⟩)), none]) ?_ ?_ ?_
 · intro v hv0
   exact ⟨hb.drew, Kx.start _ _, ⟨_, by simp [drC_len], B0.drew⟩, (fun _ => B0.drew), (fun h => by cases h), VF.start⟩
 · refine (.cons rfl ?_ (.cons rfl ?_ (.cons rfl ?_ (.cons rfl ?_ (.cons rfl ?_ (.cons rfl ?_ (.cons rfl ?_ (.cons rfl ?_ (.cons rfl ?_ (.cons rfl ?_ (.cons rfl ?_ (.cons rfl ?_ (.nil _)))))))))))))
   all_goals intro L v W5 hd hn ⟨hB, hX, x0, q0, n0, V⟩ K hK
   · refine wp_load_rowv 96 _ rfl _ rfl 96 _ (B3.kx hX (by simp <;> omega)) _ Try.underlying96 rfl 65 Try.size96 (by simp [fdC_len]) ?_
     exact hK _ _ _ rfl ⟨hB, hX, x0, q0, n0, V.step 0 rfl⟩
   · go_wp2_with fail
     exact hK _ (.pointer (some ⟨w.heap.size, 129, none⟩)) _ (by simp only [Act.put, pA, pB, pC ]) ⟨hB, hX, x0, q0, n0, V.step 1 rfl⟩
   · have e1 := V.at (zdq hd 1 rfl) rfl
     have s0 := q0 (by
      cases hL : L 11 with
      | false => rfl
      | true => exact absurd rfl (hn 11 _ rfl hL ⟨2, .phase⟩ (by simp) rfl))
     refine wp_load_mid 24 _ rfl _ 129 e1 _ _ (s0.drd) Try.underlying24 rfl (by rw [zl]; exact Try.size24) ?_
     exact hK _ _ _ rfl ⟨hB, hX, x0, q0, n0, V.step 2 rfl⟩
   · refine wp_load_rowv 96 _ rfl _ rfl 96 _ (B3.kx hX (by simp <;> omega)) _ Try.underlying96 rfl 65 Try.size96 (by simp [fdC_len]) ?_
     exact hK _ _ _ rfl ⟨hB, hX, x0, q0, n0, V.step 3 rfl⟩
   · refine wp_load_any 24 _ rfl _ rfl 64 24 _ (B1.kx hX (by simp <;> omega)) _ Try.underlying24 rfl Try.size24 ?_
     exact hK _ _ _ rfl ⟨hB, hX, x0, q0, n0, V.step 4 rfl⟩
   · refine wp_load_rowv 96 _ rfl _ rfl 96 _ (B3.kx hX (by simp <;> omega)) _ Try.underlying96 rfl 65 Try.size96 (by simp [fdC_len]) ?_
     exact hK _ _ _ rfl ⟨hB, hX, x0, q0, n0, V.step 5 rfl⟩
   · refine wp_load_any 24 _ rfl _ rfl 64 24 _ (B1.kx hX (by simp <;> omega)) _ Try.underlying24 rfl Try.size24 ?_
     exact hK _ _ _ rfl ⟨hB, hX, x0, q0, n0, V.step 6 rfl⟩
   · have e5 := V.at (zdq hd 5 rfl) rfl
     have e6 := V.at (zdq hd 6 rfl) rfl
     go_wp2_with (go_at_call 158; refine (HF2.out _).mono ?_; rintro e wy ⟨rfl, hy⟩)
     exact hK _ (.agg (zb 64 (frN n m c (2 % d)))) _ (by simp only [Act.put, pA, pB, pC, e5, e6]) ⟨hB.trans (hy.mono hB.size), hX.below hy, (let ⟨g, hg, h⟩ := x0; ⟨g, hg, h.zw hy⟩), (fun h => (q0 h).below hy (q0 h).lt), (fun h => (n0 h).below hy (n0 h).lt), V.step 7 rfl⟩
   · have e3 := V.at (zdq hd 3 rfl) rfl
     have e4 := V.at (zdq hd 4 rfl) rfl
     have e7 := V.at (zdq hd 7 rfl) rfl
     go_wp2_with (go_at_call 156; refine (HQ2.out _).mono ?_; rintro e wy ⟨rfl, hy⟩)
     exact hK _ (.agg (zb 64 (twM n m c 2))) _ (by simp only [Act.put, pA, pB, pC, e3, e4, e7]) ⟨hB.trans (hy.mono hB.size), hX.below hy, (let ⟨g, hg, h⟩ := x0; ⟨g, hg, h.zw hy⟩), (fun h => (q0 h).below hy (q0 h).lt), (fun h => (n0 h).below hy (n0 h).lt), V.step 8 rfl⟩
   · have e0 := V.at (zdq hd 0 rfl) rfl
     have e2 := V.at (zdq hd 2 rfl) rfl
     have e8 := V.at (zdq hd 8 rfl) rfl
     go_wp2_with (go_at_call 157; refine (HM2.out _).mono ?_; rintro e wy ⟨rfl, hy⟩)
     exact hK _ (.agg (zb 64 (mmP n D (twM n m c 2) m))) _ (by simp only [Act.put, pA, pB, pC, e0, e2, e8]) ⟨hB.trans (hy.mono hB.size), hX.below hy, (let ⟨g, hg, h⟩ := x0; ⟨g, hg, h.zw hy⟩), (fun h => (q0 h).below hy (q0 h).lt), (fun h => (n0 h).below hy (n0 h).lt), V.step 9 rfl⟩
   · go_wp2_with fail
     exact hK _ (.pointer (some ⟨w.heap.size, 129, none⟩)) _ (by simp only [Act.put, pA, pB, pC ]) ⟨hB, hX, x0, q0, n0, V.step 10 rfl⟩
   have e10 := V.at (zdq hd 10 rfl) rfl
   have e9 := V.at (zdq hd 9 rfl) rfl
   obtain ⟨gz, hgz, hk, hg⟩ : ∃ gz : Array Value, gz.size = 193 ∧ Row W5 (w.heap.size) 58 gz ∧ ((bl 64 (mmP n D (twM n m c 2) m)).zipIdx 0).foldl (fun (c : Array Value) (z : Value × Nat) => c.setIfInBounds (129 + z.2) z.1) gz = ((drC (n : Int) m (mmP n G (twM n m c 1) m) (mmP n D (twM n m c 2) m)).toArray) := by
    cases hL : L 11 with
    | false => exact ⟨_, by simp [drC_len], q0 hL, (drC_d _ _ _ _ _)⟩
    | true => exact ⟨_, by simp [drC_len], n0 hL, (drC_d _ _ _ _ _)⟩
   refine wp_store_part 24 _ _ rfl _ 129 (mmP n D (twM n m c 2) m) e10 e9 58 gz ((drC (n : Int) m (mmP n G (twM n m c 1) m) (mmP n D (twM n m c 2) m)).toArray) hk hg (by omega) Try.size24 ?_
   exact hK _ undef _ rfl ⟨zr hB (by omega) _, hX.row (by simp) _, ⟨_, by simp [drC_len], hk.row _⟩, (fun h => absurd h (by simp [setL])), (fun _ => hk.row _), V.skip 11 rfl⟩
 intro L v W5 hL ⟨hB, hX, x0, q0, n0, V⟩
 have r0 := n0 (hL 11 (by decide))
 have e0 := V.at (hL 0 (by decide)) rfl
 have e1 := V.at (hL 1 (by decide)) rfl
 have e2 := V.at (hL 2 (by decide)) rfl
 have e3 := V.at (hL 3 (by decide)) rfl
 have e4 := V.at (hL 4 (by decide)) rfl
 have e5 := V.at (hL 5 (by decide)) rfl
 have e6 := V.at (hL 6 (by decide)) rfl
 have e7 := V.at (hL 7 (by decide)) rfl
 have e8 := V.at (hL 8 (by decide)) rfl
 have e9 := V.at (hL 9 (by decide)) rfl
 have e10 := V.at (hL 10 (by decide)) rfl
 clear hL x0 q0 n0 V
 replace B1 := B1.kx hX (by simp <;> omega)
 replace B2 := B2.kx hX (by simp <;> omega)
 replace B3 := B3.kx hX (by simp <;> omega)
 clear hX
 simp only [Exit.then, e0, e1, e2, e3, e4, e5, e6, e7, e8, e9, e10]
 clear e0 e1 e2 e3 e4 e5 e6 e7 e8 e9 e10
 replace B0 := r0
 clear r0
 replace hb := hB
 clear hB
 clear hbase lt_B0 lt_B1 lt_B2 lt_B3
 go_upto_region 4 with (fail)
 have lt_B0 := B0.lt
 have lt_B1 := B1.lt
 have lt_B2 := B2.lt
 have lt_B3 := B3.lt
 go_wp2_with (first | rw [← z64] | (refine zlr rfl 58 (.tmp 2) rfl _ rfl 58 (drC (n : Int) m (mmP n G (twM n m c 1) m) (mmP n D (twM n m c 2) m)).toArray (B0) _ Try.underlying58 rfl 193 Try.size58 (by simp [drC_len]) ?_) | (refine wpList_store_rowv rfl 58 (.tmp 4) (.tmp 30) rfl _ rfl (drC (n : Int) m (mmP n G (twM n m c 1) m) (mmP n D (twM n m c 2) m)).toArray rfl 58 _ (B2) 193 Try.size58 (by simp [drC_len]) (by simp [drC_len]) (drC_all _ _ _ _) ?_; try simp only [Act.put]))
 obtain ⟨W6, hwo, hzQ⟩ : ∃ v : World, v = (W5.setRow (w.heap.size + 1 + 1) (drC (n : Int) m (mmP n G (twM n m c 1) m) (mmP n D (twM n m c 2) m)).toArray) ∧ Row v (w.heap.size) 58 (drC (n : Int) m (mmP n G (twM n m c 1) m) (mmP n D (twM n m c 2) m)).toArray ∧ Blk v (w.heap.size + 1) 64 24 (c) ∧ Row v (w.heap.size + 1 + 1) 58 (drC (n : Int) m (mmP n G (twM n m c 1) m) (mmP n D (twM n m c 2) m)).toArray ∧ Row v (N1) 96 (fdC (n : Int) m).toArray ∧ Below w.heap.size w v := ⟨_, rfl, (B0.rowOther (by omega)), (B1.rowOther (by omega)), (B2.row (drC (n : Int) m (mmP n G (twM n m c 1) m) (mmP n D (twM n m c 2) m)).toArray), (B3.rowOther (by omega)), (zr hb (by omega) _)⟩
 rw [← hwo]
 clear hwo B0 B1 B2 B3 hb
 obtain ⟨B0, B1, B2, B3, hb⟩ := hzQ
 try simp only [Act.put, pA, pB, pC]
 refine bodyPost_ret (results_row rfl _ _ _ _ _ rfl B2 _ Try.underlying58 rfl (by rw [Try.size58]; simp [drC_len])) rfl ⟨rfl, hb⟩
theorem l06Twist_any (n : Nat) (m G D c : Nat → Nat) (w : World) (hpr : n = 2 ∨ n = 3 ∨ n = 5 ∨ n = 7) (lm : ∀ k, k < 64 → m k < n) (d : Nat) (hmon : mon m d) (hd1 : 1 ≤ d) (hd4 : d ≤ 4) (hi : irr n (cut m) d) (lG : ∀ k, k < 64 → G k < n) (lD : ∀ k, k < 64 → D k < n) (hc : rsd n m c) (hc0 : 0 ≤ deg c) :
 Calls Try.prog 160 #[.agg (drC (n : Int) m G D).toArray, .agg (zb 64 c)] w fun e w' => e = .returned (.agg (twC n m G D c).toArray) ∧ Below w.heap.size w w' := by
 have n2 : 2 ≤ n := by omega
 have hd := hmon.1
 have h0 : 0 ≤ deg m := by omega
 have h9 : deg m ≤ 9 := by omega
 have k1 : n ^ 1 < 2 ^ 64 := by rcases hpr with rfl | rfl | rfl | rfl <;> decide
 have k2 : n ^ 2 < 2 ^ 64 := by rcases hpr with rfl | rfl | rfl | rfl <;> decide
 have l1 := twM_lt (c := c) (k := 1) hpr lm h0 (by omega)
 have l2 := twM_lt (c := c) (k := 2) hpr lm h0 (by omega)
 obtain ⟨q1, hq1⟩ : ∃ q, q = n ^ 1 - 1 := ⟨_, rfl⟩
 obtain ⟨q2, hq2⟩ : ∃ q, q = n ^ 2 - 1 := ⟨_, rfl⟩
 obtain ⟨s, hs⟩ : ∃ s, s = n * n := ⟨_, rfl⟩
 have e1 : (n : Int) - 1 = (q1 : Int) := by rw [hq1, Nat.pow_one]; omega
 have e2 : (n : Int) * (n : Int) = (s : Int) := by rw [hs]; push_cast; rfl
 have hs1 : 1 ≤ s := by rw [hs]; exact Nat.mul_pos (by omega) (by omega)
 have hs9 : s ≤ 49 := by rw [hs]; exact Nat.mul_le_mul (show n ≤ 7 by omega) (show n ≤ 7 by omega)
 have e3 : (s : Int) - 1 = (q2 : Int) := by rw [hq2, show n ^ 2 = s by rw [hs, Nat.pow_two]]; omega
 have lb : ∀ i, i < 64 → bzU n c m i < n := fun i _ => bzU_lt (by omega) i
 have HIN := Lib.hid (fun W => l02Inverse_any n c m W hpr hc.1 lm d hmon (bzD_res hpr lm hmon hi hc hc0))
 have HP1 := Lib.hid (show ∀ W, Calls Try.prog 100 #[.int .i64 (n : Int), .agg (zb 64 (bzU n c m)), .int .i64 (q1 : Int), .agg (zb 64 m)] W fun e w' => e = .returned (.agg (zb 64 (twM n m c 1))) ∧ Below W.heap.size W w' from fun W => by
  have h := l01PowMod_any n (bzU n c m) q1 m W hpr lb lm h0 (by omega)
  unfold twM; rw [← hq1]; exact h)
 have HP2 := Lib.hid (show ∀ W, Calls Try.prog 100 #[.int .i64 (n : Int), .agg (zb 64 (bzU n c m)), .int .i64 (q2 : Int), .agg (zb 64 m)] W fun e w' => e = .returned (.agg (zb 64 (twM n m c 2))) ∧ Below W.heap.size W w' from fun W => by
  have h := l01PowMod_any n (bzU n c m) q2 m W hpr lb lm h0 (by omega)
  unfold twM; rw [← hq2]; exact h)
 have HT1 := Lib.hid (fun W => l06Times_any n m G D G (twM n m c 1) W hpr lm h0 lG l1)
 have HT2 := Lib.hid (fun W => l06Times_any n m G D D (twM n m c 2) W hpr lm h0 lD l2)
 unfold twC
 clear l1 l2 k1 k2 hc hc0 hi hmon hd hq1 hq2 hs lb
 go_enter Try.func160, Try.ntmps160
 go_upto_region 1 with (fail)
 rw [← drC_zero]
 obtain ⟨W1, hwo⟩ : ∃ v : World, v = (((w.alloc (.cells (drC (n : Int) m G D).toArray 58)).alloc (.cells (zb 64 (c)) 24)).alloc (.cells (drC 0 (fun _ => 0) (fun _ => 0) (fun _ => 0)).toArray 58)) := ⟨_, rfl⟩
 have B0 : Row W1 (w.heap.size) 58 (drC (n : Int) m G D).toArray := by subst hwo; have := (((Row.new w 58 (drC (n : Int) m G D).toArray).alloc (.cells (zb 64 (c)) 24)).alloc (.cells (drC 0 (fun _ => 0) (fun _ => 0) (fun _ => 0)).toArray 58)); simpa using this
 have B1 : Blk W1 (w.heap.size + 1) 64 24 (c) := by subst hwo; have := ((Blk.new (w.alloc (.cells (drC (n : Int) m G D).toArray 58)) 64 24 (c)).alloc (.cells (drC 0 (fun _ => 0) (fun _ => 0) (fun _ => 0)).toArray 58)); simpa using this
 have B2 : Row W1 (w.heap.size + 1 + 1) 58 (drC 0 (fun _ => 0) (fun _ => 0) (fun _ => 0)).toArray := by subst hwo; have := (Row.new ((w.alloc (.cells (drC (n : Int) m G D).toArray 58)).alloc (.cells (zb 64 (c)) 24)) 58 (drC 0 (fun _ => 0) (fun _ => 0) (fun _ => 0)).toArray); simpa using this
 have hb : Below w.heap.size w W1 := by subst hwo; exact ((((Below.refl _ _).alloc (Nat.le_refl _) _).alloc (by simp) _).alloc (by simp; omega) _)
 rw [← hwo]
 clear hwo
 have lt_B0 : (w.heap.size) < W1.heap.size := B0.lt
 have lt_B1 : (w.heap.size + 1) < W1.heap.size := B1.lt
 have lt_B2 : (w.heap.size + 1 + 1) < W1.heap.size := B2.lt
 refine zq Try.mixed (by kernel_rfl) (by kernel_rfl) (fun v => by (simp only [frL, Act.put, pA, pB, pC, Nat.reduceAdd, Nat.zero_add]; exact rfl))
  (fun L v W2 => Below W1.heap.size W1 W2 ∧ (L 8 = true → AF (v 8) W2 W1.heap.size 64 24) ∧ (L 10 = true → PF (v 8) W2 W1.heap.size 64 24 (bzU n c m)) ∧ VF L v [some (.pointer (some ⟨w.heap.size, 0, none⟩)), some (.int .i64 (n : Int)), some (.pointer (some ⟨w.heap.size, 0, none⟩)), some (.int .i64 (n : Int)), some (.agg (zb 64 (c))), some (.pointer (some ⟨w.heap.size, 1, none⟩)), some (.agg (zb 64 (m))), some (.agg (zb 64 (bzU n c m))), none, some (.int .i64 (n : Int)), none]) ?_ ?_ ?_
 · intro v hv0
   exact ⟨(Below.refl _ W1).drew, (fun h => by cases h), (fun h => by cases h), VF.start⟩
 · refine (.cons rfl ?_ (.cons rfl ?_ (.cons rfl ?_ (.cons rfl ?_ (.cons rfl ?_ (.cons rfl ?_ (.cons rfl ?_ (.cons rfl ?_ (.cons rfl ?_ (.cons rfl ?_ (.cons rfl ?_ (.nil _))))))))))))
   all_goals intro L v W2 hd hn ⟨hY, h8, h10, V⟩ K hK
   · go_wp2_with fail
     exact hK _ (.pointer (some ⟨w.heap.size, 0, none⟩)) _ (by simp only [Act.put, pA, pB, pC ]) ⟨hY, h8, h10, V.step 0 rfl⟩
   · have e0 := V.at (zdq hd 0 rfl) rfl
     refine wp_load_rowc 2 _ rfl _ 0 e0 58 _ (B0.zw hY) (.int .i64 (n : Int)) (drC_at _ _ _ _) _ Try.underlying2 rfl ?_
     exact hK _ _ _ rfl ⟨hY, h8, h10, V.step 1 rfl⟩
   · go_wp2_with fail
     exact hK _ (.pointer (some ⟨w.heap.size, 0, none⟩)) _ (by simp only [Act.put, pA, pB, pC ]) ⟨hY, h8, h10, V.step 2 rfl⟩
   · have e2 := V.at (zdq hd 2 rfl) rfl
     refine wp_load_rowc 2 _ rfl _ 0 e2 58 _ (B0.zw hY) (.int .i64 (n : Int)) (drC_at _ _ _ _) _ Try.underlying2 rfl ?_
     exact hK _ _ _ rfl ⟨hY, h8, h10, V.step 3 rfl⟩
   · refine zlc (B1.zw hY) Try.underlying24 Try.size24 ?_
     exact hK _ _ _ rfl ⟨hY, h8, h10, V.step 4 rfl⟩
   · go_wp2_with fail
     exact hK _ (.pointer (some ⟨w.heap.size, 1, none⟩)) _ (by simp only [Act.put, pA, pB, pC ]) ⟨hY, h8, h10, V.step 5 rfl⟩
   · have e5 := V.at (zdq hd 5 rfl) rfl
     refine wp_load_mid 24 _ rfl _ 1 e5 _ _ ((B0.zw hY).drm) Try.underlying24 rfl (by rw [zl]; exact Try.size24) ?_
     exact hK _ _ _ rfl ⟨hY, h8, h10, V.step 6 rfl⟩
   · have e3 := V.at (zdq hd 3 rfl) rfl
     have e4 := V.at (zdq hd 4 rfl) rfl
     have e6 := V.at (zdq hd 6 rfl) rfl
     go_wp2_with (go_at_call 155; refine (HIN.out _).mono ?_; rintro e wy ⟨rfl, hy⟩)
     exact hK _ (.agg (zb 64 (bzU n c m))) _ (by simp only [Act.put, pA, pB, pC, e3, e4, e6]) ⟨hY.trans (hy.mono hY.size), (fun h => (h8 h).below hy), (fun h => (h10 h).below hy), V.step 7 rfl⟩
   · go_wp2_with fail
     rw [← z64]
     exact hK _ (.pointer (some ⟨W2.heap.size, 0, none⟩)) _ (by simp only [Act.put, pA, pB, pC ]) ⟨hY.alloc hY.size _, (fun _ => (PF.new W2 64 24 _ hY.size).af), (fun h => absurd rfl (hn 10 _ rfl h ⟨8, .data⟩ (by simp) rfl)), V.skip 8 rfl⟩
   · have e1 := V.at (zdq hd 1 rfl) rfl
     go_wp2_with fail
     exact hK _ (.int .i64 (n : Int)) _ (by simp only [Act.put, pA, pB, pC, e1]) ⟨hY, h8, h10, V.step 9 rfl⟩
   have e7 := V.at (zdq hd 7 rfl) rfl
   obtain ⟨gz, b, ea, hN, hk⟩ := (h8 (zdq hd 8 rfl)).out
   refine zsb 24 _ _ rfl b 64 (bzU n c m) ea e7 24 gz hk Try.size24 ?_
   exact hK _ undef _ rfl ⟨zr hY hN _, (fun h => (h8 h).row hk), (fun _ => by rw [show updV v 10 undef 8 = v 8 from rfl, ea]; exact PF.row hk hN _), V.skip 10 rfl⟩
 intro L v W2 hL ⟨hY, h8, h10, V⟩
 obtain ⟨k1_8, e8, hNk1_8, hk1_8⟩ := (h10 (hL 10 (by decide))).out
 have e0 := V.at (hL 0 (by decide)) rfl
 have e1 := V.at (hL 1 (by decide)) rfl
 have e2 := V.at (hL 2 (by decide)) rfl
 have e3 := V.at (hL 3 (by decide)) rfl
 have e4 := V.at (hL 4 (by decide)) rfl
 have e5 := V.at (hL 5 (by decide)) rfl
 have e6 := V.at (hL 6 (by decide)) rfl
 have e7 := V.at (hL 7 (by decide)) rfl
 have e9 := V.at (hL 9 (by decide)) rfl
 clear hL h8 h10 V
 replace B0 := B0.zw hY
 replace B1 := B1.zw hY
 replace B2 := B2.zw hY
 replace hb := hb.trans (hY.mono hb.size)
 clear hY
 simp only [Exit.then, e8, e0, e1, e2, e3, e4, e5, e6, e7, e9]
 clear e8 e0 e1 e2 e3 e4 e5 e6 e7 e9
 have B3 := hk1_8
 clear hk1_8
 have zk1_8_0 : w.heap.size < k1_8 := by omega
 have zk1_8_1 : w.heap.size + 1 < k1_8 := by omega
 have zk1_8_2 : w.heap.size + 1 + 1 < k1_8 := by omega
 clear lt_B0 lt_B1 lt_B2
 go_upto_region 2 with (fail)
 have lt_B0 := B0.lt
 have lt_B1 := B1.lt
 have lt_B2 := B2.lt
 have lt_B3 := B3.lt
 go_upto_region 3 with (first | rw [← z64] | rw [← drC_zero] | (refine zlr rfl 58 (.tmp 2) rfl _ rfl 58 (drC (n : Int) m G D).toArray (B0) _ Try.underlying58 rfl 193 Try.size58 (by simp [drC_len]) ?_) | (refine wpList_store_rowv rfl 58 (.tmp 7) (.tmp 16) rfl _ rfl (drC (n : Int) m G D).toArray rfl 58 _ ((Row.new W2 58 (drC 0 (fun _ => 0) (fun _ => 0) (fun _ => 0)).toArray)) 193 Try.size58 (by simp [drC_len]) (by simp [drC_len]) (drC_all _ _ _ _) ?_; try simp only [Act.put]))
 have lt_B0 := B0.lt
 have lt_B1 := B1.lt
 have lt_B2 := B2.lt
 have lt_B3 := B3.lt
 have lhb := hb.size
 obtain ⟨W3, hwo, hzQ⟩ : ∃ v : World, v = ((W2.alloc (.cells (drC 0 (fun _ => 0) (fun _ => 0) (fun _ => 0)).toArray 58)).setRow (W2.heap.size) (drC (n : Int) m G D).toArray) ∧ Row v (w.heap.size) 58 (drC (n : Int) m G D).toArray ∧ Blk v (w.heap.size + 1) 64 24 (c) ∧ Row v (w.heap.size + 1 + 1) 58 (drC 0 (fun _ => 0) (fun _ => 0) (fun _ => 0)).toArray ∧ Blk v (k1_8) 64 24 (bzU n c m) ∧ Row v (W2.heap.size) 58 (drC (n : Int) m G D).toArray ∧ Below w.heap.size w v := ⟨_, rfl, ((B0.alloc (.cells (drC 0 (fun _ => 0) (fun _ => 0) (fun _ => 0)).toArray 58)).rowOther (by omega)), ((B1.alloc (.cells (drC 0 (fun _ => 0) (fun _ => 0) (fun _ => 0)).toArray 58)).rowOther (by omega)), ((B2.alloc (.cells (drC 0 (fun _ => 0) (fun _ => 0) (fun _ => 0)).toArray 58)).rowOther (by omega)), ((B3.alloc (.cells (drC 0 (fun _ => 0) (fun _ => 0) (fun _ => 0)).toArray 58)).rowOther (by omega)), ((Row.new W2 58 (drC 0 (fun _ => 0) (fun _ => 0) (fun _ => 0)).toArray).row (drC (n : Int) m G D).toArray), (zr (hb.alloc (by have := hb.size; simp; omega) (.cells (drC 0 (fun _ => 0) (fun _ => 0) (fun _ => 0)).toArray 58)) (by omega) _)⟩
 rw [← hwo]
 clear hwo B0 B1 B2 B3 hb
 obtain ⟨B0, B1, B2, B3, B4, hb⟩ := hzQ
 obtain ⟨N1, hNN⟩ : ∃ n : Nat, n = W2.heap.size := ⟨_, rfl⟩
 rw [← hNN] at lt_B0 lt_B1 lt_B2 lt_B3 lhb B4 ⊢
 clear hNN
 have zN1_0 := lt_B0
 have zN1_1 := lt_B1
 have zN1_2 := lt_B2
 have zN1_3 := lt_B3
 have zN1 := lhb
 clear lt_B0 lt_B1 lt_B2 lt_B3 lhb
 try simp only [Act.put, pA, pB, pC]
 have lt_B0 : (w.heap.size) < W3.heap.size := B0.lt
 have lt_B1 : (w.heap.size + 1) < W3.heap.size := B1.lt
 have lt_B2 : (w.heap.size + 1 + 1) < W3.heap.size := B2.lt
 have lt_B3 : (k1_8) < W3.heap.size := B3.lt
 have lt_B4 : (N1) < W3.heap.size := B4.lt
 have hbase : w.heap.size ≤ W3.heap.size := hb.size
 refine zq Try.mixed (by kernel_rfl) (by kernel_rfl) (fun v => by (simp only [frL, Act.put, pA, pB, pC, Nat.reduceAdd, Nat.zero_add]; exact rfl))
  (fun L v W4 => Below w.heap.size w W4 ∧ Kx [N1] W3 W4 ∧ (∃ g : Array Value, g.size = 193 ∧ Row W4 (N1) 58 (g)) ∧ (L 12 = false → Row W4 (N1) 58 ((drC (n : Int) m G D).toArray)) ∧ (L 12 = true → Row W4 (N1) 58 ((drC (n : Int) m (mmP n G (twM n m c 1) m) D).toArray)) ∧ VF L v [some (.agg (drC (n : Int) m G D).toArray), some (.pointer (some ⟨w.heap.size, 65, none⟩)), some (.agg (zb 64 (G))), some (.int .i64 (n : Int)), some (.agg (zb 64 (bzU n c m))), some (.int .i64 (n : Int)), some (.int .i64 (q1 : Int)), some (.pointer (some ⟨w.heap.size, 1, none⟩)), some (.agg (zb 64 (m))), some (.agg (zb 64 (twM n m c 1))), some (.agg (zb 64 (mmP n G (twM n m c 1) m))), some (.pointer (some ⟨N1, 65, none⟩)), none]) ?_ ?_ ?_
 · intro v hv0
   exact ⟨hb.drew, Kx.start _ _, ⟨_, by simp [drC_len], B4.drew⟩, (fun _ => B4.drew), (fun h => by cases h), VF.start⟩
 · refine (.cons rfl ?_ (.cons rfl ?_ (.cons rfl ?_ (.cons rfl ?_ (.cons rfl ?_ (.cons rfl ?_ (.cons rfl ?_ (.cons rfl ?_ (.cons rfl ?_ (.cons rfl ?_ (.cons rfl ?_ (.cons rfl ?_ (.cons rfl ?_ (.nil _))))))))))))))
   all_goals intro L v W4 hd hn ⟨hB, hX, x4, q4, n4, V⟩ K hK
   · refine wp_load_rowv 58 _ rfl _ rfl 58 _ (B0.kx hX (by simp <;> omega)) _ Try.underlying58 rfl 193 Try.size58 (by simp [drC_len]) ?_
     exact hK _ _ _ rfl ⟨hB, hX, x4, q4, n4, V.step 0 rfl⟩
   · go_wp2_with fail
     exact hK _ (.pointer (some ⟨w.heap.size, 65, none⟩)) _ (by simp only [Act.put, pA, pB, pC ]) ⟨hB, hX, x4, q4, n4, V.step 1 rfl⟩
   · have e1 := V.at (zdq hd 1 rfl) rfl
     refine wp_load_mid 24 _ rfl _ 65 e1 _ _ ((B0.kx hX (by simp <;> omega)).drg) Try.underlying24 rfl (by rw [zl]; exact Try.size24) ?_
     exact hK _ _ _ rfl ⟨hB, hX, x4, q4, n4, V.step 2 rfl⟩
   · go_wp2_with fail
     exact hK _ (.int .i64 (n : Int)) _ (by simp only [Act.put, pA, pB, pC ]) ⟨hB, hX, x4, q4, n4, V.step 3 rfl⟩
   · refine wp_load_any 24 _ rfl _ rfl 64 24 _ (B3.kx hX (by simp <;> omega)) _ Try.underlying24 rfl Try.size24 ?_
     exact hK _ _ _ rfl ⟨hB, hX, x4, q4, n4, V.step 4 rfl⟩
   · go_wp2_with fail
     exact hK _ (.int .i64 (n : Int)) _ (by simp only [Act.put, pA, pB, pC ]) ⟨hB, hX, x4, q4, n4, V.step 5 rfl⟩
   · have e5 := V.at (zdq hd 5 rfl) rfl
     go_wp2_with fail
     exact hK _ (.int .i64 (q1 : Int)) _ (by simp only [Act.put, pA, pB, pC, e5]) ⟨hB, hX, x4, q4, n4, V.step 6 rfl⟩
   · go_wp2_with fail
     exact hK _ (.pointer (some ⟨w.heap.size, 1, none⟩)) _ (by simp only [Act.put, pA, pB, pC ]) ⟨hB, hX, x4, q4, n4, V.step 7 rfl⟩
   · have e7 := V.at (zdq hd 7 rfl) rfl
     refine wp_load_mid 24 _ rfl _ 1 e7 _ _ ((B0.kx hX (by simp <;> omega)).drm) Try.underlying24 rfl (by rw [zl]; exact Try.size24) ?_
     exact hK _ _ _ rfl ⟨hB, hX, x4, q4, n4, V.step 8 rfl⟩
   · have e3 := V.at (zdq hd 3 rfl) rfl
     have e4 := V.at (zdq hd 4 rfl) rfl
     have e6 := V.at (zdq hd 6 rfl) rfl
     have e8 := V.at (zdq hd 8 rfl) rfl
     go_wp2_with (go_at_call 100; refine (HP1.out _).mono ?_; rintro e wy ⟨rfl, hy⟩)
     exact hK _ (.agg (zb 64 (twM n m c 1))) _ (by simp only [Act.put, pA, pB, pC, e3, e4, e6, e8]) ⟨hB.trans (hy.mono hB.size), hX.below hy, (let ⟨g, hg, h⟩ := x4; ⟨g, hg, h.zw hy⟩), (fun h => (q4 h).below hy (q4 h).lt), (fun h => (n4 h).below hy (n4 h).lt), V.step 9 rfl⟩
   · have e0 := V.at (zdq hd 0 rfl) rfl
     have e2 := V.at (zdq hd 2 rfl) rfl
     have e9 := V.at (zdq hd 9 rfl) rfl
     go_wp2_with (go_at_call 154; refine (HT1.out _).mono ?_; rintro e wy ⟨rfl, hy⟩)
     exact hK _ (.agg (zb 64 (mmP n G (twM n m c 1) m))) _ (by simp only [Act.put, pA, pB, pC, e0, e2, e9]) ⟨hB.trans (hy.mono hB.size), hX.below hy, (let ⟨g, hg, h⟩ := x4; ⟨g, hg, h.zw hy⟩), (fun h => (q4 h).below hy (q4 h).lt), (fun h => (n4 h).below hy (n4 h).lt), V.step 10 rfl⟩
   · go_wp2_with fail
     exact hK _ (.pointer (some ⟨N1, 65, none⟩)) _ (by simp only [Act.put, pA, pB, pC ]) ⟨hB, hX, x4, q4, n4, V.step 11 rfl⟩
   have e11 := V.at (zdq hd 11 rfl) rfl
   have e10 := V.at (zdq hd 10 rfl) rfl
   obtain ⟨gz, hgz, hk, hg⟩ : ∃ gz : Array Value, gz.size = 193 ∧ Row W4 (N1) 58 gz ∧ ((bl 64 (mmP n G (twM n m c 1) m)).zipIdx 0).foldl (fun (c : Array Value) (z : Value × Nat) => c.setIfInBounds (65 + z.2) z.1) gz = ((drC (n : Int) m (mmP n G (twM n m c 1) m) D).toArray) := by
    cases hL : L 12 with
    | false => exact ⟨_, by simp [drC_len], q4 hL, (drC_g _ _ _ _ _)⟩
    | true => exact ⟨_, by simp [drC_len], n4 hL, (drC_g _ _ _ _ _)⟩
   refine wp_store_part 24 _ _ rfl _ 65 (mmP n G (twM n m c 1) m) e11 e10 58 gz ((drC (n : Int) m (mmP n G (twM n m c 1) m) D).toArray) hk hg (by omega) Try.size24 ?_
   exact hK _ undef _ rfl ⟨zr hB (by omega) _, hX.row (by simp) _, ⟨_, by simp [drC_len], hk.row _⟩, (fun h => absurd h (by simp [setL])), (fun _ => hk.row _), V.skip 12 rfl⟩
 intro L v W4 hL ⟨hB, hX, x4, q4, n4, V⟩
 have r4 := n4 (hL 12 (by decide))
 have e0 := V.at (hL 0 (by decide)) rfl
 have e1 := V.at (hL 1 (by decide)) rfl
 have e2 := V.at (hL 2 (by decide)) rfl
 have e3 := V.at (hL 3 (by decide)) rfl
 have e4 := V.at (hL 4 (by decide)) rfl
 have e5 := V.at (hL 5 (by decide)) rfl
 have e6 := V.at (hL 6 (by decide)) rfl
 have e7 := V.at (hL 7 (by decide)) rfl
 have e8 := V.at (hL 8 (by decide)) rfl
 have e9 := V.at (hL 9 (by decide)) rfl
 have e10 := V.at (hL 10 (by decide)) rfl
 have e11 := V.at (hL 11 (by decide)) rfl
 clear hL x4 q4 n4 V
 replace B0 := B0.kx hX (by simp <;> omega)
 replace B1 := B1.kx hX (by simp <;> omega)
 replace B2 := B2.kx hX (by simp <;> omega)
 replace B3 := B3.kx hX (by simp <;> omega)
 clear hX
 simp only [Exit.then, e0, e1, e2, e3, e4, e5, e6, e7, e8, e9, e10, e11]
 clear e0 e1 e2 e3 e4 e5 e6 e7 e8 e9 e10 e11
 replace B4 := r4
 clear r4
 replace hb := hB
 clear hB
 clear hbase lt_B0 lt_B1 lt_B2 lt_B3 lt_B4
 go_upto_region 4 with (fail)
 have lt_B0 : (w.heap.size) < W4.heap.size := B0.lt
 have lt_B1 : (w.heap.size + 1) < W4.heap.size := B1.lt
 have lt_B2 : (w.heap.size + 1 + 1) < W4.heap.size := B2.lt
 have lt_B3 : (k1_8) < W4.heap.size := B3.lt
 have lt_B4 : (N1) < W4.heap.size := B4.lt
 have hbase : w.heap.size ≤ W4.heap.size := hb.size
 refine zq Try.mixed (by kernel_rfl) (by kernel_rfl) (fun v => by (simp only [frL, Act.put, pA, pB, pC, Nat.reduceAdd, Nat.zero_add]; exact rfl))
  (fun L v W5 => Below w.heap.size w W5 ∧ Kx [N1] W4 W5 ∧ (∃ g : Array Value, g.size = 193 ∧ Row W5 (N1) 58 (g)) ∧ (L 14 = false → Row W5 (N1) 58 ((drC (n : Int) m (mmP n G (twM n m c 1) m) D).toArray)) ∧ (L 14 = true → Row W5 (N1) 58 ((drC (n : Int) m (mmP n G (twM n m c 1) m) (mmP n D (twM n m c 2) m)).toArray)) ∧ VF L v [some (.agg (drC (n : Int) m G D).toArray), some (.pointer (some ⟨w.heap.size, 129, none⟩)), some (.agg (zb 64 (D))), some (.int .i64 (n : Int)), some (.agg (zb 64 (bzU n c m))), some (.int .i64 (n : Int)), some (.int .i64 (n : Int)), some (.int .i64 (s : Int)), some (.int .i64 (q2 : Int)), some (.pointer (some ⟨w.heap.size, 1, none⟩)), some (.agg (zb 64 (m))), some (.agg (zb 64 (twM n m c 2))), some (.agg (zb 64 (mmP n D (twM n m c 2) m))), some (.pointer (some ⟨N1, 129, none⟩)), none]) ?_ ?_ ?_
 · intro v hv0
   exact ⟨hb.drew, Kx.start _ _, ⟨_, by simp [drC_len], B4.drew⟩, (fun _ => B4.drew), (fun h => by cases h), VF.start⟩
 · refine (.cons rfl ?_ (.cons rfl ?_ (.cons rfl ?_ (.cons rfl ?_ (.cons rfl ?_ (.cons rfl ?_ (.cons rfl ?_ (.cons rfl ?_ (.cons rfl ?_ (.cons rfl ?_ (.cons rfl ?_ (.cons rfl ?_ (.cons rfl ?_ (.cons rfl ?_ (.cons rfl ?_ (.nil _))))))))))))))))
   all_goals intro L v W5 hd hn ⟨hB, hX, x4, q4, n4, V⟩ K hK
   · refine wp_load_rowv 58 _ rfl _ rfl 58 _ (B0.kx hX (by simp <;> omega)) _ Try.underlying58 rfl 193 Try.size58 (by simp [drC_len]) ?_
     exact hK _ _ _ rfl ⟨hB, hX, x4, q4, n4, V.step 0 rfl⟩
   · go_wp2_with fail
     exact hK _ (.pointer (some ⟨w.heap.size, 129, none⟩)) _ (by simp only [Act.put, pA, pB, pC ]) ⟨hB, hX, x4, q4, n4, V.step 1 rfl⟩
   · have e1 := V.at (zdq hd 1 rfl) rfl
     refine wp_load_mid 24 _ rfl _ 129 e1 _ _ ((B0.kx hX (by simp <;> omega)).drd) Try.underlying24 rfl (by rw [zl]; exact Try.size24) ?_
     exact hK _ _ _ rfl ⟨hB, hX, x4, q4, n4, V.step 2 rfl⟩
   · go_wp2_with fail
     exact hK _ (.int .i64 (n : Int)) _ (by simp only [Act.put, pA, pB, pC ]) ⟨hB, hX, x4, q4, n4, V.step 3 rfl⟩
   · refine wp_load_any 24 _ rfl _ rfl 64 24 _ (B3.kx hX (by simp <;> omega)) _ Try.underlying24 rfl Try.size24 ?_
     exact hK _ _ _ rfl ⟨hB, hX, x4, q4, n4, V.step 4 rfl⟩
   · go_wp2_with fail
     exact hK _ (.int .i64 (n : Int)) _ (by simp only [Act.put, pA, pB, pC ]) ⟨hB, hX, x4, q4, n4, V.step 5 rfl⟩
   · go_wp2_with fail
     exact hK _ (.int .i64 (n : Int)) _ (by simp only [Act.put, pA, pB, pC ]) ⟨hB, hX, x4, q4, n4, V.step 6 rfl⟩
   · have e5 := V.at (zdq hd 5 rfl) rfl
     have e6 := V.at (zdq hd 6 rfl) rfl
     go_wp2_with fail
     exact hK _ (.int .i64 (s : Int)) _ (by simp only [Act.put, pA, pB, pC, e5, e6]) ⟨hB, hX, x4, q4, n4, V.step 7 rfl⟩
   · have e7 := V.at (zdq hd 7 rfl) rfl
     go_wp2_with fail
     exact hK _ (.int .i64 (q2 : Int)) _ (by simp only [Act.put, pA, pB, pC, e7]) ⟨hB, hX, x4, q4, n4, V.step 8 rfl⟩
   · go_wp2_with fail
     exact hK _ (.pointer (some ⟨w.heap.size, 1, none⟩)) _ (by simp only [Act.put, pA, pB, pC ]) ⟨hB, hX, x4, q4, n4, V.step 9 rfl⟩
   · have e9 := V.at (zdq hd 9 rfl) rfl
     refine wp_load_mid 24 _ rfl _ 1 e9 _ _ ((B0.kx hX (by simp <;> omega)).drm) Try.underlying24 rfl (by rw [zl]; exact Try.size24) ?_
     exact hK _ _ _ rfl ⟨hB, hX, x4, q4, n4, V.step 10 rfl⟩
   · have e3 := V.at (zdq hd 3 rfl) rfl
     have e4 := V.at (zdq hd 4 rfl) rfl
     have e8 := V.at (zdq hd 8 rfl) rfl
     have e10 := V.at (zdq hd 10 rfl) rfl
     go_wp2_with (go_at_call 100; refine (HP2.out _).mono ?_; rintro e wy ⟨rfl, hy⟩)
     exact hK _ (.agg (zb 64 (twM n m c 2))) _ (by simp only [Act.put, pA, pB, pC, e3, e4, e8, e10]) ⟨hB.trans (hy.mono hB.size), hX.below hy, (let ⟨g, hg, h⟩ := x4; ⟨g, hg, h.zw hy⟩), (fun h => (q4 h).below hy (q4 h).lt), (fun h => (n4 h).below hy (n4 h).lt), V.step 11 rfl⟩
   · have e0 := V.at (zdq hd 0 rfl) rfl
     have e2 := V.at (zdq hd 2 rfl) rfl
     have e11 := V.at (zdq hd 11 rfl) rfl
     go_wp2_with (go_at_call 154; refine (HT2.out _).mono ?_; rintro e wy ⟨rfl, hy⟩)
     exact hK _ (.agg (zb 64 (mmP n D (twM n m c 2) m))) _ (by simp only [Act.put, pA, pB, pC, e0, e2, e11]) ⟨hB.trans (hy.mono hB.size), hX.below hy, (let ⟨g, hg, h⟩ := x4; ⟨g, hg, h.zw hy⟩), (fun h => (q4 h).below hy (q4 h).lt), (fun h => (n4 h).below hy (n4 h).lt), V.step 12 rfl⟩
   · go_wp2_with fail
     exact hK _ (.pointer (some ⟨N1, 129, none⟩)) _ (by simp only [Act.put, pA, pB, pC ]) ⟨hB, hX, x4, q4, n4, V.step 13 rfl⟩
   have e13 := V.at (zdq hd 13 rfl) rfl
   have e12 := V.at (zdq hd 12 rfl) rfl
   obtain ⟨gz, hgz, hk, hg⟩ : ∃ gz : Array Value, gz.size = 193 ∧ Row W5 (N1) 58 gz ∧ ((bl 64 (mmP n D (twM n m c 2) m)).zipIdx 0).foldl (fun (c : Array Value) (z : Value × Nat) => c.setIfInBounds (129 + z.2) z.1) gz = ((drC (n : Int) m (mmP n G (twM n m c 1) m) (mmP n D (twM n m c 2) m)).toArray) := by
    cases hL : L 14 with
    | false => exact ⟨_, by simp [drC_len], q4 hL, (drC_d _ _ _ _ _)⟩
    | true => exact ⟨_, by simp [drC_len], n4 hL, (drC_d _ _ _ _ _)⟩
   refine wp_store_part 24 _ _ rfl _ 129 (mmP n D (twM n m c 2) m) e13 e12 58 gz ((drC (n : Int) m (mmP n G (twM n m c 1) m) (mmP n D (twM n m c 2) m)).toArray) hk hg (by omega) Try.size24 ?_
   exact hK _ undef _ rfl ⟨zr hB (by omega) _, hX.row (by simp) _, ⟨_, by simp [drC_len], hk.row _⟩, (fun h => absurd h (by simp [setL])), (fun _ => hk.row _), V.skip 14 rfl⟩
 intro L v W5 hL ⟨hB, hX, x4, q4, n4, V⟩
 have r4 := n4 (hL 14 (by decide))
 have e0 := V.at (hL 0 (by decide)) rfl
 have e1 := V.at (hL 1 (by decide)) rfl
 have e2 := V.at (hL 2 (by decide)) rfl
 have e3 := V.at (hL 3 (by decide)) rfl
 have e4 := V.at (hL 4 (by decide)) rfl
 have e5 := V.at (hL 5 (by decide)) rfl
 have e6 := V.at (hL 6 (by decide)) rfl
 have e7 := V.at (hL 7 (by decide)) rfl
 have e8 := V.at (hL 8 (by decide)) rfl
 have e9 := V.at (hL 9 (by decide)) rfl
 have e10 := V.at (hL 10 (by decide)) rfl
 have e11 := V.at (hL 11 (by decide)) rfl
 have e12 := V.at (hL 12 (by decide)) rfl
 have e13 := V.at (hL 13 (by decide)) rfl
 clear hL x4 q4 n4 V
 replace B0 := B0.kx hX (by simp <;> omega)
 replace B1 := B1.kx hX (by simp <;> omega)
 replace B2 := B2.kx hX (by simp <;> omega)
 replace B3 := B3.kx hX (by simp <;> omega)
 clear hX
 simp only [Exit.then, e0, e1, e2, e3, e4, e5, e6, e7, e8, e9, e10, e11, e12, e13]
 clear e0 e1 e2 e3 e4 e5 e6 e7 e8 e9 e10 e11 e12 e13
 replace B4 := r4
 clear r4
 replace hb := hB
 clear hB
 clear hbase lt_B0 lt_B1 lt_B2 lt_B3 lt_B4
 go_upto_region 5 with (fail)
 have lt_B0 := B0.lt
 have lt_B1 := B1.lt
 have lt_B2 := B2.lt
 have lt_B3 := B3.lt
 have lt_B4 := B4.lt
 go_wp2_with (first | rw [← z64] | (refine zlr rfl 58 (.tmp 7) rfl _ rfl 58 (drC (n : Int) m (mmP n G (twM n m c 1) m) (mmP n D (twM n m c 2) m)).toArray (B4) _ Try.underlying58 rfl 193 Try.size58 (by simp [drC_len]) ?_) | (refine wpList_store_rowv rfl 58 (.tmp 4) (.tmp 43) rfl _ rfl (drC (n : Int) m (mmP n G (twM n m c 1) m) (mmP n D (twM n m c 2) m)).toArray rfl 58 _ (B2) 193 Try.size58 (by simp [drC_len]) (by simp [drC_len]) (drC_all _ _ _ _) ?_; try simp only [Act.put]))
 obtain ⟨W6, hwo, hzQ⟩ : ∃ v : World, v = (W5.setRow (w.heap.size + 1 + 1) (drC (n : Int) m (mmP n G (twM n m c 1) m) (mmP n D (twM n m c 2) m)).toArray) ∧ Row v (w.heap.size) 58 (drC (n : Int) m G D).toArray ∧ Blk v (w.heap.size + 1) 64 24 (c) ∧ Row v (w.heap.size + 1 + 1) 58 (drC (n : Int) m (mmP n G (twM n m c 1) m) (mmP n D (twM n m c 2) m)).toArray ∧ Blk v (k1_8) 64 24 (bzU n c m) ∧ Row v (N1) 58 (drC (n : Int) m (mmP n G (twM n m c 1) m) (mmP n D (twM n m c 2) m)).toArray ∧ Below w.heap.size w v := ⟨_, rfl, (B0.rowOther (by omega)), (B1.rowOther (by omega)), (B2.row (drC (n : Int) m (mmP n G (twM n m c 1) m) (mmP n D (twM n m c 2) m)).toArray), (B3.rowOther (by omega)), (B4.rowOther (by omega)), (zr hb (by omega) _)⟩
 rw [← hwo]
 clear hwo B0 B1 B2 B3 B4 hb
 obtain ⟨B0, B1, B2, B3, B4, hb⟩ := hzQ
 try simp only [Act.put, pA, pB, pC]
 refine bodyPost_ret (results_row rfl _ _ _ _ _ rfl B2 _ Try.underlying58 rfl (by rw [Try.size58]; simp [drC_len])) rfl ⟨rfl, hb⟩
theorem l06Residue_any (p : Int) (m G D c : Nat → Nat) (w : World) :
 Calls Try.prog 159 #[(.agg (drC p m G D).toArray), .agg (zb 64 c)] w fun e w' => e = .returned (.bool (rzB m c)) ∧ Below w.heap.size w w' := by
 go_enter Try.func159, Try.ntmps159
 go_upto_region 1 with (fail)
 obtain ⟨W1, hwo⟩ : ∃ v : World, v = ((w.alloc (.cells (drC p m G D).toArray 58)).alloc (.cells (zb 64 (c)) 24)) := ⟨_, rfl⟩
 have B0 : Row W1 (w.heap.size) 58 (drC p m G D).toArray := by subst hwo; have := ((Row.new w 58 (drC p m G D).toArray).alloc (.cells (zb 64 (c)) 24)); simpa using this
 have B1 : Blk W1 (w.heap.size + 1) 64 24 (c) := by subst hwo; have := (Blk.new (w.alloc (.cells (drC p m G D).toArray 58)) 64 24 (c)); simpa using this
 have hb : Below w.heap.size w W1 := by subst hwo; exact (((Below.refl _ _).alloc (Nat.le_refl _) _).alloc (by simp) _)
 rw [← hwo]
 clear hwo
 cases hz : eqN 64 c (fun _ => 0) with
 | true =>
  have HV := Lib.hid (rzB_z (m := m) hz)
  have hgd := Try.noGuard24
  have heq := fun W => zeb (P := Try.prog) W 9998 24 5 64 c (fun _ => 0) Try.underlying24 Try.underlying5 Try.size5
  rw [hz] at heq
  clear hz
  have lt_B0 : (w.heap.size) < W1.heap.size := B0.lt
  have lt_B1 : (w.heap.size + 1) < W1.heap.size := B1.lt
  have hbase : w.heap.size ≤ W1.heap.size := hb.size
  refine wp_region_stepsG Try.mixed (by kernel_rfl) (by kernel_rfl) (fun v => by (simp only [frL, Act.put, pA, pB, pC, Nat.reduceAdd, Nat.zero_add]; exact rfl))
   (fun L v W2 => Below w.heap.size w W2 ∧ W1.heap.size ≤ W2.heap.size ∧ Row W2 (w.heap.size) 58 (drC p m G D).toArray ∧ Blk W2 (w.heap.size + 1) 64 24 (c) ∧ VF L v [some (.agg (zb 64 (c))), some (.agg (zb 64 (fun _ => 0))), some (.bool false), some (.bool false), some undef, some undef, some undef, some undef, some undef, some undef, some (.bool false), some (.bool false)]) ?_ ?_ ?_
  · intro v hv0
    exact ⟨hb.drew, Nat.le_refl _, B0.drew, B1.drew, VF.start⟩
  · refine (.cons ?_ (.cons ?_ (.cons ?_ (.cons ?_ (.cons ?_ (.cons ?_ (.cons ?_ (.cons ?_ (.cons ?_ (.cons ?_ (.cons ?_ (.cons ?_ (.nil _)))))))))))))
    · intro L v W2 hd hn ⟨hB, hz, s0, s1, V⟩ K hK
      rw [if_pos (by simp [Region.wanted])]
      refine zlc s1 Try.underlying24 Try.size24 ?_
      exact hK _ _ _ rfl ⟨hB, hz, s0, s1, V.step 0 rfl⟩
    · intro L v W2 hd hn ⟨hB, hz, s0, s1, V⟩ K hK
      rw [if_pos (by simp [Region.wanted])]
      go_wp2_with fail
      rw [← z64]
      exact hK _ (.agg (zb 64 (fun _ => 0))) _ (by simp only [Act.put, pA, pB, pC ]) ⟨hB, hz, s0, s1, V.step 1 rfl⟩
    · intro L v W2 hd hn ⟨hB, hz, s0, s1, V⟩ K hK
      have e0 := V.at (zdq hd 0 rfl) rfl
      have e1 := V.at (zdq hd 1 rfl) rfl
      rw [if_pos (by simp [Region.wanted])]
      go_wp2_with fail
      exact hK _ (.bool false) _ (by simp only [Act.put, pA, pB, pC, e0, e1]) ⟨hB, hz, s0, s1, V.step 2 rfl⟩
    · intro L v W2 hd hn ⟨hB, hz, s0, s1, V⟩ K hK
      have e2 := V.at (zdq hd 2 rfl) rfl
      rw [if_pos (by simp [Region.wanted])]
      go_wp2_with fail
      exact hK _ (.bool false) _ (by simp only [Act.put, pA, pB, pC, e2]) ⟨hB, hz, s0, s1, V.step 3 rfl⟩
    · intro L v W2 hd hn ⟨hB, hz, s0, s1, V⟩ K hK
      have e3 := V.at (zdq hd 3 rfl) rfl
      rw [if_neg (by simp [Region.wanted, yielded, e3])]
      exact hK _ undef _ rfl ⟨hB, hz, s0, s1, V.step 4 rfl⟩
    · intro L v W2 hd hn ⟨hB, hz, s0, s1, V⟩ K hK
      have e4 := V.at (zdq hd 4 rfl) rfl
      have e3 := V.at (zdq hd 3 rfl) rfl
      rw [if_neg (by simp [Region.wanted, yielded, e3])]
      exact hK _ undef _ rfl ⟨hB, hz, s0, s1, V.step 5 rfl⟩
    · intro L v W2 hd hn ⟨hB, hz, s0, s1, V⟩ K hK
      have e3 := V.at (zdq hd 3 rfl) rfl
      rw [if_neg (by simp [Region.wanted, yielded, e3])]
      exact hK _ undef _ rfl ⟨hB, hz, s0, s1, V.step 6 rfl⟩
    · intro L v W2 hd hn ⟨hB, hz, s0, s1, V⟩ K hK
      have e6 := V.at (zdq hd 6 rfl) rfl
      have e3 := V.at (zdq hd 3 rfl) rfl
      rw [if_neg (by simp [Region.wanted, yielded, e3])]
      exact hK _ undef _ rfl ⟨hB, hz, s0, s1, V.step 7 rfl⟩
    · intro L v W2 hd hn ⟨hB, hz, s0, s1, V⟩ K hK
      have e7 := V.at (zdq hd 7 rfl) rfl
      have e3 := V.at (zdq hd 3 rfl) rfl
      rw [if_neg (by simp [Region.wanted, yielded, e3])]
      exact hK _ undef _ rfl ⟨hB, hz, s0, s1, V.step 8 rfl⟩
    · intro L v W2 hd hn ⟨hB, hz, s0, s1, V⟩ K hK
      have e5 := V.at (zdq hd 5 rfl) rfl
      have e8 := V.at (zdq hd 8 rfl) rfl
      have e3 := V.at (zdq hd 3 rfl) rfl
      rw [if_neg (by simp [Region.wanted, yielded, e3])]
      exact hK _ undef _ rfl ⟨hB, hz, s0, s1, V.step 9 rfl⟩
    · intro L v W2 hd hn ⟨hB, hz, s0, s1, V⟩ K hK
      have e3 := V.at (zdq hd 3 rfl) rfl
      have e9 := V.at (zdq hd 9 rfl) rfl
      rw [if_pos (by simp [Region.wanted])]
      go_wp2_with fail
      exact hK _ (.bool false) _ (by simp only [Act.put, pA, pB, pC, e3, e9]) ⟨hB, hz, s0, s1, V.step 10 rfl⟩
    intro L v W2 hd hn ⟨hB, hz, s0, s1, V⟩ K hK
    have e10 := V.at (zdq hd 10 rfl) rfl
    rw [if_pos (by simp [Region.wanted])]
    go_wp2_with fail
    exact hK _ (.bool false) _ (by simp only [Act.put, pA, pB, pC, e10]) ⟨hB, hz, s0, s1, V.step 11 rfl⟩
  intro L v W2 hL ⟨hB, hz, s0, s1, V⟩
  have e0 := V.at (hL 0 (by decide)) rfl
  have e1 := V.at (hL 1 (by decide)) rfl
  have e2 := V.at (hL 2 (by decide)) rfl
  have e3 := V.at (hL 3 (by decide)) rfl
  have e4 := V.at (hL 4 (by decide)) rfl
  have e5 := V.at (hL 5 (by decide)) rfl
  have e6 := V.at (hL 6 (by decide)) rfl
  have e7 := V.at (hL 7 (by decide)) rfl
  have e8 := V.at (hL 8 (by decide)) rfl
  have e9 := V.at (hL 9 (by decide)) rfl
  have e10 := V.at (hL 10 (by decide)) rfl
  have e11 := V.at (hL 11 (by decide)) rfl
  clear hL V
  simp only [Exit.then, e0, e1, e2, e3, e4, e5, e6, e7, e8, e9, e10, e11]
  clear e0 e1 e2 e3 e4 e5 e6 e7 e8 e9 e10 e11
  replace B0 := s0
  clear s0
  replace B1 := s1
  clear s1
  replace hb := hB
  clear hB
  clear hbase hz lt_B0 lt_B1
  go_wp2_with fail
  go_ret
  exact ⟨by rw [HV.out]; rfl, hb⟩
 | false =>
  have HV0 := Lib.hid hz
  have hgd := Try.noGuard24
  have heq := fun W => zeb (P := Try.prog) W 9998 24 5 64 c (fun _ => 0) Try.underlying24 Try.underlying5 Try.size5
  rw [hz] at heq
  clear hz
  by_cases hdx : deg c < deg m
  · have hgx : deg c < deg m := by omega
    have HV := Lib.hid (rzB_t HV0.out hdx)
    clear HV0
    have lt_B0 : (w.heap.size) < W1.heap.size := B0.lt
    have lt_B1 : (w.heap.size + 1) < W1.heap.size := B1.lt
    have hbase : w.heap.size ≤ W1.heap.size := hb.size
    refine wp_region_stepsG Try.mixed (by kernel_rfl) (by kernel_rfl) (fun v => by (simp only [frL, Act.put, pA, pB, pC, Nat.reduceAdd, Nat.zero_add]; exact rfl))
     (fun L v W2 => Below w.heap.size w W2 ∧ W1.heap.size ≤ W2.heap.size ∧ Row W2 (w.heap.size) 58 (drC p m G D).toArray ∧ Blk W2 (w.heap.size + 1) 64 24 (c) ∧ VF L v [some (.agg (zb 64 (c))), some (.agg (zb 64 (fun _ => 0))), some (.bool true), some (.bool true), some (.agg (zb 64 (c))), some (.int .i64 (deg c)), some (.pointer (some ⟨w.heap.size, 1, none⟩)), some (.agg (zb 64 (m))), some (.int .i64 (deg m)), some (.bool true), some (.bool true), some (.bool true)]) ?_ ?_ ?_
    · intro v hv0
      exact ⟨hb.drew, Nat.le_refl _, B0.drew, B1.drew, VF.start⟩
    · refine (.cons ?_ (.cons ?_ (.cons ?_ (.cons ?_ (.cons ?_ (.cons ?_ (.cons ?_ (.cons ?_ (.cons ?_ (.cons ?_ (.cons ?_ (.cons ?_ (.nil _)))))))))))))
      · intro L v W2 hd hn ⟨hB, hz, s0, s1, V⟩ K hK
        rw [if_pos (by simp [Region.wanted])]
        refine zlc s1 Try.underlying24 Try.size24 ?_
        exact hK _ _ _ rfl ⟨hB, hz, s0, s1, V.step 0 rfl⟩
      · intro L v W2 hd hn ⟨hB, hz, s0, s1, V⟩ K hK
        rw [if_pos (by simp [Region.wanted])]
        go_wp2_with fail
        rw [← z64]
        exact hK _ (.agg (zb 64 (fun _ => 0))) _ (by simp only [Act.put, pA, pB, pC ]) ⟨hB, hz, s0, s1, V.step 1 rfl⟩
      · intro L v W2 hd hn ⟨hB, hz, s0, s1, V⟩ K hK
        have e0 := V.at (zdq hd 0 rfl) rfl
        have e1 := V.at (zdq hd 1 rfl) rfl
        rw [if_pos (by simp [Region.wanted])]
        go_wp2_with fail
        exact hK _ (.bool true) _ (by simp only [Act.put, pA, pB, pC, e0, e1]) ⟨hB, hz, s0, s1, V.step 2 rfl⟩
      · intro L v W2 hd hn ⟨hB, hz, s0, s1, V⟩ K hK
        have e2 := V.at (zdq hd 2 rfl) rfl
        rw [if_pos (by simp [Region.wanted])]
        go_wp2_with fail
        exact hK _ (.bool true) _ (by simp only [Act.put, pA, pB, pC, e2]) ⟨hB, hz, s0, s1, V.step 3 rfl⟩
      · intro L v W2 hd hn ⟨hB, hz, s0, s1, V⟩ K hK
        have e3 := V.at (zdq hd 3 rfl) rfl
        rw [if_pos (by simp [Region.wanted, yielded, e3])]
        refine zlc s1 Try.underlying24 Try.size24 ?_
        exact hK _ _ _ rfl ⟨hB, hz, s0, s1, V.step 4 rfl⟩
      · intro L v W2 hd hn ⟨hB, hz, s0, s1, V⟩ K hK
        have e4 := V.at (zdq hd 4 rfl) rfl
        have e3 := V.at (zdq hd 3 rfl) rfl
        rw [if_pos (by simp [Region.wanted, yielded, e3])]
        go_wp2_with (go_at_call 124; refine (l01Deg_any c _).mono ?_; rintro e wy ⟨rfl, hy⟩)
        exact hK _ (.int .i64 (deg c)) _ (by simp only [Act.put, pA, pB, pC, e4, e3]) ⟨hB.trans (hy.mono hB.size), (Nat.le_trans hz hy.size), s0.zw hy, s1.zw hy, V.step 5 rfl⟩
      · intro L v W2 hd hn ⟨hB, hz, s0, s1, V⟩ K hK
        have e3 := V.at (zdq hd 3 rfl) rfl
        rw [if_pos (by simp [Region.wanted, yielded, e3])]
        go_wp2_with fail
        exact hK _ (.pointer (some ⟨w.heap.size, 1, none⟩)) _ (by simp only [Act.put, pA, pB, pC, e3]) ⟨hB, hz, s0, s1, V.step 6 rfl⟩
      · intro L v W2 hd hn ⟨hB, hz, s0, s1, V⟩ K hK
        have e6 := V.at (zdq hd 6 rfl) rfl
        have e3 := V.at (zdq hd 3 rfl) rfl
        rw [if_pos (by simp [Region.wanted, yielded, e3])]
        refine wp_load_mid 24 _ rfl _ 1 e6 _ _ (s0.drm) Try.underlying24 rfl (by rw [zl]; exact Try.size24) ?_
        exact hK _ _ _ rfl ⟨hB, hz, s0, s1, V.step 7 rfl⟩
      · intro L v W2 hd hn ⟨hB, hz, s0, s1, V⟩ K hK
        have e7 := V.at (zdq hd 7 rfl) rfl
        have e3 := V.at (zdq hd 3 rfl) rfl
        rw [if_pos (by simp [Region.wanted, yielded, e3])]
        go_wp2_with (go_at_call 124; refine (l01Deg_any m _).mono ?_; rintro e wy ⟨rfl, hy⟩)
        exact hK _ (.int .i64 (deg m)) _ (by simp only [Act.put, pA, pB, pC, e7, e3]) ⟨hB.trans (hy.mono hB.size), (Nat.le_trans hz hy.size), s0.zw hy, s1.zw hy, V.step 8 rfl⟩
      · intro L v W2 hd hn ⟨hB, hz, s0, s1, V⟩ K hK
        have e5 := V.at (zdq hd 5 rfl) rfl
        have e8 := V.at (zdq hd 8 rfl) rfl
        have e3 := V.at (zdq hd 3 rfl) rfl
        rw [if_pos (by simp [Region.wanted, yielded, e3])]
        go_wp2_with fail
        try rw [show decide (deg c < deg m) = true by simp; omega]
        exact hK _ (.bool true) _ (by simp only [Act.put, pA, pB, pC, e5, e8, e3]) ⟨hB, hz, s0, s1, V.step 9 rfl⟩
      · intro L v W2 hd hn ⟨hB, hz, s0, s1, V⟩ K hK
        have e3 := V.at (zdq hd 3 rfl) rfl
        have e9 := V.at (zdq hd 9 rfl) rfl
        rw [if_pos (by simp [Region.wanted])]
        go_wp2_with fail
        exact hK _ (.bool true) _ (by simp only [Act.put, pA, pB, pC, e3, e9]) ⟨hB, hz, s0, s1, V.step 10 rfl⟩
      intro L v W2 hd hn ⟨hB, hz, s0, s1, V⟩ K hK
      have e10 := V.at (zdq hd 10 rfl) rfl
      rw [if_pos (by simp [Region.wanted])]
      go_wp2_with fail
      exact hK _ (.bool true) _ (by simp only [Act.put, pA, pB, pC, e10]) ⟨hB, hz, s0, s1, V.step 11 rfl⟩
    intro L v W2 hL ⟨hB, hz, s0, s1, V⟩
    have e0 := V.at (hL 0 (by decide)) rfl
    have e1 := V.at (hL 1 (by decide)) rfl
    have e2 := V.at (hL 2 (by decide)) rfl
    have e3 := V.at (hL 3 (by decide)) rfl
    have e4 := V.at (hL 4 (by decide)) rfl
    have e5 := V.at (hL 5 (by decide)) rfl
    have e6 := V.at (hL 6 (by decide)) rfl
    have e7 := V.at (hL 7 (by decide)) rfl
    have e8 := V.at (hL 8 (by decide)) rfl
    have e9 := V.at (hL 9 (by decide)) rfl
    have e10 := V.at (hL 10 (by decide)) rfl
    have e11 := V.at (hL 11 (by decide)) rfl
    clear hL V
    simp only [Exit.then, e0, e1, e2, e3, e4, e5, e6, e7, e8, e9, e10, e11]
    clear e0 e1 e2 e3 e4 e5 e6 e7 e8 e9 e10 e11
    replace B0 := s0
    clear s0
    replace B1 := s1
    clear s1
    replace hb := hB
    clear hB
    clear hbase hz lt_B0 lt_B1
    go_wp2_with fail
    go_ret
    exact ⟨by rw [HV.out]; rfl, hb⟩
  have hgx : deg m ≤ deg c := by omega
  have HV := Lib.hid (rzB_n (c := c) hdx)
  clear HV0
  have lt_B0 : (w.heap.size) < W1.heap.size := B0.lt
  have lt_B1 : (w.heap.size + 1) < W1.heap.size := B1.lt
  have hbase : w.heap.size ≤ W1.heap.size := hb.size
  refine wp_region_stepsG Try.mixed (by kernel_rfl) (by kernel_rfl) (fun v => by (simp only [frL, Act.put, pA, pB, pC, Nat.reduceAdd, Nat.zero_add]; exact rfl))
   (fun L v W2 => Below w.heap.size w W2 ∧ W1.heap.size ≤ W2.heap.size ∧ Row W2 (w.heap.size) 58 (drC p m G D).toArray ∧ Blk W2 (w.heap.size + 1) 64 24 (c) ∧ VF L v [some (.agg (zb 64 (c))), some (.agg (zb 64 (fun _ => 0))), some (.bool true), some (.bool true), some (.agg (zb 64 (c))), some (.int .i64 (deg c)), some (.pointer (some ⟨w.heap.size, 1, none⟩)), some (.agg (zb 64 (m))), some (.int .i64 (deg m)), some (.bool false), some (.bool false), some (.bool false)]) ?_ ?_ ?_
  · intro v hv0
    exact ⟨hb.drew, Nat.le_refl _, B0.drew, B1.drew, VF.start⟩
  · refine (.cons ?_ (.cons ?_ (.cons ?_ (.cons ?_ (.cons ?_ (.cons ?_ (.cons ?_ (.cons ?_ (.cons ?_ (.cons ?_ (.cons ?_ (.cons ?_ (.nil _)))))))))))))
    · intro L v W2 hd hn ⟨hB, hz, s0, s1, V⟩ K hK
      rw [if_pos (by simp [Region.wanted])]
      refine zlc s1 Try.underlying24 Try.size24 ?_
      exact hK _ _ _ rfl ⟨hB, hz, s0, s1, V.step 0 rfl⟩
    · intro L v W2 hd hn ⟨hB, hz, s0, s1, V⟩ K hK
      rw [if_pos (by simp [Region.wanted])]
      go_wp2_with fail
      rw [← z64]
      exact hK _ (.agg (zb 64 (fun _ => 0))) _ (by simp only [Act.put, pA, pB, pC ]) ⟨hB, hz, s0, s1, V.step 1 rfl⟩
    · intro L v W2 hd hn ⟨hB, hz, s0, s1, V⟩ K hK
      have e0 := V.at (zdq hd 0 rfl) rfl
      have e1 := V.at (zdq hd 1 rfl) rfl
      rw [if_pos (by simp [Region.wanted])]
      go_wp2_with fail
      exact hK _ (.bool true) _ (by simp only [Act.put, pA, pB, pC, e0, e1]) ⟨hB, hz, s0, s1, V.step 2 rfl⟩
    · intro L v W2 hd hn ⟨hB, hz, s0, s1, V⟩ K hK
      have e2 := V.at (zdq hd 2 rfl) rfl
      rw [if_pos (by simp [Region.wanted])]
      go_wp2_with fail
      exact hK _ (.bool true) _ (by simp only [Act.put, pA, pB, pC, e2]) ⟨hB, hz, s0, s1, V.step 3 rfl⟩
    · intro L v W2 hd hn ⟨hB, hz, s0, s1, V⟩ K hK
      have e3 := V.at (zdq hd 3 rfl) rfl
      rw [if_pos (by simp [Region.wanted, yielded, e3])]
      refine zlc s1 Try.underlying24 Try.size24 ?_
      exact hK _ _ _ rfl ⟨hB, hz, s0, s1, V.step 4 rfl⟩
    · intro L v W2 hd hn ⟨hB, hz, s0, s1, V⟩ K hK
      have e4 := V.at (zdq hd 4 rfl) rfl
      have e3 := V.at (zdq hd 3 rfl) rfl
      rw [if_pos (by simp [Region.wanted, yielded, e3])]
      go_wp2_with (go_at_call 124; refine (l01Deg_any c _).mono ?_; rintro e wy ⟨rfl, hy⟩)
      exact hK _ (.int .i64 (deg c)) _ (by simp only [Act.put, pA, pB, pC, e4, e3]) ⟨hB.trans (hy.mono hB.size), (Nat.le_trans hz hy.size), s0.zw hy, s1.zw hy, V.step 5 rfl⟩
    · intro L v W2 hd hn ⟨hB, hz, s0, s1, V⟩ K hK
      have e3 := V.at (zdq hd 3 rfl) rfl
      rw [if_pos (by simp [Region.wanted, yielded, e3])]
      go_wp2_with fail
      exact hK _ (.pointer (some ⟨w.heap.size, 1, none⟩)) _ (by simp only [Act.put, pA, pB, pC, e3]) ⟨hB, hz, s0, s1, V.step 6 rfl⟩
    · intro L v W2 hd hn ⟨hB, hz, s0, s1, V⟩ K hK
      have e6 := V.at (zdq hd 6 rfl) rfl
      have e3 := V.at (zdq hd 3 rfl) rfl
      rw [if_pos (by simp [Region.wanted, yielded, e3])]
      refine wp_load_mid 24 _ rfl _ 1 e6 _ _ (s0.drm) Try.underlying24 rfl (by rw [zl]; exact Try.size24) ?_
      exact hK _ _ _ rfl ⟨hB, hz, s0, s1, V.step 7 rfl⟩
    · intro L v W2 hd hn ⟨hB, hz, s0, s1, V⟩ K hK
      have e7 := V.at (zdq hd 7 rfl) rfl
      have e3 := V.at (zdq hd 3 rfl) rfl
      rw [if_pos (by simp [Region.wanted, yielded, e3])]
      go_wp2_with (go_at_call 124; refine (l01Deg_any m _).mono ?_; rintro e wy ⟨rfl, hy⟩)
      exact hK _ (.int .i64 (deg m)) _ (by simp only [Act.put, pA, pB, pC, e7, e3]) ⟨hB.trans (hy.mono hB.size), (Nat.le_trans hz hy.size), s0.zw hy, s1.zw hy, V.step 8 rfl⟩
    · intro L v W2 hd hn ⟨hB, hz, s0, s1, V⟩ K hK
      have e5 := V.at (zdq hd 5 rfl) rfl
      have e8 := V.at (zdq hd 8 rfl) rfl
      have e3 := V.at (zdq hd 3 rfl) rfl
      rw [if_pos (by simp [Region.wanted, yielded, e3])]
      go_wp2_with fail
      try rw [show decide (deg c < deg m) = false by simp; omega]
      exact hK _ (.bool false) _ (by simp only [Act.put, pA, pB, pC, e5, e8, e3]) ⟨hB, hz, s0, s1, V.step 9 rfl⟩
    · intro L v W2 hd hn ⟨hB, hz, s0, s1, V⟩ K hK
      have e3 := V.at (zdq hd 3 rfl) rfl
      have e9 := V.at (zdq hd 9 rfl) rfl
      rw [if_pos (by simp [Region.wanted])]
      go_wp2_with fail
      exact hK _ (.bool false) _ (by simp only [Act.put, pA, pB, pC, e3, e9]) ⟨hB, hz, s0, s1, V.step 10 rfl⟩
    intro L v W2 hd hn ⟨hB, hz, s0, s1, V⟩ K hK
    have e10 := V.at (zdq hd 10 rfl) rfl
    rw [if_pos (by simp [Region.wanted])]
    go_wp2_with fail
    exact hK _ (.bool false) _ (by simp only [Act.put, pA, pB, pC, e10]) ⟨hB, hz, s0, s1, V.step 11 rfl⟩
  intro L v W2 hL ⟨hB, hz, s0, s1, V⟩
  have e0 := V.at (hL 0 (by decide)) rfl
  have e1 := V.at (hL 1 (by decide)) rfl
  have e2 := V.at (hL 2 (by decide)) rfl
  have e3 := V.at (hL 3 (by decide)) rfl
  have e4 := V.at (hL 4 (by decide)) rfl
  have e5 := V.at (hL 5 (by decide)) rfl
  have e6 := V.at (hL 6 (by decide)) rfl
  have e7 := V.at (hL 7 (by decide)) rfl
  have e8 := V.at (hL 8 (by decide)) rfl
  have e9 := V.at (hL 9 (by decide)) rfl
  have e10 := V.at (hL 10 (by decide)) rfl
  have e11 := V.at (hL 11 (by decide)) rfl
  clear hL V
  simp only [Exit.then, e0, e1, e2, e3, e4, e5, e6, e7, e8, e9, e10, e11]
  clear e0 e1 e2 e3 e4 e5 e6 e7 e8 e9 e10 e11
  replace B0 := s0
  clear s0
  replace B1 := s1
  clear s1
  replace hb := hB
  clear hB
  clear hbase hz lt_B0 lt_B1
  go_wp2_with fail
  go_ret
  exact ⟨by rw [HV.out]; rfl, hb⟩
theorem impl_TwistOf_any (p : Int) (m G D c : Nat → Nat) (hm : byte m) (hG : byte G) (hD : byte D) (hcb : byte c) (w : World) :
 Calls Try.prog 68 #[(.agg (drC p m G D).toArray), .agg (zb 64 c)] w fun e w' => e = .returned (.tuple #[.agg (twV p m G D c).1.toArray, .int .i64 (twV p m G D c).2]) ∧ Below w.heap.size w w' := by
 go_enter Try.func68, Try.ntmps68
 go_upto_region 1 with (fail)
 rw [← drC_zero]
 obtain ⟨W1, hwo⟩ : ∃ v : World, v = (((w.alloc (.cells (drC p m G D).toArray 58)).alloc (.cells (zb 64 (c)) 24)).alloc (.cells (drC 0 (fun _ => 0) (fun _ => 0) (fun _ => 0)).toArray 58)) := ⟨_, rfl⟩
 have B0 : Row W1 (w.heap.size) 58 (drC p m G D).toArray := by subst hwo; have := (((Row.new w 58 (drC p m G D).toArray).alloc (.cells (zb 64 (c)) 24)).alloc (.cells (drC 0 (fun _ => 0) (fun _ => 0) (fun _ => 0)).toArray 58)); simpa using this
 have B1 : Blk W1 (w.heap.size + 1) 64 24 (c) := by subst hwo; have := ((Blk.new (w.alloc (.cells (drC p m G D).toArray 58)) 64 24 (c)).alloc (.cells (drC 0 (fun _ => 0) (fun _ => 0) (fun _ => 0)).toArray 58)); simpa using this
 have B2 : Row W1 (w.heap.size + 1 + 1) 58 (drC 0 (fun _ => 0) (fun _ => 0) (fun _ => 0)).toArray := by subst hwo; have := (Row.new ((w.alloc (.cells (drC p m G D).toArray 58)).alloc (.cells (zb 64 (c)) 24)) 58 (drC 0 (fun _ => 0) (fun _ => 0) (fun _ => 0)).toArray); simpa using this
 have hb : Below w.heap.size w W1 := by subst hwo; exact ((((Below.refl _ _).alloc (Nat.le_refl _) _).alloc (by simp) _).alloc (by simp; omega) _)
 rw [← hwo]
 clear hwo
 rcases drCo_two p m G D [c] with hc | hc
 · obtain ⟨hdr, hcx⟩ := drCo_zero hc
   obtain ⟨hfl, hrg, hrd, hdz⟩ := drB_all hdr
   obtain ⟨n, rfl, hpr, lm, d, hmon, hd1, hd4⟩ := flV_fld hfl
   have hd := hmon.1
   have lx := lt_of_code hcx (f := c) (by simp)
   have hox := (codeL_zero hcx).2 c (by simp)
   have hGr := rsB_rsd hrg
   have hDr := rsB_rsd hrd
   have hi := drB_irr hdr hmon
   clear hdr hfl hrg hrd hdz hcx
   have HFD := Lib.hid (fun W => drField_any (n : Int) m G D W)
   have HRS := Lib.hid (fun W => isResidue_any (n : Int) m c hm hcb W)
   cases hz : eqN 64 c (fun _ => 0) with
   | true =>
    have HV := Lib.hid (twV_2 hc (fun h => by rw [hz] at h; cases h.1))
    have hgd := Try.noGuard24
    have heq := fun W => zeb (P := Try.prog) W 9998 24 5 64 c (fun _ => 0) Try.underlying24 Try.underlying5 Try.size5
    rw [hz] at heq
    clear hz
    go_upto_region 2 with (first | (refine zlr rfl 58 (.tmp 2) rfl _ rfl 58 (drC (n : Int) m G D).toArray (B0) _ Try.underlying58 rfl 193 Try.size58 (by simp [drC_len]) ?_) | (refine zla (.tmp 3) B1 Try.underlying24 Try.size24 ?_) | (refine wpList_build_polys rfl 40 _ [c] rfl 24 rfl Try.underlying40 Try.elem24 (by simp) (by simp) rfl ?_; intro wa hwa hps hba; clear hwa; replace B0 := B0.zw hba; replace B1 := B1.zw hba; replace B2 := B2.zw hba; replace hb := hb.trans (hba.mono hb.size)) | (go_at_call 149; refine (checkDrinfeld_any (n : Int) m G D hm hG hD [c] (by simp [hcb]) _ _ hps (by simp)).mono ?_; rintro e W8 ⟨rfl, hbb⟩; replace B0 := B0.zw hbb; replace B1 := B1.zw hbb; replace B2 := B2.zw hbb; replace hb := hb.trans (hbb.mono hb.size); rw [hc]))
    clear hc hox lx hd hmon hi hGr hDr
    go_upto_region 4 with (fail)
    have lt_B0 : (w.heap.size) < W8.heap.size := B0.lt
    have lt_B1 : (w.heap.size + 1) < W8.heap.size := B1.lt
    have lt_B2 : (w.heap.size + 1 + 1) < W8.heap.size := B2.lt
    have hbase : w.heap.size ≤ W8.heap.size := hb.size
    refine wp_region_stepsG Try.mixed (by kernel_rfl) (by kernel_rfl) (fun v => by (simp only [frL, Act.put, pA, pB, pC, Nat.reduceAdd, Nat.zero_add]; exact rfl))
     (fun L v W21 => Below w.heap.size w W21 ∧ W8.heap.size ≤ W21.heap.size ∧ Row W21 (w.heap.size) 58 (drC (n : Int) m G D).toArray ∧ Blk W21 (w.heap.size + 1) 64 24 (c) ∧ Row W21 (w.heap.size + 1 + 1) 58 (drC 0 (fun _ => 0) (fun _ => 0) (fun _ => 0)).toArray ∧ VF L v [some (.agg (zb 64 (c))), some (.agg (zb 64 (fun _ => 0))), some (.bool true), some (.bool true), some undef, some undef, some undef, some undef, some undef, some (.bool true)]) ?_ ?_ ?_
    · intro v hv0
      exact ⟨hb.drew, Nat.le_refl _, B0.drew, B1.drew, B2.drew, VF.start⟩
    · refine (.cons ?_ (.cons ?_ (.cons ?_ (.cons ?_ (.cons ?_ (.cons ?_ (.cons ?_ (.cons ?_ (.cons ?_ (.cons ?_ (.nil _)))))))))))
      · intro L v W21 hd hn ⟨hB, hz, s0, s1, s2, V⟩ K hK
        rw [if_pos (by simp [Region.wanted])]
        refine zlc s1 Try.underlying24 Try.size24 ?_
        exact hK _ _ _ rfl ⟨hB, hz, s0, s1, s2, V.step 0 rfl⟩
      · intro L v W21 hd hn ⟨hB, hz, s0, s1, s2, V⟩ K hK
        rw [if_pos (by simp [Region.wanted])]
        go_wp2_with fail
        rw [← z64]
        exact hK _ (.agg (zb 64 (fun _ => 0))) _ (by simp only [Act.put, pA, pB, pC ]) ⟨hB, hz, s0, s1, s2, V.step 1 rfl⟩
      · intro L v W21 hd hn ⟨hB, hz, s0, s1, s2, V⟩ K hK
        have e0 := V.at (zdq hd 0 rfl) rfl
        have e1 := V.at (zdq hd 1 rfl) rfl
        rw [if_pos (by simp [Region.wanted])]
        go_wp2_with fail
        exact hK _ (.bool true) _ (by simp only [Act.put, pA, pB, pC, e0, e1]) ⟨hB, hz, s0, s1, s2, V.step 2 rfl⟩
      · intro L v W21 hd hn ⟨hB, hz, s0, s1, s2, V⟩ K hK
        have e2 := V.at (zdq hd 2 rfl) rfl
        rw [if_pos (by simp [Region.wanted])]
        go_wp2_with fail
        exact hK _ (.bool true) _ (by simp only [Act.put, pA, pB, pC, e2]) ⟨hB, hz, s0, s1, s2, V.step 3 rfl⟩
      · intro L v W21 hd hn ⟨hB, hz, s0, s1, s2, V⟩ K hK
        have e3 := V.at (zdq hd 3 rfl) rfl
        rw [if_neg (by simp [Region.wanted, yielded, e3])]
        exact hK _ undef _ rfl ⟨hB, hz, s0, s1, s2, V.step 4 rfl⟩
      · intro L v W21 hd hn ⟨hB, hz, s0, s1, s2, V⟩ K hK
        have e4 := V.at (zdq hd 4 rfl) rfl
        have e3 := V.at (zdq hd 3 rfl) rfl
        rw [if_neg (by simp [Region.wanted, yielded, e3])]
        exact hK _ undef _ rfl ⟨hB, hz, s0, s1, s2, V.step 5 rfl⟩
      · intro L v W21 hd hn ⟨hB, hz, s0, s1, s2, V⟩ K hK
        have e3 := V.at (zdq hd 3 rfl) rfl
        rw [if_neg (by simp [Region.wanted, yielded, e3])]
        exact hK _ undef _ rfl ⟨hB, hz, s0, s1, s2, V.step 6 rfl⟩
      · intro L v W21 hd hn ⟨hB, hz, s0, s1, s2, V⟩ K hK
        have e5 := V.at (zdq hd 5 rfl) rfl
        have e6 := V.at (zdq hd 6 rfl) rfl
        have e3 := V.at (zdq hd 3 rfl) rfl
        rw [if_neg (by simp [Region.wanted, yielded, e3])]
        exact hK _ undef _ rfl ⟨hB, hz, s0, s1, s2, V.step 7 rfl⟩
      · intro L v W21 hd hn ⟨hB, hz, s0, s1, s2, V⟩ K hK
        have e7 := V.at (zdq hd 7 rfl) rfl
        have e3 := V.at (zdq hd 3 rfl) rfl
        rw [if_neg (by simp [Region.wanted, yielded, e3])]
        exact hK _ undef _ rfl ⟨hB, hz, s0, s1, s2, V.step 8 rfl⟩
      intro L v W21 hd hn ⟨hB, hz, s0, s1, s2, V⟩ K hK
      have e3 := V.at (zdq hd 3 rfl) rfl
      have e8 := V.at (zdq hd 8 rfl) rfl
      rw [if_pos (by simp [Region.wanted])]
      go_wp2_with fail
      exact hK _ (.bool true) _ (by simp only [Act.put, pA, pB, pC, e3, e8]) ⟨hB, hz, s0, s1, s2, V.step 9 rfl⟩
    intro L v W21 hL ⟨hB, hz, s0, s1, s2, V⟩
    have e0 := V.at (hL 0 (by decide)) rfl
    have e1 := V.at (hL 1 (by decide)) rfl
    have e2 := V.at (hL 2 (by decide)) rfl
    have e3 := V.at (hL 3 (by decide)) rfl
    have e4 := V.at (hL 4 (by decide)) rfl
    have e5 := V.at (hL 5 (by decide)) rfl
    have e6 := V.at (hL 6 (by decide)) rfl
    have e7 := V.at (hL 7 (by decide)) rfl
    have e8 := V.at (hL 8 (by decide)) rfl
    have e9 := V.at (hL 9 (by decide)) rfl
    clear hL V
    simp only [Exit.then, e0, e1, e2, e3, e4, e5, e6, e7, e8, e9]
    clear e0 e1 e2 e3 e4 e5 e6 e7 e8 e9
    replace B0 := s0
    clear s0
    replace B1 := s1
    clear s1
    replace B2 := s2
    clear s2
    replace hb := hB
    clear hB
    clear hbase hz lt_B0 lt_B1 lt_B2
    go_upto_region 5 with (fail)
    have lt_B0 := B0.lt
    have lt_B1 := B1.lt
    have lt_B2 := B2.lt
    go_wp2_with (first | rw [← z64] | rw [← drC_zero] | (refine wpList_store_rowv rfl 58 (.tmp 4) (.tmp 25) rfl _ rfl (drC 0 (fun _ => 0) (fun _ => 0) (fun _ => 0)).toArray rfl 58 _ (B2) 193 Try.size58 (by simp [drC_len]) (by simp [drC_len]) (drC_all _ _ _ _) ?_; try simp only [Act.put]; go_wp2_with fail))
    obtain ⟨W22, hwo, hzQ⟩ : ∃ v : World, v = (W21.setRow (w.heap.size + 1 + 1) (drC 0 (fun _ => 0) (fun _ => 0) (fun _ => 0)).toArray) ∧ Row v (w.heap.size) 58 (drC (n : Int) m G D).toArray ∧ Blk v (w.heap.size + 1) 64 24 (c) ∧ Row v (w.heap.size + 1 + 1) 58 (drC 0 (fun _ => 0) (fun _ => 0) (fun _ => 0)).toArray ∧ Below w.heap.size w v := ⟨_, rfl, (B0.rowOther (by omega)), (B1.rowOther (by omega)), (B2.row (drC 0 (fun _ => 0) (fun _ => 0) (fun _ => 0)).toArray), (zr hb (by omega) _)⟩
    rw [← hwo]
    clear hwo B0 B1 B2 hb
    obtain ⟨B0, B1, B2, hb⟩ := hzQ
    try simp only [Act.put, pA, pB, pC]
    refine bodyPost_ret (results_rowt rfl _ _ _ _ _ rfl B2 _ Try.underlying58 rfl (by rw [Try.size58]; simp [drC_len])) rfl ⟨by first | (rw [HV.out]; done) | (rw [HV.out]; rfl), hb⟩
   | false =>
    by_cases hdx : deg c < deg m
    · have HV := Lib.hid (twV_0 hc ⟨hz, hdx⟩)
      have hc0 := deg_nz hz
      have HTW := Lib.hid (fun W => twist_any n m G D c W hpr lm d hmon hd1 hd4 hi hGr.1 hDr.1 ⟨lx, hdx⟩ hc0)
      rw [show rsB (n : Int) m c = true from rsB_2 hox hdx] at HRS
      have hgd := Try.noGuard24
      have heq := fun W => zeb (P := Try.prog) W 9998 24 5 64 c (fun _ => 0) Try.underlying24 Try.underlying5 Try.size5
      rw [hz] at heq
      clear hz
      go_upto_region 2 with (first | (refine zlr rfl 58 (.tmp 2) rfl _ rfl 58 (drC (n : Int) m G D).toArray (B0) _ Try.underlying58 rfl 193 Try.size58 (by simp [drC_len]) ?_) | (refine zla (.tmp 3) B1 Try.underlying24 Try.size24 ?_) | (refine wpList_build_polys rfl 40 _ [c] rfl 24 rfl Try.underlying40 Try.elem24 (by simp) (by simp) rfl ?_; intro wa hwa hps hba; clear hwa; replace B0 := B0.zw hba; replace B1 := B1.zw hba; replace B2 := B2.zw hba; replace hb := hb.trans (hba.mono hb.size)) | (go_at_call 149; refine (checkDrinfeld_any (n : Int) m G D hm hG hD [c] (by simp [hcb]) _ _ hps (by simp)).mono ?_; rintro e W8 ⟨rfl, hbb⟩; replace B0 := B0.zw hbb; replace B1 := B1.zw hbb; replace B2 := B2.zw hbb; replace hb := hb.trans (hbb.mono hb.size); rw [hc]))
      clear hc hox lx hd hmon hi hGr hDr hc0
      go_upto_region 4 with (fail)
      have lt_B0 : (w.heap.size) < W8.heap.size := B0.lt
      have lt_B1 : (w.heap.size + 1) < W8.heap.size := B1.lt
      have lt_B2 : (w.heap.size + 1 + 1) < W8.heap.size := B2.lt
      have hbase : w.heap.size ≤ W8.heap.size := hb.size
      refine wp_region_stepsG Try.mixed (by kernel_rfl) (by kernel_rfl) (fun v => by (simp only [frL, Act.put, pA, pB, pC, Nat.reduceAdd, Nat.zero_add]; exact rfl))
       (fun L v W21 => Below w.heap.size w W21 ∧ W8.heap.size ≤ W21.heap.size ∧ Row W21 (w.heap.size) 58 (drC (n : Int) m G D).toArray ∧ Blk W21 (w.heap.size + 1) 64 24 (c) ∧ Row W21 (w.heap.size + 1 + 1) 58 (drC 0 (fun _ => 0) (fun _ => 0) (fun _ => 0)).toArray ∧ VF L v [some (.agg (zb 64 (c))), some (.agg (zb 64 (fun _ => 0))), some (.bool false), some (.bool false), some (.agg (drC (n : Int) m G D).toArray), some (.agg (fdC (n : Int) m).toArray), some (.agg (zb 64 (c))), some (.bool true), some (.bool false), some (.bool false)]) ?_ ?_ ?_
      · intro v hv0
        exact ⟨hb.drew, Nat.le_refl _, B0.drew, B1.drew, B2.drew, VF.start⟩
      · refine (.cons ?_ (.cons ?_ (.cons ?_ (.cons ?_ (.cons ?_ (.cons ?_ (.cons ?_ (.cons ?_ (.cons ?_ (.cons ?_ (.nil _)))))))))))
        · intro L v W21 hd hn ⟨hB, hz, s0, s1, s2, V⟩ K hK
          rw [if_pos (by simp [Region.wanted])]
          refine zlc s1 Try.underlying24 Try.size24 ?_
          exact hK _ _ _ rfl ⟨hB, hz, s0, s1, s2, V.step 0 rfl⟩
        · intro L v W21 hd hn ⟨hB, hz, s0, s1, s2, V⟩ K hK
          rw [if_pos (by simp [Region.wanted])]
          go_wp2_with fail
          rw [← z64]
          exact hK _ (.agg (zb 64 (fun _ => 0))) _ (by simp only [Act.put, pA, pB, pC ]) ⟨hB, hz, s0, s1, s2, V.step 1 rfl⟩
        · intro L v W21 hd hn ⟨hB, hz, s0, s1, s2, V⟩ K hK
          have e0 := V.at (zdq hd 0 rfl) rfl
          have e1 := V.at (zdq hd 1 rfl) rfl
          rw [if_pos (by simp [Region.wanted])]
          go_wp2_with fail
          exact hK _ (.bool false) _ (by simp only [Act.put, pA, pB, pC, e0, e1]) ⟨hB, hz, s0, s1, s2, V.step 2 rfl⟩
        · intro L v W21 hd hn ⟨hB, hz, s0, s1, s2, V⟩ K hK
          have e2 := V.at (zdq hd 2 rfl) rfl
          rw [if_pos (by simp [Region.wanted])]
          go_wp2_with fail
          exact hK _ (.bool false) _ (by simp only [Act.put, pA, pB, pC, e2]) ⟨hB, hz, s0, s1, s2, V.step 3 rfl⟩
        · intro L v W21 hd hn ⟨hB, hz, s0, s1, s2, V⟩ K hK
          have e3 := V.at (zdq hd 3 rfl) rfl
          rw [if_pos (by simp [Region.wanted, yielded, e3])]
          refine wp_load_rowv 58 _ rfl _ rfl 58 _ s0 _ Try.underlying58 rfl 193 Try.size58 (by simp [drC_len]) ?_
          exact hK _ _ _ rfl ⟨hB, hz, s0, s1, s2, V.step 4 rfl⟩
        · intro L v W21 hd hn ⟨hB, hz, s0, s1, s2, V⟩ K hK
          have e4 := V.at (zdq hd 4 rfl) rfl
          have e3 := V.at (zdq hd 3 rfl) rfl
          rw [if_pos (by simp [Region.wanted, yielded, e3])]
          go_wp2_with (go_at_call 146; refine (HFD.out _).mono ?_; rintro e wy ⟨rfl, hy⟩)
          exact hK _ (.agg (fdC (n : Int) m).toArray) _ (by simp only [Act.put, pA, pB, pC, e4, e3]) ⟨hB.trans (hy.mono hB.size), (Nat.le_trans hz hy.size), s0.zw hy, s1.zw hy, s2.zw hy, V.step 5 rfl⟩
        · intro L v W21 hd hn ⟨hB, hz, s0, s1, s2, V⟩ K hK
          have e3 := V.at (zdq hd 3 rfl) rfl
          rw [if_pos (by simp [Region.wanted, yielded, e3])]
          refine zlc s1 Try.underlying24 Try.size24 ?_
          exact hK _ _ _ rfl ⟨hB, hz, s0, s1, s2, V.step 6 rfl⟩
        · intro L v W21 hd hn ⟨hB, hz, s0, s1, s2, V⟩ K hK
          have e5 := V.at (zdq hd 5 rfl) rfl
          have e6 := V.at (zdq hd 6 rfl) rfl
          have e3 := V.at (zdq hd 3 rfl) rfl
          rw [if_pos (by simp [Region.wanted, yielded, e3])]
          go_wp2_with (go_at_call 114; refine (HRS.out _).mono ?_; rintro e wy ⟨rfl, hy⟩)
          exact hK _ (.bool true) _ (by simp only [Act.put, pA, pB, pC, e5, e6, e3]) ⟨hB.trans (hy.mono hB.size), (Nat.le_trans hz hy.size), s0.zw hy, s1.zw hy, s2.zw hy, V.step 7 rfl⟩
        · intro L v W21 hd hn ⟨hB, hz, s0, s1, s2, V⟩ K hK
          have e7 := V.at (zdq hd 7 rfl) rfl
          have e3 := V.at (zdq hd 3 rfl) rfl
          rw [if_pos (by simp [Region.wanted, yielded, e3])]
          go_wp2_with fail
          exact hK _ (.bool false) _ (by simp only [Act.put, pA, pB, pC, e7, e3]) ⟨hB, hz, s0, s1, s2, V.step 8 rfl⟩
        intro L v W21 hd hn ⟨hB, hz, s0, s1, s2, V⟩ K hK
        have e3 := V.at (zdq hd 3 rfl) rfl
        have e8 := V.at (zdq hd 8 rfl) rfl
        rw [if_pos (by simp [Region.wanted])]
        go_wp2_with fail
        exact hK _ (.bool false) _ (by simp only [Act.put, pA, pB, pC, e3, e8]) ⟨hB, hz, s0, s1, s2, V.step 9 rfl⟩
      intro L v W21 hL ⟨hB, hz, s0, s1, s2, V⟩
      have e0 := V.at (hL 0 (by decide)) rfl
      have e1 := V.at (hL 1 (by decide)) rfl
      have e2 := V.at (hL 2 (by decide)) rfl
      have e3 := V.at (hL 3 (by decide)) rfl
      have e4 := V.at (hL 4 (by decide)) rfl
      have e5 := V.at (hL 5 (by decide)) rfl
      have e6 := V.at (hL 6 (by decide)) rfl
      have e7 := V.at (hL 7 (by decide)) rfl
      have e8 := V.at (hL 8 (by decide)) rfl
      have e9 := V.at (hL 9 (by decide)) rfl
      clear hL V
      simp only [Exit.then, e0, e1, e2, e3, e4, e5, e6, e7, e8, e9]
      clear e0 e1 e2 e3 e4 e5 e6 e7 e8 e9
      replace B0 := s0
      clear s0
      replace B1 := s1
      clear s1
      replace B2 := s2
      clear s2
      replace hb := hB
      clear hB
      clear hbase hz lt_B0 lt_B1 lt_B2
      go_upto_region 6 with (fail)
      clear heq hgd
      unfold twC at HTW
      have lt_B0 := B0.lt
      have lt_B1 := B1.lt
      have lt_B2 := B2.lt
      go_wp2_with (first | rw [← z64] | (refine zlr rfl 58 (.tmp 2) rfl _ rfl 58 (drC (n : Int) m G D).toArray (B0) _ Try.underlying58 rfl 193 Try.size58 (by simp [drC_len]) ?_) | (refine zla (.tmp 3) B1 Try.underlying24 Try.size24 ?_) | (go_at_call 161; refine (HTW.out _).mono ?_; rintro e W22 ⟨rfl, hW22⟩; replace B0 := B0.zw hW22; replace B1 := B1.zw hW22; replace B2 := B2.zw hW22; replace hb := (hb).trans (hW22.mono (hb).size)) | (refine wpList_store_rowv rfl 58 (.tmp 4) (.tmp 28) rfl _ rfl (drC (n : Int) m (mmP n G (twM n m c 1) m) (mmP n D (twM n m c 2) m)).toArray rfl 58 _ (B2) 193 Try.size58 (by simp [drC_len]) (by simp [drC_len]) (drC_all _ _ _ _) ?_; try simp only [Act.put]; go_wp2_with fail))
      obtain ⟨W23, hwo, hzQ⟩ : ∃ v : World, v = (W22.setRow (w.heap.size + 1 + 1) (drC (n : Int) m (mmP n G (twM n m c 1) m) (mmP n D (twM n m c 2) m)).toArray) ∧ Row v (w.heap.size) 58 (drC (n : Int) m G D).toArray ∧ Blk v (w.heap.size + 1) 64 24 (c) ∧ Row v (w.heap.size + 1 + 1) 58 (drC (n : Int) m (mmP n G (twM n m c 1) m) (mmP n D (twM n m c 2) m)).toArray ∧ Below w.heap.size w v := ⟨_, rfl, (B0.rowOther (by omega)), (B1.rowOther (by omega)), (B2.row (drC (n : Int) m (mmP n G (twM n m c 1) m) (mmP n D (twM n m c 2) m)).toArray), (zr hb (by omega) _)⟩
      rw [← hwo]
      clear hwo B0 B1 B2 hb
      obtain ⟨B0, B1, B2, hb⟩ := hzQ
      try simp only [Act.put, pA, pB, pC]
      refine bodyPost_ret (results_rowt rfl _ _ _ _ _ rfl B2 _ Try.underlying58 rfl (by rw [Try.size58]; simp [drC_len])) rfl ⟨by rw [HV.out]; unfold twC; rfl, hb⟩
    have HV := Lib.hid (twV_2 hc (fun h => hdx h.2))
    rw [show rsB (n : Int) m c = false from rsB_3 hox hdx] at HRS
    have hgd := Try.noGuard24
    have heq := fun W => zeb (P := Try.prog) W 9998 24 5 64 c (fun _ => 0) Try.underlying24 Try.underlying5 Try.size5
    rw [hz] at heq
    clear hz
    go_upto_region 2 with (first | (refine zlr rfl 58 (.tmp 2) rfl _ rfl 58 (drC (n : Int) m G D).toArray (B0) _ Try.underlying58 rfl 193 Try.size58 (by simp [drC_len]) ?_) | (refine zla (.tmp 3) B1 Try.underlying24 Try.size24 ?_) | (refine wpList_build_polys rfl 40 _ [c] rfl 24 rfl Try.underlying40 Try.elem24 (by simp) (by simp) rfl ?_; intro wa hwa hps hba; clear hwa; replace B0 := B0.zw hba; replace B1 := B1.zw hba; replace B2 := B2.zw hba; replace hb := hb.trans (hba.mono hb.size)) | (go_at_call 149; refine (checkDrinfeld_any (n : Int) m G D hm hG hD [c] (by simp [hcb]) _ _ hps (by simp)).mono ?_; rintro e W8 ⟨rfl, hbb⟩; replace B0 := B0.zw hbb; replace B1 := B1.zw hbb; replace B2 := B2.zw hbb; replace hb := hb.trans (hbb.mono hb.size); rw [hc]))
    clear hc hox lx hd hmon hi hGr hDr
    go_upto_region 4 with (fail)
    have lt_B0 : (w.heap.size) < W8.heap.size := B0.lt
    have lt_B1 : (w.heap.size + 1) < W8.heap.size := B1.lt
    have lt_B2 : (w.heap.size + 1 + 1) < W8.heap.size := B2.lt
    have hbase : w.heap.size ≤ W8.heap.size := hb.size
    refine wp_region_stepsG Try.mixed (by kernel_rfl) (by kernel_rfl) (fun v => by (simp only [frL, Act.put, pA, pB, pC, Nat.reduceAdd, Nat.zero_add]; exact rfl))
     (fun L v W21 => Below w.heap.size w W21 ∧ W8.heap.size ≤ W21.heap.size ∧ Row W21 (w.heap.size) 58 (drC (n : Int) m G D).toArray ∧ Blk W21 (w.heap.size + 1) 64 24 (c) ∧ Row W21 (w.heap.size + 1 + 1) 58 (drC 0 (fun _ => 0) (fun _ => 0) (fun _ => 0)).toArray ∧ VF L v [some (.agg (zb 64 (c))), some (.agg (zb 64 (fun _ => 0))), some (.bool false), some (.bool false), some (.agg (drC (n : Int) m G D).toArray), some (.agg (fdC (n : Int) m).toArray), some (.agg (zb 64 (c))), some (.bool false), some (.bool true), some (.bool true)]) ?_ ?_ ?_
    · intro v hv0
      exact ⟨hb.drew, Nat.le_refl _, B0.drew, B1.drew, B2.drew, VF.start⟩
    · refine (.cons ?_ (.cons ?_ (.cons ?_ (.cons ?_ (.cons ?_ (.cons ?_ (.cons ?_ (.cons ?_ (.cons ?_ (.cons ?_ (.nil _)))))))))))
      · intro L v W21 hd hn ⟨hB, hz, s0, s1, s2, V⟩ K hK
        rw [if_pos (by simp [Region.wanted])]
        refine zlc s1 Try.underlying24 Try.size24 ?_
        exact hK _ _ _ rfl ⟨hB, hz, s0, s1, s2, V.step 0 rfl⟩
      · intro L v W21 hd hn ⟨hB, hz, s0, s1, s2, V⟩ K hK
        rw [if_pos (by simp [Region.wanted])]
        go_wp2_with fail
        rw [← z64]
        exact hK _ (.agg (zb 64 (fun _ => 0))) _ (by simp only [Act.put, pA, pB, pC ]) ⟨hB, hz, s0, s1, s2, V.step 1 rfl⟩
      · intro L v W21 hd hn ⟨hB, hz, s0, s1, s2, V⟩ K hK
        have e0 := V.at (zdq hd 0 rfl) rfl
        have e1 := V.at (zdq hd 1 rfl) rfl
        rw [if_pos (by simp [Region.wanted])]
        go_wp2_with fail
        exact hK _ (.bool false) _ (by simp only [Act.put, pA, pB, pC, e0, e1]) ⟨hB, hz, s0, s1, s2, V.step 2 rfl⟩
      · intro L v W21 hd hn ⟨hB, hz, s0, s1, s2, V⟩ K hK
        have e2 := V.at (zdq hd 2 rfl) rfl
        rw [if_pos (by simp [Region.wanted])]
        go_wp2_with fail
        exact hK _ (.bool false) _ (by simp only [Act.put, pA, pB, pC, e2]) ⟨hB, hz, s0, s1, s2, V.step 3 rfl⟩
      · intro L v W21 hd hn ⟨hB, hz, s0, s1, s2, V⟩ K hK
        have e3 := V.at (zdq hd 3 rfl) rfl
        rw [if_pos (by simp [Region.wanted, yielded, e3])]
        refine wp_load_rowv 58 _ rfl _ rfl 58 _ s0 _ Try.underlying58 rfl 193 Try.size58 (by simp [drC_len]) ?_
        exact hK _ _ _ rfl ⟨hB, hz, s0, s1, s2, V.step 4 rfl⟩
      · intro L v W21 hd hn ⟨hB, hz, s0, s1, s2, V⟩ K hK
        have e4 := V.at (zdq hd 4 rfl) rfl
        have e3 := V.at (zdq hd 3 rfl) rfl
        rw [if_pos (by simp [Region.wanted, yielded, e3])]
        go_wp2_with (go_at_call 146; refine (HFD.out _).mono ?_; rintro e wy ⟨rfl, hy⟩)
        exact hK _ (.agg (fdC (n : Int) m).toArray) _ (by simp only [Act.put, pA, pB, pC, e4, e3]) ⟨hB.trans (hy.mono hB.size), (Nat.le_trans hz hy.size), s0.zw hy, s1.zw hy, s2.zw hy, V.step 5 rfl⟩
      · intro L v W21 hd hn ⟨hB, hz, s0, s1, s2, V⟩ K hK
        have e3 := V.at (zdq hd 3 rfl) rfl
        rw [if_pos (by simp [Region.wanted, yielded, e3])]
        refine zlc s1 Try.underlying24 Try.size24 ?_
        exact hK _ _ _ rfl ⟨hB, hz, s0, s1, s2, V.step 6 rfl⟩
      · intro L v W21 hd hn ⟨hB, hz, s0, s1, s2, V⟩ K hK
        have e5 := V.at (zdq hd 5 rfl) rfl
        have e6 := V.at (zdq hd 6 rfl) rfl
        have e3 := V.at (zdq hd 3 rfl) rfl
        rw [if_pos (by simp [Region.wanted, yielded, e3])]
        go_wp2_with (go_at_call 114; refine (HRS.out _).mono ?_; rintro e wy ⟨rfl, hy⟩)
        exact hK _ (.bool false) _ (by simp only [Act.put, pA, pB, pC, e5, e6, e3]) ⟨hB.trans (hy.mono hB.size), (Nat.le_trans hz hy.size), s0.zw hy, s1.zw hy, s2.zw hy, V.step 7 rfl⟩
      · intro L v W21 hd hn ⟨hB, hz, s0, s1, s2, V⟩ K hK
        have e7 := V.at (zdq hd 7 rfl) rfl
        have e3 := V.at (zdq hd 3 rfl) rfl
        rw [if_pos (by simp [Region.wanted, yielded, e3])]
        go_wp2_with fail
        exact hK _ (.bool true) _ (by simp only [Act.put, pA, pB, pC, e7, e3]) ⟨hB, hz, s0, s1, s2, V.step 8 rfl⟩
      intro L v W21 hd hn ⟨hB, hz, s0, s1, s2, V⟩ K hK
      have e3 := V.at (zdq hd 3 rfl) rfl
      have e8 := V.at (zdq hd 8 rfl) rfl
      rw [if_pos (by simp [Region.wanted])]
      go_wp2_with fail
      exact hK _ (.bool true) _ (by simp only [Act.put, pA, pB, pC, e3, e8]) ⟨hB, hz, s0, s1, s2, V.step 9 rfl⟩
    intro L v W21 hL ⟨hB, hz, s0, s1, s2, V⟩
    have e0 := V.at (hL 0 (by decide)) rfl
    have e1 := V.at (hL 1 (by decide)) rfl
    have e2 := V.at (hL 2 (by decide)) rfl
    have e3 := V.at (hL 3 (by decide)) rfl
    have e4 := V.at (hL 4 (by decide)) rfl
    have e5 := V.at (hL 5 (by decide)) rfl
    have e6 := V.at (hL 6 (by decide)) rfl
    have e7 := V.at (hL 7 (by decide)) rfl
    have e8 := V.at (hL 8 (by decide)) rfl
    have e9 := V.at (hL 9 (by decide)) rfl
    clear hL V
    simp only [Exit.then, e0, e1, e2, e3, e4, e5, e6, e7, e8, e9]
    clear e0 e1 e2 e3 e4 e5 e6 e7 e8 e9
    replace B0 := s0
    clear s0
    replace B1 := s1
    clear s1
    replace B2 := s2
    clear s2
    replace hb := hB
    clear hB
    clear hbase hz lt_B0 lt_B1 lt_B2
    go_upto_region 5 with (fail)
    have lt_B0 := B0.lt
    have lt_B1 := B1.lt
    have lt_B2 := B2.lt
    go_wp2_with (first | rw [← z64] | rw [← drC_zero] | (refine wpList_store_rowv rfl 58 (.tmp 4) (.tmp 25) rfl _ rfl (drC 0 (fun _ => 0) (fun _ => 0) (fun _ => 0)).toArray rfl 58 _ (B2) 193 Try.size58 (by simp [drC_len]) (by simp [drC_len]) (drC_all _ _ _ _) ?_; try simp only [Act.put]; go_wp2_with fail))
    obtain ⟨W22, hwo, hzQ⟩ : ∃ v : World, v = (W21.setRow (w.heap.size + 1 + 1) (drC 0 (fun _ => 0) (fun _ => 0) (fun _ => 0)).toArray) ∧ Row v (w.heap.size) 58 (drC (n : Int) m G D).toArray ∧ Blk v (w.heap.size + 1) 64 24 (c) ∧ Row v (w.heap.size + 1 + 1) 58 (drC 0 (fun _ => 0) (fun _ => 0) (fun _ => 0)).toArray ∧ Below w.heap.size w v := ⟨_, rfl, (B0.rowOther (by omega)), (B1.rowOther (by omega)), (B2.row (drC 0 (fun _ => 0) (fun _ => 0) (fun _ => 0)).toArray), (zr hb (by omega) _)⟩
    rw [← hwo]
    clear hwo B0 B1 B2 hb
    obtain ⟨B0, B1, B2, hb⟩ := hzQ
    try simp only [Act.put, pA, pB, pC]
    refine bodyPost_ret (results_rowt rfl _ _ _ _ _ rfl B2 _ Try.underlying58 rfl (by rw [Try.size58]; simp [drC_len])) rfl ⟨by first | (rw [HV.out]; done) | (rw [HV.out]; rfl), hb⟩
 have HV := Lib.hid (twV_1 hc)
 go_upto_region 3 with (first | (refine zlr rfl 58 (.tmp 2) rfl _ rfl 58 (drC p m G D).toArray (B0) _ Try.underlying58 rfl 193 Try.size58 (by simp [drC_len]) ?_) | (refine zla (.tmp 3) B1 Try.underlying24 Try.size24 ?_) | (refine wpList_build_polys rfl 40 _ [c] rfl 24 rfl Try.underlying40 Try.elem24 (by simp) (by simp) rfl ?_; intro wa hwa hps hba; clear hwa; replace B0 := B0.zw hba; replace B1 := B1.zw hba; replace B2 := B2.zw hba; replace hb := hb.trans (hba.mono hb.size)) | (go_at_call 149; refine (checkDrinfeld_any p m G D hm hG hD [c] (by simp [hcb]) _ _ hps (by simp)).mono ?_; rintro e W8 ⟨rfl, hbb⟩; replace B0 := B0.zw hbb; replace B1 := B1.zw hbb; replace B2 := B2.zw hbb; replace hb := hb.trans (hbb.mono hb.size); rw [hc]))
 clear hc
 go_wp2_with (first | rw [← z64] | rw [← drC_zero] | (refine wpList_store_rowv rfl 58 (.tmp 4) (.tmp 13) rfl _ rfl (drC 0 (fun _ => 0) (fun _ => 0) (fun _ => 0)).toArray rfl 58 _ (B2) 193 Try.size58 (by simp [drC_len]) (by simp [drC_len]) (drC_all _ _ _ _) ?_; try simp only [Act.put]; go_wp2_with fail))
 obtain ⟨W21, hwo, hzQ⟩ : ∃ v : World, v = (W8.setRow (w.heap.size + 1 + 1) (drC 0 (fun _ => 0) (fun _ => 0) (fun _ => 0)).toArray) ∧ Row v (w.heap.size) 58 (drC p m G D).toArray ∧ Blk v (w.heap.size + 1) 64 24 (c) ∧ Row v (w.heap.size + 1 + 1) 58 (drC 0 (fun _ => 0) (fun _ => 0) (fun _ => 0)).toArray ∧ Below w.heap.size w v := ⟨_, rfl, (B0.rowOther (by omega)), (B1.rowOther (by omega)), (B2.row (drC 0 (fun _ => 0) (fun _ => 0) (fun _ => 0)).toArray), (zr hb (by omega) _)⟩
 rw [← hwo]
 clear hwo B0 B1 B2 hb
 obtain ⟨B0, B1, B2, hb⟩ := hzQ
 try simp only [Act.put, pA, pB, pC]
 refine bodyPost_ret (results_rowt rfl _ _ _ _ _ rfl B2 _ Try.underlying58 rfl (by rw [Try.size58]; simp [drC_len])) rfl ⟨by first | (rw [HV.out]; done) | (rw [HV.out]; rfl), hb⟩
theorem spec_TwistOf_any (p : Int) (m G D c : Nat → Nat) (hm : byte m) (hG : byte G) (hD : byte D) (hcb : byte c) (w : World) :
 Calls Try.prog 67 #[(.agg (drC p m G D).toArray), .agg (zb 64 c)] w fun e w' => e = .returned (.tuple #[.agg (twV p m G D c).1.toArray, .int .i64 (twV p m G D c).2]) ∧ Below w.heap.size w w' := by
 go_enter Try.func67, Try.ntmps67
 go_upto_region 1 with (fail)
 rw [← drC_zero]
 obtain ⟨W1, hwo⟩ : ∃ v : World, v = (((w.alloc (.cells (drC p m G D).toArray 58)).alloc (.cells (zb 64 (c)) 24)).alloc (.cells (drC 0 (fun _ => 0) (fun _ => 0) (fun _ => 0)).toArray 58)) := ⟨_, rfl⟩
 have B0 : Row W1 (w.heap.size) 58 (drC p m G D).toArray := by subst hwo; have := (((Row.new w 58 (drC p m G D).toArray).alloc (.cells (zb 64 (c)) 24)).alloc (.cells (drC 0 (fun _ => 0) (fun _ => 0) (fun _ => 0)).toArray 58)); simpa using this
 have B1 : Blk W1 (w.heap.size + 1) 64 24 (c) := by subst hwo; have := ((Blk.new (w.alloc (.cells (drC p m G D).toArray 58)) 64 24 (c)).alloc (.cells (drC 0 (fun _ => 0) (fun _ => 0) (fun _ => 0)).toArray 58)); simpa using this
 have B2 : Row W1 (w.heap.size + 1 + 1) 58 (drC 0 (fun _ => 0) (fun _ => 0) (fun _ => 0)).toArray := by subst hwo; have := (Row.new ((w.alloc (.cells (drC p m G D).toArray 58)).alloc (.cells (zb 64 (c)) 24)) 58 (drC 0 (fun _ => 0) (fun _ => 0) (fun _ => 0)).toArray); simpa using this
 have hb : Below w.heap.size w W1 := by subst hwo; exact ((((Below.refl _ _).alloc (Nat.le_refl _) _).alloc (by simp) _).alloc (by simp; omega) _)
 rw [← hwo]
 clear hwo
 rcases drCo_two p m G D [c] with hc | hc
 · obtain ⟨hdr, hcx⟩ := drCo_zero hc
   obtain ⟨hfl, hrg, hrd, hdz⟩ := drB_all hdr
   obtain ⟨n, rfl, hpr, lm, d, hmon, hd1, hd4⟩ := flV_fld hfl
   have hd := hmon.1
   have lx := lt_of_code hcx (f := c) (by simp)
   have hox := (codeL_zero hcx).2 c (by simp)
   have hGr := rsB_rsd hrg
   have hDr := rsB_rsd hrd
   have hi := drB_irr hdr hmon
   clear hdr hfl hrg hrd hdz hcx
   have HRS := Lib.hid (fun W => l06Residue_any (n : Int) m G D c W)
   cases hz : eqN 64 c (fun _ => 0) with
   | true =>
    have HV := Lib.hid (twV_2 hc (fun h => by rw [hz] at h; cases h.1))
    rw [rzB_z hz] at HRS
    go_upto_region 3 with (first | (refine zlr rfl 58 (.tmp 2) rfl _ rfl 58 (drC (n : Int) m G D).toArray (B0) _ Try.underlying58 rfl 193 Try.size58 (by simp [drC_len]) ?_) | (refine zla (.tmp 3) B1 Try.underlying24 Try.size24 ?_) | (refine wpList_build_polys rfl 40 _ [c] rfl 24 rfl Try.underlying40 Try.elem24 (by simp) (by simp) rfl ?_; intro wa hwa hps hba; clear hwa; replace B0 := B0.zw hba; replace B1 := B1.zw hba; replace B2 := B2.zw hba; replace hb := hb.trans (hba.mono hb.size)) | (go_at_call 147; refine (l06Code_any (n : Int) m G D hm hG hD [c] (by simp [hcb]) _ _ hps (by simp)).mono ?_; rintro e W8 ⟨rfl, hbb⟩; replace B0 := B0.zw hbb; replace B1 := B1.zw hbb; replace B2 := B2.zw hbb; replace hb := hb.trans (hbb.mono hb.size); rw [hc]))
    clear hc hox lx hd hmon hi hGr hDr
    go_upto_region 4 with (first | (refine zlr rfl 58 (.tmp 2) rfl _ rfl 58 (drC (n : Int) m G D).toArray (B0) _ Try.underlying58 rfl 193 Try.size58 (by simp [drC_len]) ?_) | (refine zla (.tmp 3) B1 Try.underlying24 Try.size24 ?_) | (go_at_call 159; refine (HRS.out _).mono ?_; rintro e W21 ⟨rfl, hW21⟩; replace B0 := B0.zw hW21; replace B1 := B1.zw hW21; replace B2 := B2.zw hW21; replace hb := (hb).trans (hW21.mono (hb).size)))
    have lt_B0 := B0.lt
    have lt_B1 := B1.lt
    have lt_B2 := B2.lt
    go_wp2_with (first | rw [← z64] | rw [← drC_zero] | (refine wpList_store_rowv rfl 58 (.tmp 4) (.tmp 18) rfl _ rfl (drC 0 (fun _ => 0) (fun _ => 0) (fun _ => 0)).toArray rfl 58 _ (B2) 193 Try.size58 (by simp [drC_len]) (by simp [drC_len]) (drC_all _ _ _ _) ?_; try simp only [Act.put]; go_wp2_with fail))
    obtain ⟨W22, hwo, hzQ⟩ : ∃ v : World, v = (W21.setRow (w.heap.size + 1 + 1) (drC 0 (fun _ => 0) (fun _ => 0) (fun _ => 0)).toArray) ∧ Row v (w.heap.size) 58 (drC (n : Int) m G D).toArray ∧ Blk v (w.heap.size + 1) 64 24 (c) ∧ Row v (w.heap.size + 1 + 1) 58 (drC 0 (fun _ => 0) (fun _ => 0) (fun _ => 0)).toArray ∧ Below w.heap.size w v := ⟨_, rfl, (B0.rowOther (by omega)), (B1.rowOther (by omega)), (B2.row (drC 0 (fun _ => 0) (fun _ => 0) (fun _ => 0)).toArray), (zr hb (by omega) _)⟩
    rw [← hwo]
    clear hwo B0 B1 B2 hb
    obtain ⟨B0, B1, B2, hb⟩ := hzQ
    try simp only [Act.put, pA, pB, pC]
    refine bodyPost_ret (results_rowt rfl _ _ _ _ _ rfl B2 _ Try.underlying58 rfl (by rw [Try.size58]; simp [drC_len])) rfl ⟨by first | (rw [HV.out]; done) | (rw [HV.out]; rfl), hb⟩
   | false =>
    by_cases hdx : deg c < deg m
    · have HV := Lib.hid (twV_0 hc ⟨hz, hdx⟩)
      have hc0 := deg_nz hz
      have HTW := Lib.hid (fun W => l06Twist_any n m G D c W hpr lm d hmon hd1 hd4 hi hGr.1 hDr.1 ⟨lx, hdx⟩ hc0)
      rw [rzB_t hz hdx] at HRS
      go_upto_region 3 with (first | (refine zlr rfl 58 (.tmp 2) rfl _ rfl 58 (drC (n : Int) m G D).toArray (B0) _ Try.underlying58 rfl 193 Try.size58 (by simp [drC_len]) ?_) | (refine zla (.tmp 3) B1 Try.underlying24 Try.size24 ?_) | (refine wpList_build_polys rfl 40 _ [c] rfl 24 rfl Try.underlying40 Try.elem24 (by simp) (by simp) rfl ?_; intro wa hwa hps hba; clear hwa; replace B0 := B0.zw hba; replace B1 := B1.zw hba; replace B2 := B2.zw hba; replace hb := hb.trans (hba.mono hb.size)) | (go_at_call 147; refine (l06Code_any (n : Int) m G D hm hG hD [c] (by simp [hcb]) _ _ hps (by simp)).mono ?_; rintro e W8 ⟨rfl, hbb⟩; replace B0 := B0.zw hbb; replace B1 := B1.zw hbb; replace B2 := B2.zw hbb; replace hb := hb.trans (hbb.mono hb.size); rw [hc]))
      clear hc hox lx hd hmon hi hGr hDr hc0 hz
      go_upto_region 5 with (first | (refine zlr rfl 58 (.tmp 2) rfl _ rfl 58 (drC (n : Int) m G D).toArray (B0) _ Try.underlying58 rfl 193 Try.size58 (by simp [drC_len]) ?_) | (refine zla (.tmp 3) B1 Try.underlying24 Try.size24 ?_) | (go_at_call 159; refine (HRS.out _).mono ?_; rintro e W21 ⟨rfl, hW21⟩; replace B0 := B0.zw hW21; replace B1 := B1.zw hW21; replace B2 := B2.zw hW21; replace hb := (hb).trans (hW21.mono (hb).size)))
      unfold twC at HTW
      have lt_B0 := B0.lt
      have lt_B1 := B1.lt
      have lt_B2 := B2.lt
      go_wp2_with (first | rw [← z64] | (refine zlr rfl 58 (.tmp 2) rfl _ rfl 58 (drC (n : Int) m G D).toArray (B0) _ Try.underlying58 rfl 193 Try.size58 (by simp [drC_len]) ?_) | (refine zla (.tmp 3) B1 Try.underlying24 Try.size24 ?_) | (go_at_call 160; refine (HTW.out _).mono ?_; rintro e W22 ⟨rfl, hW22⟩; replace B0 := B0.zw hW22; replace B1 := B1.zw hW22; replace B2 := B2.zw hW22; replace hb := (hb).trans (hW22.mono (hb).size)) | (refine wpList_store_rowv rfl 58 (.tmp 4) (.tmp 21) rfl _ rfl (drC (n : Int) m (mmP n G (twM n m c 1) m) (mmP n D (twM n m c 2) m)).toArray rfl 58 _ (B2) 193 Try.size58 (by simp [drC_len]) (by simp [drC_len]) (drC_all _ _ _ _) ?_; try simp only [Act.put]; go_wp2_with fail))
      obtain ⟨W23, hwo, hzQ⟩ : ∃ v : World, v = (W22.setRow (w.heap.size + 1 + 1) (drC (n : Int) m (mmP n G (twM n m c 1) m) (mmP n D (twM n m c 2) m)).toArray) ∧ Row v (w.heap.size) 58 (drC (n : Int) m G D).toArray ∧ Blk v (w.heap.size + 1) 64 24 (c) ∧ Row v (w.heap.size + 1 + 1) 58 (drC (n : Int) m (mmP n G (twM n m c 1) m) (mmP n D (twM n m c 2) m)).toArray ∧ Below w.heap.size w v := ⟨_, rfl, (B0.rowOther (by omega)), (B1.rowOther (by omega)), (B2.row (drC (n : Int) m (mmP n G (twM n m c 1) m) (mmP n D (twM n m c 2) m)).toArray), (zr hb (by omega) _)⟩
      rw [← hwo]
      clear hwo B0 B1 B2 hb
      obtain ⟨B0, B1, B2, hb⟩ := hzQ
      try simp only [Act.put, pA, pB, pC]
      refine bodyPost_ret (results_rowt rfl _ _ _ _ _ rfl B2 _ Try.underlying58 rfl (by rw [Try.size58]; simp [drC_len])) rfl ⟨by rw [HV.out]; unfold twC; rfl, hb⟩
    have HV := Lib.hid (twV_2 hc (fun h => hdx h.2))
    rw [rzB_n hdx] at HRS
    go_upto_region 3 with (first | (refine zlr rfl 58 (.tmp 2) rfl _ rfl 58 (drC (n : Int) m G D).toArray (B0) _ Try.underlying58 rfl 193 Try.size58 (by simp [drC_len]) ?_) | (refine zla (.tmp 3) B1 Try.underlying24 Try.size24 ?_) | (refine wpList_build_polys rfl 40 _ [c] rfl 24 rfl Try.underlying40 Try.elem24 (by simp) (by simp) rfl ?_; intro wa hwa hps hba; clear hwa; replace B0 := B0.zw hba; replace B1 := B1.zw hba; replace B2 := B2.zw hba; replace hb := hb.trans (hba.mono hb.size)) | (go_at_call 147; refine (l06Code_any (n : Int) m G D hm hG hD [c] (by simp [hcb]) _ _ hps (by simp)).mono ?_; rintro e W8 ⟨rfl, hbb⟩; replace B0 := B0.zw hbb; replace B1 := B1.zw hbb; replace B2 := B2.zw hbb; replace hb := hb.trans (hbb.mono hb.size); rw [hc]))
    clear hc hox lx hd hmon hi hGr hDr
    go_upto_region 4 with (first | (refine zlr rfl 58 (.tmp 2) rfl _ rfl 58 (drC (n : Int) m G D).toArray (B0) _ Try.underlying58 rfl 193 Try.size58 (by simp [drC_len]) ?_) | (refine zla (.tmp 3) B1 Try.underlying24 Try.size24 ?_) | (go_at_call 159; refine (HRS.out _).mono ?_; rintro e W21 ⟨rfl, hW21⟩; replace B0 := B0.zw hW21; replace B1 := B1.zw hW21; replace B2 := B2.zw hW21; replace hb := (hb).trans (hW21.mono (hb).size)))
    have lt_B0 := B0.lt
    have lt_B1 := B1.lt
    have lt_B2 := B2.lt
    go_wp2_with (first | rw [← z64] | rw [← drC_zero] | (refine wpList_store_rowv rfl 58 (.tmp 4) (.tmp 18) rfl _ rfl (drC 0 (fun _ => 0) (fun _ => 0) (fun _ => 0)).toArray rfl 58 _ (B2) 193 Try.size58 (by simp [drC_len]) (by simp [drC_len]) (drC_all _ _ _ _) ?_; try simp only [Act.put]; go_wp2_with fail))
    obtain ⟨W22, hwo, hzQ⟩ : ∃ v : World, v = (W21.setRow (w.heap.size + 1 + 1) (drC 0 (fun _ => 0) (fun _ => 0) (fun _ => 0)).toArray) ∧ Row v (w.heap.size) 58 (drC (n : Int) m G D).toArray ∧ Blk v (w.heap.size + 1) 64 24 (c) ∧ Row v (w.heap.size + 1 + 1) 58 (drC 0 (fun _ => 0) (fun _ => 0) (fun _ => 0)).toArray ∧ Below w.heap.size w v := ⟨_, rfl, (B0.rowOther (by omega)), (B1.rowOther (by omega)), (B2.row (drC 0 (fun _ => 0) (fun _ => 0) (fun _ => 0)).toArray), (zr hb (by omega) _)⟩
    rw [← hwo]
    clear hwo B0 B1 B2 hb
    obtain ⟨B0, B1, B2, hb⟩ := hzQ
    try simp only [Act.put, pA, pB, pC]
    refine bodyPost_ret (results_rowt rfl _ _ _ _ _ rfl B2 _ Try.underlying58 rfl (by rw [Try.size58]; simp [drC_len])) rfl ⟨by first | (rw [HV.out]; done) | (rw [HV.out]; rfl), hb⟩
 have HV := Lib.hid (twV_1 hc)
 go_upto_region 2 with (first | (refine zlr rfl 58 (.tmp 2) rfl _ rfl 58 (drC p m G D).toArray (B0) _ Try.underlying58 rfl 193 Try.size58 (by simp [drC_len]) ?_) | (refine zla (.tmp 3) B1 Try.underlying24 Try.size24 ?_) | (refine wpList_build_polys rfl 40 _ [c] rfl 24 rfl Try.underlying40 Try.elem24 (by simp) (by simp) rfl ?_; intro wa hwa hps hba; clear hwa; replace B0 := B0.zw hba; replace B1 := B1.zw hba; replace B2 := B2.zw hba; replace hb := hb.trans (hba.mono hb.size)) | (go_at_call 147; refine (l06Code_any p m G D hm hG hD [c] (by simp [hcb]) _ _ hps (by simp)).mono ?_; rintro e W8 ⟨rfl, hbb⟩; replace B0 := B0.zw hbb; replace B1 := B1.zw hbb; replace B2 := B2.zw hbb; replace hb := hb.trans (hbb.mono hb.size); rw [hc]))
 clear hc
 go_wp2_with (first | rw [← z64] | rw [← drC_zero] | (refine wpList_store_rowv rfl 58 (.tmp 4) (.tmp 12) rfl _ rfl (drC 0 (fun _ => 0) (fun _ => 0) (fun _ => 0)).toArray rfl 58 _ (B2) 193 Try.size58 (by simp [drC_len]) (by simp [drC_len]) (drC_all _ _ _ _) ?_; try simp only [Act.put]; go_wp2_with fail))
 obtain ⟨W21, hwo, hzQ⟩ : ∃ v : World, v = (W8.setRow (w.heap.size + 1 + 1) (drC 0 (fun _ => 0) (fun _ => 0) (fun _ => 0)).toArray) ∧ Row v (w.heap.size) 58 (drC p m G D).toArray ∧ Blk v (w.heap.size + 1) 64 24 (c) ∧ Row v (w.heap.size + 1 + 1) 58 (drC 0 (fun _ => 0) (fun _ => 0) (fun _ => 0)).toArray ∧ Below w.heap.size w v := ⟨_, rfl, (B0.rowOther (by omega)), (B1.rowOther (by omega)), (B2.row (drC 0 (fun _ => 0) (fun _ => 0) (fun _ => 0)).toArray), (zr hb (by omega) _)⟩
 rw [← hwo]
 clear hwo B0 B1 B2 hb
 obtain ⟨B0, B1, B2, hb⟩ := hzQ
 try simp only [Act.put, pA, pB, pC]
 refine bodyPost_ret (results_rowt rfl _ _ _ _ _ rfl B2 _ Try.underlying58 rfl (by rw [Try.size58]; simp [drC_len])) rfl ⟨by first | (rw [HV.out]; done) | (rw [HV.out]; rfl), hb⟩
theorem eqDrinfeld_same (p : Int) (m G D : Nat → Nat) (w : World) :
 Calls Try.prog 69 #[(.agg (drC p m G D).toArray), (.agg (drC p m G D).toArray)] w fun e w' => e = .returned (.bool true) ∧ Below w.heap.size w w' := by
 have hne : ((p) != (p)) = false := by simp
 go_enter Try.func69, Try.ntmps69
 go_upto_region 1 with (fail)
 obtain ⟨W1, hwo⟩ : ∃ v : World, v = ((w.alloc (.cells (drC p m G D).toArray 58)).alloc (.cells (drC p m G D).toArray 58)) := ⟨_, rfl⟩
 have B0 : Row W1 (w.heap.size) 58 (drC p m G D).toArray := by subst hwo; have := ((Row.new w 58 (drC p m G D).toArray).alloc (.cells (drC p m G D).toArray 58)); simpa using this
 have B1 : Row W1 (w.heap.size + 1) 58 (drC p m G D).toArray := by subst hwo; have := (Row.new (w.alloc (.cells (drC p m G D).toArray 58)) 58 (drC p m G D).toArray); simpa using this
 have hb : Below w.heap.size w W1 := by subst hwo; exact (((Below.refl _ _).alloc (Nat.le_refl _) _).alloc (by simp) _)
 rw [← hwo]
 clear hwo
 go_upto_region 3 with (first | (refine wpList_load_rowc rfl 2 (.tmp 5) rfl _ 0 rfl 58 _ (B0) (.int .i64 p) (drC_at _ _ _ _) _ Try.underlying2 rfl ?_) | (refine wpList_load_rowc rfl 2 (.tmp 7) rfl _ 0 rfl 58 _ (B1) (.int .i64 p) (drC_at _ _ _ _) _ Try.underlying2 rfl ?_))
 go_upto_region 5 with (first | (refine wpList_load_mid rfl 24 (.tmp 10) rfl _ 1 rfl (bl 64 m) _ (B0.drm) Try.underlying24 rfl (by rw [zl]; exact Try.size24) ?_) | (refine wpList_load_mid rfl 24 (.tmp 12) rfl _ 1 rfl (bl 64 m) _ (B1.drm) Try.underlying24 rfl (by rw [zl]; exact Try.size24) ?_) | (go_at_call 49; refine (eqPoly_same _ _ (fun _ _ => rfl) _).mono ?_; rintro e W2 ⟨rfl, hW2⟩; replace B0 := B0.zw hW2; replace B1 := B1.zw hW2; replace hb := (hb).trans (hW2.mono (hb).size)))
 go_upto_region 7 with (first | (refine wpList_load_mid rfl 24 (.tmp 16) rfl _ 65 rfl (bl 64 G) _ (B0.drg) Try.underlying24 rfl (by rw [zl]; exact Try.size24) ?_) | (refine wpList_load_mid rfl 24 (.tmp 18) rfl _ 65 rfl (bl 64 G) _ (B1.drg) Try.underlying24 rfl (by rw [zl]; exact Try.size24) ?_) | (go_at_call 49; refine (eqPoly_same _ _ (fun _ _ => rfl) _).mono ?_; rintro e W3 ⟨rfl, hW3⟩; replace B0 := B0.zw hW3; replace B1 := B1.zw hW3; replace hb := (hb).trans (hW3.mono (hb).size)))
 go_upto_region 9 with (first | (refine wpList_load_mid rfl 24 (.tmp 22) rfl _ 129 rfl (bl 64 D) _ (B0.drd) Try.underlying24 rfl (by rw [zl]; exact Try.size24) ?_) | (refine wpList_load_mid rfl 24 (.tmp 24) rfl _ 129 rfl (bl 64 D) _ (B1.drd) Try.underlying24 rfl (by rw [zl]; exact Try.size24) ?_) | (go_at_call 49; refine (eqPoly_same _ _ (fun _ _ => rfl) _).mono ?_; rintro e W4 ⟨rfl, hW4⟩; replace B0 := B0.zw hW4; replace B1 := B1.zw hW4; replace hb := (hb).trans (hW4.mono (hb).size)))
 go_wp2_with fail
 go_ret
 exact ⟨rfl, hb⟩
theorem FnExactTwistOf_walk (p : Int) (m G D c : Nat → Nat) (hm : byte m) (hG : byte G) (hD : byte D) (hcb : byte c) (w : World) :
 Calls Try.prog 18 #[(.agg (drC p m G D).toArray), .agg (zb 64 c)] w fun e w' => e = .returned (.bool true) ∧ Below w.heap.size w w' := by
 have HTD := Lib.hid (fun W => toDrinfeld_any p m G D hm hG hD W)
 have HTP := Lib.hid (fun W => toPoly_any c hcb W)
 have HS := Lib.hid (fun W => spec_TwistOf_any p m G D c hm hG hD hcb W)
 have HI := Lib.hid (fun W => impl_TwistOf_any p m G D c hm hG hD hcb W)
 obtain ⟨q, m', G', D', e1⟩ := twV_dr p m G D c
 obtain ⟨j, e2⟩ : ∃ j, j = (twV p m G D c).2 := ⟨_, rfl⟩
 rw [e1, ← e2] at HS HI
 have hne1 : ((j) != (j)) = false := by simp
 clear e1 e2
 have HE := Lib.hid (fun W => eqDrinfeld_same q m' G' D' W)
 go_enter Try.func18, Try.ntmps18
 go_upto_region 1 with (fail)
 obtain ⟨W1, hwo⟩ : ∃ v : World, v = ((w.alloc (.cells (drC p m G D).toArray 55)).alloc (.cells (zb 64 (c)) 22)) := ⟨_, rfl⟩
 have B0 : Row W1 (w.heap.size) 55 (drC p m G D).toArray := by subst hwo; have := ((Row.new w 55 (drC p m G D).toArray).alloc (.cells (zb 64 (c)) 22)); simpa using this
 have B1 : Blk W1 (w.heap.size + 1) 64 22 (c) := by subst hwo; have := (Blk.new (w.alloc (.cells (drC p m G D).toArray 55)) 64 22 (c)); simpa using this
 have hb : Below w.heap.size w W1 := by subst hwo; exact (((Below.refl _ _).alloc (Nat.le_refl _) _).alloc (by simp) _)
 rw [← hwo]
 clear hwo
 have lt_B0 : (w.heap.size) < W1.heap.size := B0.lt
 have lt_B1 : (w.heap.size + 1) < W1.heap.size := B1.lt
 refine zq Try.mixed (by kernel_rfl) (by kernel_rfl) (fun v => by (simp only [frL, Act.put, pA, pB, pC, Nat.reduceAdd, Nat.zero_add]; exact rfl))
  (fun L v W2 => Below W1.heap.size W1 W2 ∧ (L 8 = true → AR (v 8) W2 W1.heap.size 193 58) ∧ (L 9 = true → PR (v 8) W2 W1.heap.size 58 (drC q m' G' D').toArray) ∧ VF L v [some (.agg (drC p m G D).toArray), some (.agg (drC p m G D).toArray), some (.agg (zb 64 (c))), some (.agg (zb 64 (c))), some (.tuple #[(.agg (drC q m' G' D').toArray), (.int .i64 j)]), some (.tuple #[(.agg (drC q m' G' D').toArray), (.int .i64 j)]), some (.agg (drC q m' G' D').toArray), some (.int .i64 j), none, none, some (.int .i64 j)]) ?_ ?_ ?_
 · intro v hv0
   exact ⟨(Below.refl _ W1).drew, (fun h => by cases h), (fun h => by cases h), VF.start⟩
 · refine (.cons rfl ?_ (.cons rfl ?_ (.cons rfl ?_ (.cons rfl ?_ (.cons rfl ?_ (.cons rfl ?_ (.cons rfl ?_ (.cons rfl ?_ (.cons rfl ?_ (.cons rfl ?_ (.cons rfl ?_ (.nil _))))))))))))
   all_goals intro L v W2 hd hn ⟨hY, h8, h9, V⟩ K hK
   · refine wp_load_rowv 55 _ rfl _ rfl 55 _ (B0.zw hY) _ Try.underlying55 rfl 193 Try.size55 (by simp [drC_len]) ?_
     exact hK _ _ _ rfl ⟨hY, h8, h9, V.step 0 rfl⟩
   · have e0 := V.at (zdq hd 0 rfl) rfl
     go_wp2_with (go_at_call 59; refine (HTD.out _).mono ?_; rintro e wy ⟨rfl, hy⟩)
     exact hK _ (.agg (drC p m G D).toArray) _ (by simp only [Act.put, pA, pB, pC, e0]) ⟨hY.trans (hy.mono hY.size), (fun h => (h8 h).belowR hy), (fun h => (h9 h).belowR hy), V.step 1 rfl⟩
   · refine zlc (B1.zw hY) Try.underlying22 Try.size22 ?_
     exact hK _ _ _ rfl ⟨hY, h8, h9, V.step 2 rfl⟩
   · have e2 := V.at (zdq hd 2 rfl) rfl
     go_wp2_with (go_at_call 28; refine (HTP.out _).mono ?_; rintro e wy ⟨rfl, hy⟩)
     exact hK _ (.agg (zb 64 (c))) _ (by simp only [Act.put, pA, pB, pC, e2]) ⟨hY.trans (hy.mono hY.size), (fun h => (h8 h).belowR hy), (fun h => (h9 h).belowR hy), V.step 3 rfl⟩
   · have e1 := V.at (zdq hd 1 rfl) rfl
     have e3 := V.at (zdq hd 3 rfl) rfl
     go_wp2_with (go_at_call 67; refine (HS.out _).mono ?_; rintro e wy ⟨rfl, hy⟩)
     exact hK _ (.tuple #[(.agg (drC q m' G' D').toArray), (.int .i64 j)]) _ (by simp only [Act.put, pA, pB, pC, e1, e3]) ⟨hY.trans (hy.mono hY.size), (fun h => (h8 h).belowR hy), (fun h => (h9 h).belowR hy), V.step 4 rfl⟩
   · have e4 := V.at (zdq hd 4 rfl) rfl
     go_wp2_with fail
     exact hK _ (.tuple #[(.agg (drC q m' G' D').toArray), (.int .i64 j)]) _ (by simp only [Act.put, pA, pB, pC, e4]) ⟨hY, h8, h9, V.step 5 rfl⟩
   · have e5 := V.at (zdq hd 5 rfl) rfl
     go_wp2_with fail
     exact hK _ (.agg (drC q m' G' D').toArray) _ (by simp only [Act.put, pA, pB, pC, e5]) ⟨hY, h8, h9, V.step 6 rfl⟩
   · have e5 := V.at (zdq hd 5 rfl) rfl
     go_wp2_with fail
     exact hK _ (.int .i64 j) _ (by simp only [Act.put, pA, pB, pC, e5]) ⟨hY, h8, h9, V.step 7 rfl⟩
   · go_wp2_with fail
     rw [← drC_zero]
     exact hK _ (.pointer (some ⟨W2.heap.size, 0, none⟩)) _ (by simp only [Act.put, pA, pB, pC ]) ⟨hY.alloc hY.size _, (fun _ => (PR.newR W2 58 _ hY.size).ar (by simp [drC_len])), (fun h => absurd rfl (hn 9 _ rfl h ⟨8, .data⟩ (by simp) rfl)), V.skip 8 rfl⟩
   · have e6 := V.at (zdq hd 6 rfl) rfl
     obtain ⟨gz, b, ea, hN, hgz, hk⟩ := (h8 (zdq hd 8 rfl)).outR
     refine wp_store_rowv 58 _ _ rfl b ea (drC q m' G' D').toArray e6 58 gz hk 193 Try.size58 hgz (by simp [drC_len]) (drC_all _ _ _ _) ?_
     exact hK _ undef _ rfl ⟨zr hY hN _, (fun h => (h8 h).rowR hk _ (by simp [drC_len])), (fun _ => by rw [show updV v 9 undef 8 = v 8 from rfl, ea]; exact PR.rowR hk hN _), V.skip 9 rfl⟩
   have e7 := V.at (zdq hd 7 rfl) rfl
   go_wp2_with fail
   exact hK _ (.int .i64 j) _ (by simp only [Act.put, pA, pB, pC, e7]) ⟨hY, h8, h9, V.step 10 rfl⟩
 intro L v W2 hL ⟨hY, h8, h9, V⟩
 obtain ⟨k1_8, e8, hNk1_8, hk1_8⟩ := (h9 (hL 9 (by decide))).outR
 have e0 := V.at (hL 0 (by decide)) rfl
 have e1 := V.at (hL 1 (by decide)) rfl
 have e2 := V.at (hL 2 (by decide)) rfl
 have e3 := V.at (hL 3 (by decide)) rfl
 have e4 := V.at (hL 4 (by decide)) rfl
 have e5 := V.at (hL 5 (by decide)) rfl
 have e6 := V.at (hL 6 (by decide)) rfl
 have e7 := V.at (hL 7 (by decide)) rfl
 have e10 := V.at (hL 10 (by decide)) rfl
 clear hL h8 h9 V
 replace B0 := B0.zw hY
 replace B1 := B1.zw hY
 replace hb := hb.trans (hY.mono hb.size)
 clear hY
 simp only [Exit.then, e8, e0, e1, e2, e3, e4, e5, e6, e7, e10]
 clear e8 e0 e1 e2 e3 e4 e5 e6 e7 e10
 have B2 := hk1_8
 clear hk1_8
 have zk1_8_0 : w.heap.size < k1_8 := by omega
 have zk1_8_1 : w.heap.size + 1 < k1_8 := by omega
 clear lt_B0 lt_B1
 go_upto_region 2 with (fail)
 have lt_B0 : (w.heap.size) < W2.heap.size := B0.lt
 have lt_B1 : (w.heap.size + 1) < W2.heap.size := B1.lt
 have lt_B2 : (k1_8) < W2.heap.size := B2.lt
 refine zq Try.mixed (by kernel_rfl) (by kernel_rfl) (fun v => by (simp only [frL, Act.put, pA, pB, pC, Nat.reduceAdd, Nat.zero_add]; exact rfl))
  (fun L v W3 => Below W2.heap.size W2 W3 ∧ (L 8 = true → AR (v 8) W3 W2.heap.size 193 58) ∧ (L 9 = true → PR (v 8) W3 W2.heap.size 58 (drC q m' G' D').toArray) ∧ VF L v [some (.agg (drC p m G D).toArray), some (.agg (drC p m G D).toArray), some (.agg (zb 64 (c))), some (.agg (zb 64 (c))), some (.tuple #[(.agg (drC q m' G' D').toArray), (.int .i64 j)]), some (.tuple #[(.agg (drC q m' G' D').toArray), (.int .i64 j)]), some (.agg (drC q m' G' D').toArray), some (.int .i64 j), none, none, some (.int .i64 j)]) ?_ ?_ ?_
 · intro v hv0
   exact ⟨(Below.refl _ W2).drew, (fun h => by cases h), (fun h => by cases h), VF.start⟩
 · refine (.cons rfl ?_ (.cons rfl ?_ (.cons rfl ?_ (.cons rfl ?_ (.cons rfl ?_ (.cons rfl ?_ (.cons rfl ?_ (.cons rfl ?_ (.cons rfl ?_ (.cons rfl ?_ (.cons rfl ?_ (.nil _))))))))))))
   all_goals intro L v W3 hd hn ⟨hY, h8, h9, V⟩ K hK
   · refine wp_load_rowv 55 _ rfl _ rfl 55 _ (B0.zw hY) _ Try.underlying55 rfl 193 Try.size55 (by simp [drC_len]) ?_
     exact hK _ _ _ rfl ⟨hY, h8, h9, V.step 0 rfl⟩
   · have e0 := V.at (zdq hd 0 rfl) rfl
     go_wp2_with (go_at_call 59; refine (HTD.out _).mono ?_; rintro e wy ⟨rfl, hy⟩)
     exact hK _ (.agg (drC p m G D).toArray) _ (by simp only [Act.put, pA, pB, pC, e0]) ⟨hY.trans (hy.mono hY.size), (fun h => (h8 h).belowR hy), (fun h => (h9 h).belowR hy), V.step 1 rfl⟩
   · refine zlc (B1.zw hY) Try.underlying22 Try.size22 ?_
     exact hK _ _ _ rfl ⟨hY, h8, h9, V.step 2 rfl⟩
   · have e2 := V.at (zdq hd 2 rfl) rfl
     go_wp2_with (go_at_call 28; refine (HTP.out _).mono ?_; rintro e wy ⟨rfl, hy⟩)
     exact hK _ (.agg (zb 64 (c))) _ (by simp only [Act.put, pA, pB, pC, e2]) ⟨hY.trans (hy.mono hY.size), (fun h => (h8 h).belowR hy), (fun h => (h9 h).belowR hy), V.step 3 rfl⟩
   · have e1 := V.at (zdq hd 1 rfl) rfl
     have e3 := V.at (zdq hd 3 rfl) rfl
     go_wp2_with (go_at_call 68; refine (HI.out _).mono ?_; rintro e wy ⟨rfl, hy⟩)
     exact hK _ (.tuple #[(.agg (drC q m' G' D').toArray), (.int .i64 j)]) _ (by simp only [Act.put, pA, pB, pC, e1, e3]) ⟨hY.trans (hy.mono hY.size), (fun h => (h8 h).belowR hy), (fun h => (h9 h).belowR hy), V.step 4 rfl⟩
   · have e4 := V.at (zdq hd 4 rfl) rfl
     go_wp2_with fail
     exact hK _ (.tuple #[(.agg (drC q m' G' D').toArray), (.int .i64 j)]) _ (by simp only [Act.put, pA, pB, pC, e4]) ⟨hY, h8, h9, V.step 5 rfl⟩
   · have e5 := V.at (zdq hd 5 rfl) rfl
     go_wp2_with fail
     exact hK _ (.agg (drC q m' G' D').toArray) _ (by simp only [Act.put, pA, pB, pC, e5]) ⟨hY, h8, h9, V.step 6 rfl⟩
   · have e5 := V.at (zdq hd 5 rfl) rfl
     go_wp2_with fail
     exact hK _ (.int .i64 j) _ (by simp only [Act.put, pA, pB, pC, e5]) ⟨hY, h8, h9, V.step 7 rfl⟩
   · go_wp2_with fail
     rw [← drC_zero]
     exact hK _ (.pointer (some ⟨W3.heap.size, 0, none⟩)) _ (by simp only [Act.put, pA, pB, pC ]) ⟨hY.alloc hY.size _, (fun _ => (PR.newR W3 58 _ hY.size).ar (by simp [drC_len])), (fun h => absurd rfl (hn 9 _ rfl h ⟨8, .data⟩ (by simp) rfl)), V.skip 8 rfl⟩
   · have e6 := V.at (zdq hd 6 rfl) rfl
     obtain ⟨gz, b, ea, hN, hgz, hk⟩ := (h8 (zdq hd 8 rfl)).outR
     refine wp_store_rowv 58 _ _ rfl b ea (drC q m' G' D').toArray e6 58 gz hk 193 Try.size58 hgz (by simp [drC_len]) (drC_all _ _ _ _) ?_
     exact hK _ undef _ rfl ⟨zr hY hN _, (fun h => (h8 h).rowR hk _ (by simp [drC_len])), (fun _ => by rw [show updV v 9 undef 8 = v 8 from rfl, ea]; exact PR.rowR hk hN _), V.skip 9 rfl⟩
   have e7 := V.at (zdq hd 7 rfl) rfl
   go_wp2_with fail
   exact hK _ (.int .i64 j) _ (by simp only [Act.put, pA, pB, pC, e7]) ⟨hY, h8, h9, V.step 10 rfl⟩
 intro L v W3 hL ⟨hY, h8, h9, V⟩
 obtain ⟨k2_8, e8, hNk2_8, hk2_8⟩ := (h9 (hL 9 (by decide))).outR
 have e0 := V.at (hL 0 (by decide)) rfl
 have e1 := V.at (hL 1 (by decide)) rfl
 have e2 := V.at (hL 2 (by decide)) rfl
 have e3 := V.at (hL 3 (by decide)) rfl
 have e4 := V.at (hL 4 (by decide)) rfl
 have e5 := V.at (hL 5 (by decide)) rfl
 have e6 := V.at (hL 6 (by decide)) rfl
 have e7 := V.at (hL 7 (by decide)) rfl
 have e10 := V.at (hL 10 (by decide)) rfl
 clear hL h8 h9 V
 replace B0 := B0.zw hY
 replace B1 := B1.zw hY
 replace B2 := B2.zw hY
 replace hb := hb.trans (hY.mono hb.size)
 clear hY
 simp only [Exit.then, e8, e0, e1, e2, e3, e4, e5, e6, e7, e10]
 clear e8 e0 e1 e2 e3 e4 e5 e6 e7 e10
 have B3 := hk2_8
 clear hk2_8
 have zk2_8_0 : w.heap.size < k2_8 := by omega
 have zk2_8_1 : w.heap.size + 1 < k2_8 := by omega
 have zk2_8_2 : k1_8 < k2_8 := by omega
 clear lt_B0 lt_B1 lt_B2
 go_upto_region 3 with (fail)
 go_wp2_with (first | (refine zlr rfl 58 (.tmp 7) rfl _ rfl 58 (drC q m' G' D').toArray (B3) _ Try.underlying58 rfl 193 Try.size58 (by simp [drC_len]) ?_) | (refine zlr rfl 58 (.tmp 5) rfl _ rfl 58 (drC q m' G' D').toArray (B2) _ Try.underlying58 rfl 193 Try.size58 (by simp [drC_len]) ?_) | (go_at_call 69; refine (HE.out _).mono ?_; rintro e W4 ⟨rfl, hW4⟩; replace B0 := B0.zw hW4; replace B1 := B1.zw hW4; replace B2 := B2.zw hW4; replace B3 := B3.zw hW4; replace hb := (hb).trans (hW4.mono (hb).size)))
 go_ret
 exact ⟨rfl, hb⟩
end Go.Proofs.Yteloknnooebabaa
namespace Go.Proofs.Yteloknnooebabaa
open Go
def cutW : List Char := [Char.ofNat 99, Char.ofNat 117, Char.ofNat 116]
theorem strip_cut (rest : List (List Char)) : stripLifts liftWords (cutW :: rest) = ([], cutW :: rest) := by
 have key : ∀ os : List String, (os.all fun o => !(cutW == o.toList)) = true → stripLifts os (cutW :: rest) = ([], cutW :: rest) := by
  intro os
  induction os with
  | nil => intro _; rfl
  | cons o os ih =>
   intro h
   simp only [List.all_cons, Bool.and_eq_true, Bool.not_eq_true'] at h
   unfold stripLifts
   rw [h.1]
   exact ih h.2
 exact key _ (by decide +kernel)
theorem make_cut {P : Program} {rest : List (List Char)} (h : behindMainWord (wordsSigns P.initOrder.toList) = cutW :: rest) : P.make = some .cut := by
 unfold Program.make
 rw [h]
 have e1 : (cutW == "gc".toList || cutW == "spec".toList) = false := by decide +kernel
 have e2 : (cutW == "cut".toList) = true := by decide +kernel
 simp only [e1, e2, Bool.true_or]
 rfl
theorem mayEnter_cut {P : Program} {rest : List (List Char)} (h : behindMainWord (wordsSigns P.initOrder.toList) = cutW :: rest) (h1 : P.laysLater = false) (h2 : P.bearsReflect = false) (h3 : P.doorFits [] = true) : P.mayEnter = true := by
 unfold Program.mayEnter
 rw [h]
 have e2 : (some cutW == some "cut".toList) = true := by decide +kernel
 simp only [strip_cut, h1, h2, h3, List.head?_cons, e2]
 simp
theorem lifts_cut {P : Program} {rest : List (List Char)} (h : behindMainWord (wordsSigns P.initOrder.toList) = cutW :: rest) : P.liftsFinal = false := by
 unfold Program.liftsFinal Program.headLifts
 rw [h]
 have e2 : (some cutW == some "cut".toList) = true := by decide +kernel
 have e3 : (some cutW == some "carried".toList) = false := by decide +kernel
 simp only [strip_cut, List.head?_cons, e2, e3]
 simp
def initRest : List (List Nat) := [[97, 116], [108, 111, 111, 112, 46, 101, 120, 97, 109, 112, 108, 101, 47, 103, 48, 49, 50, 52, 53, 47, 108, 97, 119, 115, 46, 70, 110, 69, 120, 97, 99, 116, 77, 117, 108, 116, 105, 112, 108, 121, 83, 107, 101, 119, 115], [108, 111, 111, 112, 46, 101, 120, 97, 109, 112, 108, 101, 47, 103, 48, 49, 50, 52, 53, 47, 108, 97, 119, 115, 46, 70, 110, 69, 120, 97, 99, 116, 80, 111, 119, 101, 114, 79, 102, 83, 107, 101, 119], [108, 111, 111, 112, 46, 101, 120, 97, 109, 112, 108, 101, 47, 103, 48, 49, 50, 52, 53, 47, 108, 97, 119, 115, 46, 70, 110, 69, 120, 97, 99, 116, 68, 105, 118, 105, 100, 101, 82, 105, 103, 104, 116], [108, 111, 111, 112, 46, 101, 120, 97, 109, 112, 108, 101, 47, 103, 48, 49, 50, 52, 53, 47, 108, 97, 119, 115, 46, 70, 110, 69, 120, 97, 99, 116, 68, 105, 118, 105, 100, 101, 76, 101, 102, 116], [108, 111, 111, 112, 46, 101, 120, 97, 109, 112, 108, 101, 47, 103, 48, 49, 50, 52, 53, 47, 108, 97, 119, 115, 46, 70, 110, 69, 120, 97, 99, 116, 82, 105, 103, 104, 116, 68, 105, 118, 105, 115, 111, 114], [108, 111, 111, 112, 46, 101, 120, 97, 109, 112, 108, 101, 47, 103, 48, 49, 50, 52, 53, 47, 108, 97, 119, 115, 46, 70, 110, 69, 120, 97, 99, 116, 76, 101, 102, 116, 77, 117, 108, 116, 105, 112, 108, 101], [108, 111, 111, 112, 46, 101, 120, 97, 109, 112, 108, 101, 47, 103, 48, 49, 50, 52, 53, 47, 108, 97, 119, 115, 46, 70, 110, 69, 120, 97, 99, 116, 76, 101, 97, 115, 116, 83, 107, 101, 119], [108, 111, 111, 112, 46, 101, 120, 97, 109, 112, 108, 101, 47, 103, 48, 49, 50, 52, 53, 47, 108, 97, 119, 115, 46, 70, 110, 69, 120, 97, 99, 116, 65, 99, 116, 79, 110, 82, 101, 115, 105, 100, 117, 101], [108, 111, 111, 112, 46, 101, 120, 97, 109, 112, 108, 101, 47, 103, 48, 49, 50, 52, 53, 47, 108, 97, 119, 115, 46, 70, 110, 69, 120, 97, 99, 116, 68, 101, 101, 112, 82, 101, 115, 116], [108, 111, 111, 112, 46, 101, 120, 97, 109, 112, 108, 101, 47, 103, 48, 49, 50, 52, 53, 47, 108, 97, 119, 115, 46, 70, 110, 69, 120, 97, 99, 116, 65, 100, 100, 65, 99, 116, 105, 111, 110, 115], [108, 111, 111, 112, 46, 101, 120, 97, 109, 112, 108, 101, 47, 103, 48, 49, 50, 52, 53, 47, 108, 97, 119, 115, 46, 70, 110, 69, 120, 97, 99, 116, 67, 111, 109, 112, 111, 115, 101, 65, 99, 116, 105, 111, 110, 115], [108, 111, 111, 112, 46, 101, 120, 97, 109, 112, 108, 101, 47, 103, 48, 49, 50, 52, 53, 47, 108, 97, 119, 115, 46, 70, 110, 69, 120, 97, 99, 116, 73, 115, 68, 114, 105, 110, 102, 101, 108, 100], [108, 111, 111, 112, 46, 101, 120, 97, 109, 112, 108, 101, 47, 103, 48, 49, 50, 52, 53, 47, 108, 97, 119, 115, 46, 70, 110, 69, 120, 97, 99, 116, 68, 114, 105, 110, 102, 101, 108, 100, 65, 99, 116, 105, 111, 110], [108, 111, 111, 112, 46, 101, 120, 97, 109, 112, 108, 101, 47, 103, 48, 49, 50, 52, 53, 47, 108, 97, 119, 115, 46, 70, 110, 69, 120, 97, 99, 116, 68, 114, 105, 110, 102, 101, 108, 100, 86, 97, 108, 117, 101], [108, 111, 111, 112, 46, 101, 120, 97, 109, 112, 108, 101, 47, 103, 48, 49, 50, 52, 53, 47, 108, 97, 119, 115, 46, 70, 110, 69, 120, 97, 99, 116, 73, 110, 118, 97, 114, 105, 97, 110, 116, 79, 102], [108, 111, 111, 112, 46, 101, 120, 97, 109, 112, 108, 101, 47, 103, 48, 49, 50, 52, 53, 47, 108, 97, 119, 115, 46, 70, 110, 69, 120, 97, 99, 116, 84, 119, 105, 115, 116, 79, 102], [108, 111, 111, 112, 46, 101, 120, 97, 109, 112, 108, 101, 47, 103, 48, 49, 50, 52, 53, 47, 108, 97, 119, 115, 46, 70, 110, 69, 120, 97, 99, 116, 65, 114, 101, 73, 115, 111, 109, 111, 114, 112, 104, 105, 99], [108, 111, 111, 112, 46, 101, 120, 97, 109, 112, 108, 101, 47, 103, 48, 49, 50, 52, 53, 47, 108, 97, 119, 115, 46, 70, 110, 69, 120, 97, 99, 116, 73, 115, 73, 115, 111, 103, 101, 110, 121], [108, 111, 111, 112, 46, 101, 120, 97, 109, 112, 108, 101, 47, 103, 48, 49, 50, 52, 53, 47, 108, 97, 119, 115, 46, 70, 110, 69, 120, 97, 99, 116, 78, 111, 114, 109, 79, 102], [108, 111, 111, 112, 46, 101, 120, 97, 109, 112, 108, 101, 47, 103, 48, 49, 50, 52, 53, 47, 108, 97, 119, 115, 46, 70, 110, 69, 120, 97, 99, 116, 70, 114, 111, 98, 101, 110, 105, 117, 115, 79, 102], [108, 111, 111, 112, 46, 101, 120, 97, 109, 112, 108, 101, 47, 103, 48, 49, 50, 52, 53, 47, 108, 97, 119, 115, 46, 70, 110, 69, 120, 97, 99, 116, 73, 115, 83, 117, 112, 101, 114, 115, 105, 110, 103, 117, 108, 97, 114], [108, 111, 111, 112, 46, 101, 120, 97, 109, 112, 108, 101, 47, 103, 48, 49, 50, 52, 53, 47, 108, 97, 119, 115, 46, 70, 110, 69, 120, 97, 99, 116, 79, 114, 100, 101, 114, 80, 111, 108, 121, 110, 111, 109, 105, 97, 108], [108, 111, 111, 112, 46, 101, 120, 97, 109, 112, 108, 101, 47, 103, 48, 49, 50, 52, 53, 47, 108, 97, 119, 115, 46, 70, 110, 69, 120, 97, 99, 116, 65, 108, 108, 68, 114, 105, 110, 102, 101, 108, 100], [108, 111, 111, 112, 46, 101, 120, 97, 109, 112, 108, 101, 47, 103, 48, 49, 50, 52, 53, 47, 108, 97, 119, 115, 46, 70, 110, 69, 120, 97, 99, 116, 67, 111, 117, 110, 116, 66, 121, 84, 114, 97, 99, 101]]
def initSigns : List Nat := [104, 97, 114, 110, 101, 115, 115, 32, 99, 97, 100, 55, 48, 52, 57, 53, 51, 55, 102, 57, 101, 99, 48, 100, 52, 49, 51, 57, 54, 98, 101, 48, 101, 97, 55, 102, 56, 52, 49, 101, 55, 51, 98, 99, 100, 102, 57, 50, 52, 101, 57, 54, 52, 101, 55, 99, 56, 53, 101, 99, 51, 101, 49, 49, 100, 97, 101, 55, 53, 54, 57, 52, 32, 99, 117, 116] ++ initRest.flatMap fun x => 32 :: x
theorem init_split : behindMainWord (wordsSigns (initSigns.map Char.ofNat)) = cutW :: initRest.map (fun w => w.map Char.ofNat) := by kernel_rfl
theorem init_order : Try.prog.initOrder = String.ofList (initSigns.map Char.ofNat) := by kernel_rfl
theorem init_cut : behindMainWord (wordsSigns Try.prog.initOrder.toList) = cutW :: initRest.map (fun w => w.map Char.ofNat) :=
 (congrArg (fun s : String => behindMainWord (wordsSigns s.toList)) init_order).trans ((congrArg (fun l => behindMainWord (wordsSigns l)) String.toList_ofList).trans init_split)
theorem Try.laysLater : Try.prog.laysLater = false := by kernel_rfl
theorem Try.bearsReflect : Try.prog.bearsReflect = false := by kernel_rfl
theorem Try.doorFits : Try.prog.doorFits [] = true := by kernel_rfl
theorem Try.mayEnter : Try.pinned.checked.prog.mayEnter = true := mayEnter_cut init_cut Try.laysLater Try.bearsReflect Try.doorFits
theorem Try.liftsFinal : Try.pinned.checked.prog.liftsFinal = false := lifts_cut init_cut
theorem Try.make : Try.pinned.checked.prog.make = some .cut := make_cut init_cut
end Go.Proofs.Yteloknnooebabaa
