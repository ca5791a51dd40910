/-
  Walks: lists of irreducible polynomials (the model's).
-/
import Derived.Test.YtpeehpaghdddgaaWt
namespace Go.Proofs.Ytpeehpaghdddgaa
open Go Go.RowKit
set_option linter.unusedVariables false
set_option linter.unusedSimpArgs false
attribute [local irreducible] ofN irB deg
/-- the list -/
noncomputable def irL (p n j : Nat) : List (Nat → Nat) := ((List.range' (p ^ n) j).filter fun N => irB p (ofN p N)).map (ofN p)
theorem irL_zero (p n : Nat) : irL p n 0 = [] := rfl
theorem irL_len (p n j : Nat) : (irL p n j).length ≤ j := by
  unfold irL; rw [List.length_map]; exact Nat.le_trans (List.length_filter_le _ _) (by rw [List.length_range']; exact Nat.le_refl _)
theorem irL_yes {p n j : Nat} (h : irB p (ofN p (p ^ n + j)) = true) : irL p n (j + 1) = irL p n j ++ [ofN p (p ^ n + j)] := by
  unfold irL; rw [List.range'_concat, List.filter_append, List.map_append, Nat.one_mul]; simp [h]
theorem irL_no {p n j : Nat} (h : irB p (ofN p (p ^ n + j)) = false) : irL p n (j + 1) = irL p n j := by
  unfold irL; rw [List.range'_concat, List.filter_append, List.map_append, Nat.one_mul]; simp [h]
/-- both answers -/
noncomputable def ilV (p n : Int) : List (Nat → Nat) × Int := if okP p then (if (1 ≤ n ∧ n ≤ 8) ∧ p.toNat ^ n.toNat ≤ 343 then (irL p.toNat n.toNat (p.toNat ^ n.toNat), 0) else ([], 2)) else ([], 1)
theorem ilV_1 {p n : Int} (h : okP p = false) : ilV p n = ([], 1) := by unfold ilV; rw [if_neg (by rw [h]; decide)]
theorem ilV_2 {p n : Int} (h : okP p = true) (h2 : ¬ (1 ≤ n ∧ n ≤ 8)) : ilV p n = ([], 2) := by unfold ilV; rw [if_pos h, if_neg (fun h3 => h2 h3.1)]
theorem ilV_3 {p n : Nat} (h : okP (p : Int) = true) (h3 : ¬ p ^ n ≤ 343) : ilV (p : Int) (n : Int) = ([], 2) := by unfold ilV; rw [if_pos h, if_neg (fun h4 => h3 (by have := h4.2; rwa [Int.toNat_natCast, Int.toNat_natCast] at this))]
theorem ilV_0 {p n : Nat} (h : okP (p : Int) = true) (h1 : 1 ≤ n) (h2 : n ≤ 8) (h3 : p ^ n ≤ 343) : ilV (p : Int) (n : Int) = (irL p n (p ^ n), 0) := by unfold ilV; rw [if_pos h, if_pos ⟨by omega, by rw [Int.toNat_natCast, Int.toNat_natCast]; exact h3⟩]; rfl
theorem ilV_len (p n : Int) : (ilV p n).1.length ≤ 1000 := by
  unfold ilV
  split
  · split
    · rename_i h; exact Nat.le_trans (irL_len _ _ _) (by omega)
    · exact Nat.zero_le _
  · exact Nat.zero_le _
def IlF (p n : Int) (w : World) (e : Ending) (w' : World) : Prop := ∃ v, e = .returned (.tuple #[v, .int .i64 (ilV p n).2]) ∧ SlL w' w.heap.size 26 64 v (plR (ilV p n).1) ∧ Below w.heap.size w w'
set_option maxRecDepth 100000 in
set_option maxHeartbeats 3200000 in
theorem spec_IrreduciblesOf_any (p n : Int) (w : World) (hn1 : -9223372036854775808 ≤ n) (hn2 : n ≤ 9223372036854775807) :
    Calls Try.prog 45 #[.int .i64 p, .int .i64 n] w (IlF p n w) := by
  have hb : Below w.heap.size w w := Below.refl _ _
  go_enter Try.func45, Try.ntmps45
  cases hp : okP p with
  | false =>
    have HP := Lib.hid hp
    have HV := Lib.hid (ilV_1 (n := n) hp)
    clear hp
    go_wp2_with (first | (go_at_call 90; refine (l01Prime_any _ _).mono ?_; rintro e wS ⟨rfl, rfl⟩; rw [HP.out]))
    go_ret2
    exact ⟨_, by rw [HV.out]; rfl, by rw [HV.out]; exact (by rw [plR_nil]; exact SlL.nil _ _ hb.size), hb⟩
  | true =>
    by_cases hr : 1 ≤ n ∧ n ≤ 8
    · obtain ⟨n, rfl⟩ : ∃ j : Nat, n = (j : Int) := ⟨n.toNat, by omega⟩
      obtain ⟨p, rfl, p2, p7⟩ := okP_nat hp
      have hpr := prime_four hp
      have hn1' : 1 ≤ n := by omega
      have hn8 : n ≤ 8 := by omega
      have HP := Lib.hid hp
      have HV3 := Lib.hid (fun h => ilV_3 (n := n) hp h)
      have HV0 := Lib.hid (fun h => ilV_0 (n := n) hp hn1' hn8 h)
      clear hp hn1 hn2
      obtain ⟨Q, hQ⟩ : ∃ Q, Q = p ^ n := ⟨_, rfl⟩
      rw [← hQ] at HV3 HV0
      have HQ := Lib.hid hQ
      have HC := Lib.hid (fun W => l01Count_any p n W p2 p7 (by omega))
      rw [← hQ] at HC
      have hQb : Q ≤ 13841287201 := by rw [hQ]; exact mon_bound p7 (by omega)
      clear hQ
      by_cases hq : Q ≤ 343
      · have HV := Lib.hid (HV0.out hq)
        have hQi : (Q : Int) ≤ 343 := by omega
        go_upto_region 6 with (first | (go_at_call 90; refine (l01Prime_any _ _).mono ?_; rintro e wS ⟨rfl, rfl⟩; rw [HP.out]) | (go_at_call 81; refine (l01In_any _ _ _ _).mono ?_; rintro e wS ⟨rfl, rfl⟩; rw [show decide ((1 : Int) ≤ (n : Int) ∧ (n : Int) ≤ 8) = true by simp; omega]) | (go_at_call 91; refine (HC.out _).mono ?_; rintro e wS ⟨rfl, rfl⟩))
        obtain ⟨base, hbase0⟩ : ∃ b, b = w.heap.size := ⟨_, rfl⟩
        have ybw : w.heap.size ≤ base := Nat.le_of_eq hbase0.symm
        have hS0 : SlL (w.alloc (.cells #[] 26)) base 26 64 (.slice (some ⟨w.heap.size, 0, none⟩) 0 0) (plR (irL p n 0)) := by rw [irL_zero, plR_nil]; exact slL_empty w 26 64 (Nat.le_of_eq hbase0)
        have hb1 : Below w.heap.size w (w.alloc (.cells #[] 26)) := hb.alloc hb.size _
        clear hbase0 hb
        go_wp2_with (first | (go_at_call 91; refine (HC.out _).mono ?_; rintro e wS ⟨rfl, rfl⟩))
        go_loopw [6, 7] (fun s i wr => ∃ (j : Nat) (lst : Value), lst = s ∧ i = .int .i64 ((Q : Int) + (j : Int)) ∧ j ≤ Q ∧ Below w.heap.size w wr ∧ SlL wr base 26 64 lst (plR (irL p n j))) (fun _ i _ => Q + Q - (intOf i).toNat)
        case atStart => exact ⟨0, _, rfl, by simp, Nat.zero_le _, hb1, hS0⟩
        case round =>
          clear hb1 hS0
          obtain ⟨j, lst, rfl, rfl, hjQ, hb, hS⟩ := hrel
          by_cases hj : j < Q
          · have hji : (Q : Int) + (j : Int) < 2 * (Q : Int) := by omega
            have hmem : Q + j ∈ monL p n := by rw [monL_mem, ← HQ.out]; omega
            have hmx := mon_ofN p2 (by omega : n < 64) hmem
            have HOF := Lib.hid (show ∀ W, Calls Try.prog 92 #[.int .i64 (p : Int), .int .i64 ((Q : Int) + (j : Int))] W fun e w' => e = .returned (.agg (bcells 64 (ofN p (Q + j)))) ∧ Below W.heap.size W w' from fun W => l01Of_any p (Q + j) W p2 p7 (by omega))
            have HIR := Lib.hid (fun W => l01Irreducible_any p (ofN p (Q + j)) n W hpr (fun k _ => ofN_lt (by omega) _ k) hmx (by omega))
            have HLN := irL_len p n j
            have HYE := Lib.hid (irL_yes (p := p) (n := n) (j := j))
            have HNO := Lib.hid (irL_no (p := p) (n := n) (j := j))
            rw [← HQ.out] at HYE HNO
            clear hmem hmx
            have B0 := hS.top
            have B1 : SzG wr.heap.size wr := Nat.le_refl _
            clear hS
            go_upto_region 9 with (first | (go_at_call 91; refine (HC.out _).mono ?_; rintro e wS ⟨rfl, rfl⟩))
            have lt_B0 := B0.lt
            have lt_B1 := B1.lt
            go_upto_region 10 with (first | rw [← zero64] | (go_at_call 92; refine (HOF.out _).mono ?_; rintro e W1 ⟨rfl, hW1⟩; replace B0 := B0.below hW1 B0.lt; replace B1 := B1.below hW1 B1.lt; replace hb := (hb).trans (hW1.mono (hb).size)) | (refine wpList_store_blk rfl 26 (.tmp 8) (.tmp 37) rfl _ 64 (ofN p (Q + j)) rfl rfl 26 _ ((Blk.new W1 64 26 (fun _ => 0))) Try.size26 ?_; try simp only [Act.put]))
            have lt_B0 := B0.lt
            have lt_B1 := B1.lt
            have lhb := hb.size
            have qB0 : SlT ((W1.alloc (.cells (bcells 64 fun _ => 0) 26)).setRow (W1.heap.size) (bcells 64 (ofN p (Q + j)))) base wr.heap.size 26 64 lst (plR (irL p n j)) := ((B0.alloc (.cells (bcells 64 fun _ => 0) 26)).rowOther (by omega))
            have qB1 : SzG wr.heap.size ((W1.alloc (.cells (bcells 64 fun _ => 0) 26)).setRow (W1.heap.size) (bcells 64 (ofN p (Q + j)))) := ((B1.alloc (.cells (bcells 64 fun _ => 0) 26)).rowOther (by omega))
            have qB2 : Blk ((W1.alloc (.cells (bcells 64 fun _ => 0) 26)).setRow (W1.heap.size) (bcells 64 (ofN p (Q + j)))) (W1.heap.size) 64 26 (ofN p (Q + j)) := ((Blk.new W1 64 26 (fun _ => 0)).row (ofN p (Q + j)))
            have qhb : Below w.heap.size w ((W1.alloc (.cells (bcells 64 fun _ => 0) 26)).setRow (W1.heap.size) (bcells 64 (ofN p (Q + j)))) := (below_row (hb.alloc (by have := hb.size; simp; omega) (.cells (bcells 64 fun _ => 0) 26)) (by omega) _)
            obtain ⟨W2, hwo⟩ : ∃ v : World, v = ((W1.alloc (.cells (bcells 64 fun _ => 0) 26)).setRow (W1.heap.size) (bcells 64 (ofN p (Q + j)))) := ⟨_, rfl⟩
            rw [← hwo] at qB0 qB1 qB2 qhb ⊢
            clear hwo
            clear B0 B1 hb
            have B0 := qB0
            have B1 := qB1
            have B2 := qB2
            have hb := qhb
            clear qB0 qB1 qB2 qhb
            obtain ⟨N1, hNN⟩ : ∃ n : Nat, n = W1.heap.size := ⟨_, rfl⟩
            rw [← hNN] at lt_B0 lt_B1 lhb B2 ⊢
            clear hNN
            have zN1_0 := lt_B0
            have zN1_1 := lt_B1
            have zN1 := lhb
            clear lt_B0 lt_B1 lhb
            try simp only [Act.put, List.setIfInBounds_toArray, List.set_cons_zero, List.set_cons_succ]
            clear HOF
            cases hir : irB p (ofN p (Q + j)) with
            | true =>
              have HSN := Lib.hid (HYE.out hir)
              rw [hir] at HIR
              clear hir HYE HNO
              go_upto_region 11 with (first | (refine wpList_load_any rfl 26 (.tmp 8) rfl _ rfl 64 26 _ (B2) _ Try.underlying26 rfl Try.size26 ?_) | (go_at_call 99; refine (HIR.out _).mono ?_; rintro e W3 ⟨rfl, hW3⟩; replace B0 := B0.below hW3 B0.lt; replace B1 := B1.below hW3 B1.lt; replace B2 := B2.below hW3 B2.lt; replace hb := (hb).trans (hW3.mono (hb).size)))
              clear HIR
              go_wp2_with (first | (refine wpList_load_any rfl 26 (.tmp 8) rfl _ rfl 64 26 _ B2 _ Try.underlying26 rfl Try.size26 ?_) | (refine wpList_build_polys rfl 37 _ [ofN p (Q + j)] rfl 26 rfl Try.underlying37 Try.elem26 (by simp) (by simp) rfl ?_; intro wa hwa hps hba; clear hwa; have eB0 := B0.below hba B0.lt; have eB1 := B1.below hba B1.lt; have eB2 := B2.below hba B2.lt; have ehb := hb.trans (hba.mono hb.size)) | (at_builtin; refine wpList_append_sl _ rfl _ _ 37 rfl base 26 (.agg (bcells 64 fun _ => 0)) 64 64 Try.underlying37 Try.infoPoly (by simp [Value.cells, bl]) (by decide) lst _ rfl eB0.1 W3.heap.size (bl 64 (ofN p (Q + j))) rfl (bl_length _ _) (by have := hps.range (i := 0) (f := ofN p (Q + j)) rfl; rwa [Nat.zero_mul] at this) bl_one (by rw [plR_len]; unfold maxLen; omega) (by rw [plR_len]; omega) ?_; intro vp wp hSp hg1; have fhb := ehb.grown hg1 ehb.size (fun k e => Nat.le_trans ybw (eB0.1.own k e))))
              go_roundw
              case rel => exact ⟨j + 1, vp, rfl, by go_num, by omega, fhb, (by rw [HSN.out, plR_snoc]; exact hSp)⟩
              case measure => simp [intOf] <;> omega
            | false =>
              have HSN := Lib.hid (HNO.out hir)
              rw [hir] at HIR
              clear hir HYE HNO
              go_upto_region 8 with (first | (refine wpList_load_any rfl 26 (.tmp 8) rfl _ rfl 64 26 _ (B2) _ Try.underlying26 rfl Try.size26 ?_) | (go_at_call 99; refine (HIR.out _).mono ?_; rintro e W3 ⟨rfl, hW3⟩; replace B0 := B0.below hW3 B0.lt; replace B1 := B1.below hW3 B1.lt; replace B2 := B2.below hW3 B2.lt; replace hb := (hb).trans (hW3.mono (hb).size)))
              clear HIR
              go_wp2_with fail
              go_roundw
              case rel => exact ⟨j + 1, lst, rfl, by go_num, by omega, hb, (by rw [HSN.out]; exact B0.1)⟩
              case measure => simp [intOf] <;> omega
          · have hji : ¬ (Q : Int) + (j : Int) < 2 * (Q : Int) := by omega
            obtain rfl : j = Q := by omega
            go_wp2_with (first | (go_at_call 91; refine (HC.out _).mono ?_; rintro e wS ⟨rfl, rfl⟩))
            go_ret2
            exact ⟨_, by rw [HV.out]; rfl, by rw [HV.out]; exact hS.base ybw, hb⟩
      · have HV := Lib.hid (HV3.out hq)
        have hc3 : 343 < (Q : Int) := by omega
        go_wp2_with (first | (go_at_call 90; refine (l01Prime_any _ _).mono ?_; rintro e wS ⟨rfl, rfl⟩; rw [HP.out]) | (go_at_call 81; refine (l01In_any _ _ _ _).mono ?_; rintro e wS ⟨rfl, rfl⟩; rw [show decide ((1 : Int) ≤ (n : Int) ∧ (n : Int) ≤ 8) = true by simp; omega]) | (go_at_call 91; refine (HC.out _).mono ?_; rintro e wS ⟨rfl, rfl⟩))
        go_ret2
        exact ⟨_, by rw [HV.out]; rfl, by rw [HV.out]; exact (by rw [plR_nil]; exact SlL.nil _ _ hb.size), hb⟩
    · have HP := Lib.hid hp
      have HV := Lib.hid (ilV_2 hp hr)
      clear hp
      go_wp2_with (first | (go_at_call 90; refine (l01Prime_any _ _).mono ?_; rintro e wS ⟨rfl, rfl⟩; rw [HP.out]) | (go_at_call 81; refine (l01In_any _ _ _ _).mono ?_; rintro e wS ⟨rfl, rfl⟩; rw [show decide ((1 : Int) ≤ n ∧ n ≤ 8) = false by simp; omega]))
      go_ret2
      exact ⟨_, by rw [HV.out]; rfl, by rw [HV.out]; exact (by rw [plR_nil]; exact SlL.nil _ _ hb.size), hb⟩
end Go.Proofs.Ytpeehpaghdddgaa
