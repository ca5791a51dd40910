/-
  Walks: roots.
-/
import Derived.Test.YtpeehpaghdddgaaW52
namespace Go.Proofs.Ytpeehpaghdddgaa
open Go Go.RowKit
set_option linter.unusedVariables false
set_option linter.unusedSimpArgs false
attribute [local irreducible] deg
/-- the roots below j -/
def rtL (p : Nat) (f : Nat → Nat) (j : Nat) : List Nat := (List.range j).filter fun x => decide (hrN p x f 64 = 0)
theorem rtL_zero (p : Nat) (f : Nat → Nat) : rtL p f 0 = [] := rfl
theorem rtL_yes {p : Nat} {f : Nat → Nat} {j : Nat} (h : hrN p j f 64 = 0) : rtL p f (j + 1) = rtL p f j ++ [j] := by
  unfold rtL; rw [List.range_succ, List.filter_append]; simp [h]
theorem rtL_no {p : Nat} {f : Nat → Nat} {j : Nat} (h : ¬ hrN p j f 64 = 0) : rtL p f (j + 1) = rtL p f j := by
  unfold rtL; rw [List.range_succ, List.filter_append]; simp [h]
theorem rtL_len (p : Nat) (f : Nat → Nat) (j : Nat) : (rtL p f j).length ≤ j := by
  unfold rtL; exact Nat.le_trans (List.length_filter_le _ _) (by rw [List.length_range]; exact Nat.le_refl _)
/-- both answers -/
def rtV (p : Int) (f : Nat → Nat) : List Nat × Int := if codeL p [f] = 0 then (if deg f < 0 then ([], 5) else (rtL p.toNat f p.toNat, 0)) else ([], 1)
theorem rtV_1 {p : Int} {f : Nat → Nat} (h : codeL p [f] = 1) : rtV p f = ([], 1) := by unfold rtV; rw [if_neg (by omega)]
theorem rtV_5 {p : Int} {f : Nat → Nat} (h : codeL p [f] = 0) (h2 : deg f < 0) : rtV p f = ([], 5) := by unfold rtV; rw [if_pos h, if_pos h2]
theorem rtV_0 {n : Nat} {f : Nat → Nat} (h : codeL (n : Int) [f] = 0) (h2 : ¬ deg f < 0) : rtV (n : Int) f = (rtL n f n, 0) := by unfold rtV; rw [if_pos h, if_neg h2]; rfl
theorem rtV_len (p : Int) (f : Nat → Nat) : (rtV p f).1.length ≤ 1000 := by
  rcases codeL_two p [f] with h | h
  · by_cases h2 : deg f < 0
    · rw [rtV_5 h h2]; exact Nat.zero_le _
    · obtain ⟨n, hn, n2, n7⟩ := okP_nat (codeL_zero h).1
      subst hn
      rw [rtV_0 h h2]
      have := rtL_len n f n
      show (rtL n f n).length ≤ 1000
      omega
  · rw [rtV_1 h]; exact Nat.zero_le _
def RtF (p : Int) (f : Nat → Nat) (w : World) (e : Ending) (w' : World) : Prop := ∃ v, e = .returned (.tuple #[v, .int .i64 (rtV p f).2]) ∧ SlL w' w.heap.size 2 1 v (ilR (rtV p f).1) ∧ Below w.heap.size w w'
set_option maxRecDepth 100000 in
set_option maxHeartbeats 3200000 in
theorem spec_RootsOf_any (p : Int) (f : Nat → Nat) (hf : byte f) (w : World) :
    Calls Try.prog 23 #[.int .i64 p, .agg (bcells 64 f)] w (RtF p f w) := by
  go_enter Try.func23, Try.ntmps23
  go_upto_region 1 with (fail)
  obtain ⟨W1, hwo⟩ : ∃ v : World, v = (w.alloc (.cells (bcells 64 (f)) 26)) := ⟨_, rfl⟩
  have B0 : Blk W1 (w.heap.size) 64 26 (f) := by subst hwo; have := (Blk.new w 64 26 (f)); simpa using this
  have hb : Below w.heap.size w W1 := by subst hwo; exact ((Below.refl _ _).alloc (Nat.le_refl _) _)
  rw [← hwo]
  clear hwo
  go_upto_region 2 with (first | (refine wpList_load_any rfl 26 (.tmp 3) rfl _ rfl 64 26 _ B0 _ Try.underlying26 rfl Try.size26 ?_) | (refine wpList_build_polys rfl 37 _ [f] rfl 26 rfl Try.underlying37 Try.elem26 (by simp) (by simp) rfl ?_; intro wa hwa hps hba; clear hwa) | (go_at_call 76; refine (l01Code_any p [f] (by simp [hf]) _ _ hps (by simp)).mono ?_; rintro e W2 ⟨rfl, hbb⟩))
  have hBB : Below W1.heap.size W1 W2 := hba.trans (hbb.mono hba.size)
  replace B0 := B0.below hBB B0.lt
  replace hb := hb.trans (hBB.mono hb.size)
  clear hBB hba hbb hps
  rcases codeL_two p [f] with hc | hc
  · obtain ⟨n, hn, n2, n7⟩ := okP_nat (codeL_zero hc).1
    subst hn
    have lf := lt_of_code hc (f := f) (by simp)
    have hpr := prime_of hc
    by_cases hz : deg f < 0
    · have HV := Lib.hid (rtV_5 hc hz)
      rw [hc]
      clear hc
      go_upto_region 4 with (first | (refine wpList_load_any_g rfl 26 (.tmp 3) rfl _ rfl 64 26 _ (B0) _ Try.underlying26 rfl Try.size26 ?_) | (go_at_call 77; refine (l01Deg_any f _).mono ?_; rintro e W3 ⟨rfl, hW3⟩; replace B0 := B0.below hW3 B0.lt; replace hb := (hb).trans (hW3.mono (hb).size)))
      go_wp2_with fail
      go_ret2
      exact ⟨_, by rw [HV.out]; rfl, by rw [HV.out]; exact (by rw [ilR_nil]; exact SlL.nil _ _ hb.size), hb⟩
    · have HV := Lib.hid (rtV_0 hc hz)
      rw [hc]
      clear hc
      go_upto_region 4 with (first | (refine wpList_load_any_g rfl 26 (.tmp 3) rfl _ rfl 64 26 _ (B0) _ Try.underlying26 rfl Try.size26 ?_) | (go_at_call 77; refine (l01Deg_any f _).mono ?_; rintro e W3 ⟨rfl, hW3⟩; replace B0 := B0.below hW3 B0.lt; replace hb := (hb).trans (hW3.mono (hb).size)))
      go_upto_region 7 with (fail)
      obtain ⟨base, hbase0⟩ : ∃ b, b = W3.heap.size := ⟨_, rfl⟩
      have ybw : w.heap.size ≤ base := by rw [hbase0]; exact hb.size
      have yb0 : (w.heap.size) < base := by rw [hbase0]; exact B0.lt
      have hS0 : SlL (W3.alloc (.cells #[] 2)) base 2 1 (.slice (some ⟨W3.heap.size, 0, none⟩) 0 0) (ilR (rtL n f 0)) := by rw [rtL_zero, ilR_nil]; exact slL_empty W3 2 1 (Nat.le_of_eq hbase0)
      have hb1 : Below w.heap.size w (W3.alloc (.cells #[] 2)) := hb.alloc hb.size _
      have qB : Blk (W3.alloc (.cells #[] 2)) (w.heap.size) 64 26 f := B0.alloc _
      clear hbase0 hb B0
      go_wp2_with fail
      go_loopw [7, 8] (fun s i wr => ∃ (j : Nat) (lst : Value), lst = s ∧ i = .int .i64 (j : Int) ∧ j ≤ n ∧ Below w.heap.size w wr ∧ Blk wr (w.heap.size) 64 26 f ∧ SlL wr base 2 1 lst (ilR (rtL n f j))) (fun _ i _ => n - (intOf i).toNat)
      case atStart => exact ⟨0, _, rfl, rfl, Nat.zero_le _, hb1, qB, hS0⟩
      case round =>
        clear hb1 qB hS0
        obtain ⟨j, lst, rfl, rfl, hjn, hb, B0, hS⟩ := hrel
        by_cases hj : j < n
        · have hji : (j : Int) < (n : Int) := by omega
          obtain ⟨V, hV⟩ : ∃ V, V = hrN n j f 64 := ⟨_, rfl⟩
          have HVA := Lib.hid (fun W => l01Point_any n f j W n2 n7 hj lf)
          rw [← hV] at HVA
          have hRL := rtL_len n f j
          have B1 := hS.top
          clear hS
          go_upto_region 10 with (fail)
          by_cases hz0 : V = 0
          · have hq : ((V : Int) == 0) = true := by simp [hz0]
            have HSN := Lib.hid (rtL_yes (p := n) (f := f) (j := j) (by rw [← hV]; exact hz0))
            clear hz0 hV
            go_upto_region 11 with (first | (refine wpList_load_any rfl 26 (.tmp 3) rfl _ rfl 64 26 _ (B0) _ Try.underlying26 rfl Try.size26 ?_) | (go_at_call 78; refine (HVA.out _).mono ?_; rintro e W4 ⟨rfl, hW4⟩; replace B0 := B0.below hW4 B0.lt; replace B1 := B1.below hW4 B1.lt; replace hb := (hb).trans (hW4.mono (hb).size)))
            clear HVA
            go_wp2_with (first | (refine wpList_buildI rfl 23 _ (j : Int) rfl 2 Try.underlying23 Try.elemInt rfl ?_; intro wa hps hba; have eB0 := B0.below hba B0.lt; have eB1 := B1.below hba B1.lt; have ehb := hb.trans (hba.mono hb.size)) | (at_builtin; refine wpList_append_sl _ rfl _ _ 23 rfl base 2 (.int .i64 0) 1 8 Try.underlying23 Try.infoInt (by rfl) (by decide) lst _ rfl eB1.1 W4.heap.size [.int .i64 (j : Int)] rfl rfl (Row.range hps) (by intro u hu; rw [List.mem_singleton] at hu; subst hu; rfl) (by rw [ilR_len]; unfold maxLen; omega) (by rw [ilR_len]; omega) ?_; intro vp wp hSp hg1; have fB0 := eB0.grownO hg1 (eB1.1.own) (base := base) (by omega); have fhb := ehb.grown hg1 ehb.size (fun k e => Nat.le_trans ybw (eB1.1.own k e))))
            go_roundw
            case rel => exact ⟨j + 1, vp, rfl, by go_num, by omega, fhb, fB0, (by rw [HSN.out, ilR_snoc]; exact hSp)⟩
            case measure => simp [intOf] <;> omega
          · have hq : ((V : Int) == 0) = false := by simp [hz0]
            have HSN := Lib.hid (rtL_no (p := n) (f := f) (j := j) (by rw [← hV]; exact hz0))
            clear hz0 hV
            go_upto_region 9 with (first | (refine wpList_load_any rfl 26 (.tmp 3) rfl _ rfl 64 26 _ (B0) _ Try.underlying26 rfl Try.size26 ?_) | (go_at_call 78; refine (HVA.out _).mono ?_; rintro e W4 ⟨rfl, hW4⟩; replace B0 := B0.below hW4 B0.lt; replace B1 := B1.below hW4 B1.lt; replace hb := (hb).trans (hW4.mono (hb).size)))
            clear HVA
            go_wp2_with fail
            go_roundw
            case rel => exact ⟨j + 1, lst, rfl, by go_num, by omega, hb, B0, (by rw [HSN.out]; exact B1.1)⟩
            case measure => simp [intOf] <;> omega
        · have hji : ¬ (j : Int) < (n : Int) := by omega
          obtain rfl : j = n := by omega
          go_wp2_with fail
          go_ret2
          exact ⟨_, by rw [HV.out]; rfl, by rw [HV.out]; exact hS.base ybw, hb⟩
  · have HV := Lib.hid (rtV_1 hc)
    rw [hc]
    clear hc
    go_wp2_with fail
    go_ret2
    exact ⟨_, by rw [HV.out]; rfl, by rw [HV.out]; exact (by rw [ilR_nil]; exact SlL.nil _ _ hb.size), hb⟩
set_option maxRecDepth 100000 in
set_option maxHeartbeats 3200000 in
theorem impl_RootsOf_any (p : Int) (f : Nat → Nat) (hf : byte f) (w : World) :
    Calls Try.prog 25 #[.int .i64 p, .agg (bcells 64 f)] w (RtF p f w) := by
  go_enter Try.func25, Try.ntmps25
  go_upto_region 1 with (fail)
  obtain ⟨W1, hwo⟩ : ∃ v : World, v = (w.alloc (.cells (bcells 64 (f)) 26)) := ⟨_, rfl⟩
  have B0 : Blk W1 (w.heap.size) 64 26 (f) := by subst hwo; have := (Blk.new w 64 26 (f)); simpa using this
  have hb : Below w.heap.size w W1 := by subst hwo; exact ((Below.refl _ _).alloc (Nat.le_refl _) _)
  rw [← hwo]
  clear hwo
  go_upto_region 2 with (first | (refine wpList_load_any rfl 26 (.tmp 3) rfl _ rfl 64 26 _ B0 _ Try.underlying26 rfl Try.size26 ?_) | (refine wpList_build_polys rfl 37 _ [f] rfl 26 rfl Try.underlying37 Try.elem26 (by simp) (by simp) rfl ?_; intro wa hwa hps hba; clear hwa) | (go_at_call 79; refine (checkPolys_any p [f] (by simp [hf]) _ _ hps (by simp)).mono ?_; rintro e W2 ⟨rfl, hbb⟩))
  have hBB : Below W1.heap.size W1 W2 := hba.trans (hbb.mono hba.size)
  replace B0 := B0.below hBB B0.lt
  replace hb := hb.trans (hBB.mono hb.size)
  clear hBB hba hbb hps
  rcases codeL_two p [f] with hc | hc
  · obtain ⟨n, hn, n2, n7⟩ := okP_nat (codeL_zero hc).1
    subst hn
    have lf := lt_of_code hc (f := f) (by simp)
    have hpr := prime_of hc
    by_cases hz : deg f < 0
    · have HV := Lib.hid (rtV_5 hc hz)
      have hgd := Try.noGuard26
      have heq := fun W => run_equalIn_bytes (P := Try.prog) W 9998 26 5 64 f (fun _ => 0) Try.underlying26 Try.underlying5 Try.size5
      rw [eqN_zero, show decide (deg f < 0) = true by simp; omega] at heq
      simp only [zero64] at heq
      rw [hc]
      clear hc
      go_upto_region 4 with (fail)
      go_upto_region 5 with (first | (refine wpList_load_any rfl 26 (.tmp 3) rfl _ rfl 64 26 _ (B0) _ Try.underlying26 rfl Try.size26 ?_))
      clear heq hgd
      go_wp2_with fail
      go_ret2
      exact ⟨_, by rw [HV.out]; rfl, by rw [HV.out]; exact (by rw [ilR_nil]; exact SlL.nil _ _ hb.size), hb⟩
    · have HV := Lib.hid (rtV_0 hc hz)
      have hgd := Try.noGuard26
      have heq := fun W => run_equalIn_bytes (P := Try.prog) W 9998 26 5 64 f (fun _ => 0) Try.underlying26 Try.underlying5 Try.size5
      rw [eqN_zero, show decide (deg f < 0) = false by simp; omega] at heq
      simp only [zero64] at heq
      rw [hc]
      clear hc
      go_upto_region 4 with (fail)
      go_upto_region 6 with (first | (refine wpList_load_any rfl 26 (.tmp 3) rfl _ rfl 64 26 _ (B0) _ Try.underlying26 rfl Try.size26 ?_))
      clear heq hgd
      obtain ⟨base, hbase0⟩ : ∃ b, b = W2.heap.size := ⟨_, rfl⟩
      have ybw : w.heap.size ≤ base := by rw [hbase0]; exact hb.size
      have yb0 : (w.heap.size) < base := by rw [hbase0]; exact B0.lt
      have hS0 : SlL W2 base 2 1 (.slice none 0 0) (ilR (rtL n f 0)) := by rw [rtL_zero, ilR_nil]; exact SlL.nil _ _ (Nat.le_of_eq hbase0)
      clear hbase0
      go_wp2_with fail
      go_loopw [7, 20] (fun s i wr => ∃ (j : Nat) (lst : Value), lst = s ∧ i = .int .i64 (j : Int) ∧ j ≤ n ∧ Below w.heap.size w wr ∧ Blk wr (w.heap.size) 64 26 f ∧ SlL wr base 2 1 lst (ilR (rtL n f j))) (fun _ i _ => n - (intOf i).toNat)
      case atStart => exact ⟨0, _, rfl, rfl, Nat.zero_le _, hb, B0, hS0⟩
      case round =>
        clear hb B0 hS0
        obtain ⟨j, lst, rfl, rfl, hjn, hb, B0, hS⟩ := hrel
        by_cases hj : j < n
        · have hji : (j : Int) < (n : Int) := by omega
          obtain ⟨V, hV⟩ : ∃ V, V = hrN n j f 64 := ⟨_, rfl⟩
          have HVA := Lib.hid (fun W => valueAt_any n f j W n2 n7 hj lf)
          rw [← hV] at HVA
          have hRL := rtL_len n f j
          have B1 := hS.top
          clear hS
          go_upto_region 10 with (fail)
          by_cases hz0 : V = 0
          · have hq : ((V : Int) == 0) = true := by simp [hz0]
            have HSN := Lib.hid (rtL_yes (p := n) (f := f) (j := j) (by rw [← hV]; exact hz0))
            clear hz0 hV
            go_upto_region 11 with (first | (refine wpList_load_any rfl 26 (.tmp 3) rfl _ rfl 64 26 _ (B0) _ Try.underlying26 rfl Try.size26 ?_) | (go_at_call 80; refine (HVA.out _).mono ?_; rintro e W3 ⟨rfl, hW3⟩; replace B0 := B0.below hW3 B0.lt; replace B1 := B1.below hW3 B1.lt; replace hb := (hb).trans (hW3.mono (hb).size)))
            clear HVA
            go_wp2_with (first | (refine wpList_buildI rfl 23 _ (j : Int) rfl 2 Try.underlying23 Try.elemInt rfl ?_; intro wa hps hba; have eB0 := B0.below hba B0.lt; have eB1 := B1.below hba B1.lt; have ehb := hb.trans (hba.mono hb.size)) | (at_builtin; refine wpList_append_sl _ rfl _ _ 23 rfl base 2 (.int .i64 0) 1 8 Try.underlying23 Try.infoInt (by rfl) (by decide) lst _ rfl eB1.1 W3.heap.size [.int .i64 (j : Int)] rfl rfl (Row.range hps) (by intro u hu; rw [List.mem_singleton] at hu; subst hu; rfl) (by rw [ilR_len]; unfold maxLen; omega) (by rw [ilR_len]; omega) ?_; intro vp wp hSp hg1; have fB0 := eB0.grownO hg1 (eB1.1.own) (base := base) (by omega); have fhb := ehb.grown hg1 ehb.size (fun k e => Nat.le_trans ybw (eB1.1.own k e))))
            go_roundw
            case rel => exact ⟨j + 1, vp, rfl, by go_num, by omega, fhb, fB0, (by rw [HSN.out, ilR_snoc]; exact hSp)⟩
            case measure => simp [intOf] <;> omega
          · have hq : ((V : Int) == 0) = false := by simp [hz0]
            have HSN := Lib.hid (rtL_no (p := n) (f := f) (j := j) (by rw [← hV]; exact hz0))
            clear hz0 hV
            go_upto_region 12 with (first | (refine wpList_load_any rfl 26 (.tmp 3) rfl _ rfl 64 26 _ (B0) _ Try.underlying26 rfl Try.size26 ?_) | (go_at_call 80; refine (HVA.out _).mono ?_; rintro e W3 ⟨rfl, hW3⟩; replace B0 := B0.below hW3 B0.lt; replace B1 := B1.below hW3 B1.lt; replace hb := (hb).trans (hW3.mono (hb).size)))
            clear HVA
            go_wp2_with fail
            go_roundw
            case rel => exact ⟨j + 1, lst, rfl, by go_num, by omega, hb, B0, (by rw [HSN.out]; exact B1.1)⟩
            case measure => simp [intOf] <;> omega
        · have hji : ¬ (j : Int) < (n : Int) := by omega
          obtain rfl : j = n := by omega
          go_wp2_with fail
          go_ret2
          exact ⟨_, by rw [HV.out]; rfl, by rw [HV.out]; exact hS.base ybw, hb⟩
  · have HV := Lib.hid (rtV_1 hc)
    rw [hc]
    clear hc
    go_wp2_with fail
    go_ret2
    exact ⟨_, by rw [HV.out]; rfl, by rw [HV.out]; exact (by rw [ilR_nil]; exact SlL.nil _ _ hb.size), hb⟩
end Go.Proofs.Ytpeehpaghdddgaa
