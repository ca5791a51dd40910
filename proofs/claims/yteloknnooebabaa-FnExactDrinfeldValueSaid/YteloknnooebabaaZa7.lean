/-
  What the rows of this claim rest on: arrays of bytes, walks of the functions, plain mathematics.
-/
import Derived.Test.YteloknnooebabaaZa6
import Derived.Test.YteloknnooebabaaRows
import Derived.ProofKit
import Derived.JoinedOf
section
namespace Go.Proofs.Yteloknnooebabaa
open Go Go.RowKit
set_option linter.unusedVariables false
set_option linter.unusedSimpArgs false
theorem built_dr (p : Int) (m G D : Nat → Nat) : Try.prog.built 58 [(0, .int .i64 p), (1, .agg (zb 64 m)), (2, .agg (zb 64 G)), (3, .agg (zb 64 D))] = some (drC p m G D).toArray := by unfold drC zb bl; kernel_rfl
theorem Try.elem58 : (Try.prog.info? 58).map (fun i => (i.size, i.zero.isSome)) = some (193, true) := by kernel_rfl
theorem Try.infoDri : (Try.prog.info? 58).map (fun i => (i.zero, i.size, i.bytes)) = some (some (.agg (drC 0 (fun _ => 0) (fun _ => 0) (fun _ => 0)).toArray), 193, 200) := by unfold drC bl; kernel_rfl
theorem drC_ones (p : Int) (m G D : Nat → Nat) : ∀ u ∈ drC p m G D, u.oneCell' = true := fun u hu => by
 have := Array.all_eq_true_iff_forall_mem.1 (drC_all p m G D) u (by simpa using hu)
 exact this
/-- the modules with G as the one of the number g, D before j -/
def adG (n : Nat) (m : Nat → Nat) (g j : Nat) : List (Int × (Nat → Nat) × (Nat → Nat) × (Nat → Nat)) := (List.range j).map fun d => ((n : Int), m, ofN n g, ofN n (d + 1))
def adL (n : Nat) (m : Nat → Nat) (Q i : Nat) : List (Int × (Nat → Nat) × (Nat → Nat) × (Nat → Nat)) := (List.range i).flatMap fun g => adG n m g (Q - 1)
theorem adG_z (n : Nat) (m : Nat → Nat) (g : Nat) : adG n m g 0 = [] := rfl
theorem adG_s (n : Nat) (m : Nat → Nat) (g j : Nat) : adG n m g (j + 1) = adG n m g j ++ [((n : Int), m, ofN n g, ofN n (j + 1))] := by unfold adG; rw [List.range_succ, List.map_append]; rfl
theorem adG_len (n : Nat) (m : Nat → Nat) (g j : Nat) : (adG n m g j).length = j := by unfold adG; rw [List.length_map, List.length_range]
theorem adL_z (n : Nat) (m : Nat → Nat) (Q : Nat) : adL n m Q 0 = [] := rfl
theorem adL_s (n : Nat) (m : Nat → Nat) (Q i : Nat) : adL n m Q (i + 1) = adL n m Q i ++ adG n m i (Q - 1) := by unfold adL; rw [List.range_succ, List.flatMap_append]; simp
theorem adL_len (n : Nat) (m : Nat → Nat) (Q : Nat) : ∀ i, (adL n m Q i).length = i * (Q - 1)
 | 0 => by rw [adL_z]; simp
 | i + 1 => by rw [adL_s, List.length_append, adL_len n m Q i, adG_len, Nat.succ_mul]
attribute [local irreducible] drC
attribute [irreducible] adG adL
noncomputable def adV (p : Int) (m : Nat → Nat) : List (Int × (Nat → Nat) × (Nat → Nat) × (Nat → Nat)) × Int :=
 if codeL p [m] = 0 then (if flV p m = true ∧ p.toNat ^ (deg m).toNat ≤ 16 then (adL p.toNat m (p.toNat ^ (deg m).toNat) (p.toNat ^ (deg m).toNat), 0) else ([], 2)) else ([], 1)
theorem adV_1 {p : Int} {m : Nat → Nat} (h : codeL p [m] = 1) : adV p m = ([], 1) := if_neg (by omega)
theorem adV_2 {p : Int} {m : Nat → Nat} (h : codeL p [m] = 0) (h2 : flV p m = false) : adV p m = ([], 2) := by unfold adV; rw [if_pos h, if_neg (fun x => by rw [h2] at x; cases x.1)]
theorem adV_3 {n d : Nat} {m : Nat → Nat} (h : codeL (n : Int) [m] = 0) (hd : deg m = (d : Int)) (h3 : ¬ n ^ d ≤ 16) : adV (n : Int) m = ([], 2) := by
 unfold adV; rw [if_pos h, hd, if_neg (fun x => h3 x.2)]
theorem adV_0 {n d : Nat} {m : Nat → Nat} (h : codeL (n : Int) [m] = 0) (hd : deg m = (d : Int)) (h2 : flV (n : Int) m = true) (h3 : n ^ d ≤ 16) : adV (n : Int) m = (adL n m (n ^ d) (n ^ d), 0) := by
 unfold adV; rw [if_pos h, hd, if_pos ⟨h2, h3⟩]; rfl
theorem adV_len (p : Int) (m : Nat → Nat) : (adV p m).1.length ≤ 1000 := by
 unfold adV
 split
 · split
   · rename_i h
     rw [adL_len]
     have h1 := h.2
     exact Nat.le_trans (Nat.mul_le_mul h1 (show p.toNat ^ (deg m).toNat - 1 ≤ 16 by omega)) (by decide)
   · exact Nat.zero_le _
 · exact Nat.zero_le _
def AdF (p : Int) (m : Nat → Nat) (w : World) (e : Ending) (w' : World) : Prop := ∃ v, e = .returned (.tuple #[v, .int .i64 (adV p m).2]) ∧ SlL w' w.heap.size 58 193 v (drRows (adV p m).1) ∧ Below w.heap.size w w'
attribute [irreducible] adV
attribute [local irreducible] irB monUp monB okA flV ofN
set_option maxRecDepth 100000 in
set_option maxHeartbeats 6400000 in
theorem l06All_any (n : Nat) (m : Nat → Nat) (d Q : Nat) (w : World) (n2 : 2 ≤ n) (n7 : n ≤ 7) (hd : deg m = (d : Int)) (hd4 : d ≤ 4) (hQ : n ^ d = Q) (hQ16 : Q ≤ 16) (hQ1 : 1 ≤ Q) :
 Calls Try.prog 181 #[.int .i64 (n : Int), .agg (zb 64 m)] w fun e w' => ∃ v, e = .returned v ∧ SlL w' w.heap.size 58 193 v (drRows (adL n m Q Q)) ∧ Below w.heap.size w w' := by
 have HDG := Lib.hid (fun W => l01Deg_any m W)
 rw [hd] at HDG
 have HC := Lib.hid (fun W => l01Count_any n d W n2 n7 (by omega))
 rw [hQ] at HC
 clear hd hQ
 go_enter Try.func181, Try.ntmps181
 go_upto_region 1 with (fail)
 obtain ⟨W1, hwo⟩ : ∃ v : World, v = (w.alloc (.cells (zb 64 (m)) 24)) := ⟨_, rfl⟩
 have B0 : Blk W1 (w.heap.size) 64 24 (m) := by subst hwo; have := (Blk.new w 64 24 (m)); simpa using this
 have hb : Below w.heap.size w W1 := by subst hwo; exact ((Below.refl _ _).alloc (Nat.le_refl _) _)
 rw [← hwo]
 clear hwo
 obtain ⟨base, hbase0⟩ : ∃ b, b = W1.heap.size := ⟨_, rfl⟩
 have hbw : w.heap.size ≤ base := by rw [hbase0]; exact hb.size
 have hbm : w.heap.size < base := by rw [hbase0]; exact B0.lt
 have hS0 : SlL (W1.alloc (.cells #[] 58)) base 58 193 (.slice (some ⟨W1.heap.size, 0, none⟩) 0 0) [] := slL_empty W1 58 193 (Nat.le_of_eq hbase0)
 have hb1 : Below w.heap.size w (W1.alloc (.cells #[] 58)) := hb.alloc hb.size _
 replace B0 := B0.alloc (.cells #[] 58)
 clear hb hbase0
 go_upto_region 2 with (first | (refine zla (.tmp 3) B0 Try.underlying24 Try.size24 ?_) | (go_at_call 124; refine (HDG.out _).mono ?_; rintro e W5 ⟨rfl, hy⟩; replace hS0 := hS0.zw hy; replace B0 := B0.zw hy; replace hb1 := hb1.trans (hy.mono hb1.size)) | (go_at_call 163; refine (HC.out _).mono ?_; rintro e wS ⟨rfl, rfl⟩))
 have hb := hb1
 clear hb1
 go_wp2_with fail
 go_loopw [5, 7] (fun s c wr => ∃ (i : Nat) (lst : Value), lst = s ∧ c = .int .i64 (i : Int) ∧ i ≤ Q ∧ Below w.heap.size w wr ∧ Blk wr (w.heap.size) 64 24 m ∧ SlL wr base 58 193 lst (drRows (adL n m Q i))) (fun _ c _ => Q - (intOf c).toNat)
 case atStart => exact ⟨0, _, rfl, rfl, Nat.zero_le _, hb, B0, by rw [adL_z, drRows_nil]; exact hS0⟩
 case round =>
  clear hb B0 hS0
  obtain ⟨i, lst, rfl, rfl, hiQ, hb, B0, hSl⟩ := hrel
  by_cases hi : i < Q
  · have hiI : (i : Int) < (Q : Int) := by omega
    go_wp2_with fail
    go_loopw [5, 8] (fun s c wr => ∃ (j : Nat) (lst : Value), lst = s ∧ c = .int .i64 ((j + 1 : Nat) : Int) ∧ j ≤ Q - 1 ∧ Below w.heap.size w wr ∧ Blk wr (w.heap.size) 64 24 m ∧ SlL wr base 58 193 lst (drRows (adL n m Q i ++ adG n m i j))) (fun _ c _ => Q - (intOf c).toNat)
    case atStart => exact ⟨0, lst, rfl, rfl, Nat.zero_le _, hb, B0, by rw [adG_z, List.append_nil]; exact hSl⟩
    case round =>
     clear hb B0 hSl
     obtain ⟨j, lst, rfl, rfl, hjQ, hb, B0, hSl⟩ := hrel
     by_cases hj : j < Q - 1
     · obtain ⟨D, hD⟩ : ∃ D, D = j + 1 := ⟨_, rfl⟩
       have hDI : (j : Int) + 1 = (D : Int) := by omega
       have hlen : (adL n m Q i ++ adG n m i j).length ≤ 600 := by
        rw [List.length_append, adL_len, adG_len]
        have : i * (Q - 1) ≤ 16 * 15 := Nat.mul_le_mul (by omega) (by omega)
        omega
       have HSN := Lib.hid (show drRows (adL n m Q i ++ adG n m i (j + 1)) = drRows (adL n m Q i ++ adG n m i j) ++ [drC (n : Int) m (ofN n i) (ofN n D)] by rw [adG_s, ← List.append_assoc, drRows_snoc, hD])
       have HO1 := Lib.hid (fun W => l01Of_any n i W n2 n7 (by omega))
       have HO2 := Lib.hid (fun W => l01Of_any n D W n2 n7 (by omega))
       have hjI : ((j + 1 : Nat) : Int) < (Q : Int) := by omega
       rw [show ((j + 1 : Nat) : Int) = (D : Int) by omega] at hjI ⊢
       have HD := Lib.hid hD
       clear hD
       go_upto_region 8 with (fail)
       have lt_B0 := B0.lt
       have hbase := hb.size
       refine wp_region_stepsU Try.mixed (by kernel_rfl) (by kernel_rfl) (fun v => by (simp only [frL, Act.put, pA, pB, pC, Nat.reduceAdd, Nat.zero_add]; exact rfl))
        (fun L v wx => Below w.heap.size w wx ∧ wr.heap.size ≤ wx.heap.size ∧ Blk wx (w.heap.size) 64 24 m ∧ (L 11 = false → SlL wx base 58 193 lst (drRows (adL n m Q i ++ adG n m i j))) ∧ (L 0 = true → v 0 = lst) ∧ (L 1 = true → v 1 = (.int .i64 (n : Int))) ∧ (L 2 = true → v 2 = (.agg (zb 64 m))) ∧ (L 3 = true → v 3 = (.int .i64 (n : Int))) ∧ (L 4 = true → v 4 = (.int .i64 (i : Int))) ∧ (L 5 = true → v 5 = (.agg (zb 64 (ofN n i)))) ∧ (L 6 = true → v 6 = (.int .i64 (n : Int))) ∧ (L 7 = true → v 7 = (.int .i64 (D : Int))) ∧ (L 8 = true → v 8 = (.agg (zb 64 (ofN n D)))) ∧ (L 9 = true → v 9 = (.agg (drC (n : Int) m (ofN n i) (ofN n D)).toArray)) ∧ (L 12 = false → v 12 = lst) ∧ (L 11 = false → L 10 = true → ∃ b, v 10 = .slice (some ⟨b, 0, none⟩) 1 1 ∧ wr.heap.size ≤ b ∧ Row wx b 58 (drC (n : Int) m (ofN n i) (ofN n D)).toArray) ∧ (L 11 = true → SlL wx base 58 193 (v 11) (drRows (adL n m Q i ++ adG n m i (j + 1)))) ∧ (L 12 = true → v 12 = v 11)) ?_ ?_ ?_
       · exact ⟨hb.drew, Nat.le_refl _, B0.drew, (fun _ => SlL.drew hSl), (fun h => by cases h), (fun h => by cases h), (fun h => by cases h), (fun h => by cases h), (fun h => by cases h), (fun h => by cases h), (fun h => by cases h), (fun h => by cases h), (fun h => by cases h), (fun h => by cases h), (fun _ => rfl), (fun _ h => by cases h), (fun h => by cases h), (fun h => by cases h)⟩
       · refine (.cons rfl ?_ (.cons rfl ?_ (.cons rfl ?_ (.cons rfl ?_ (.cons rfl ?_ (.cons rfl ?_ (.cons rfl ?_ (.cons rfl ?_ (.cons rfl ?_ (.cons rfl ?_ (.cons rfl ?_ (.cons rfl ?_ (.cons rfl ?_ (.nil _))))))))))))))
         · intro L v wx hd hn hU ⟨hB, hz, s0, sl, h0, h1, h2, h3, h4, h5, h6, h7, h8, h9, hI, hb_, hA_, hC_⟩ K hK
           have eI := hI (by cases hl : L 12 with | false => rfl | true => exact absurd rfl (hn 12 _ rfl hl ⟨0, .phase⟩ (by simp) rfl))
           go_wp2_with fail
           exact hK _ lst _ (by simp only [Act.put, pA, pB, pC, eI]) ⟨hB, hz, s0, sl, (fun _ => rfl), h1, h2, h3, h4, h5, h6, h7, h8, h9, hI, hb_, hA_, hC_⟩
         · intro L v wx hd hn hU ⟨hB, hz, s0, sl, h0, h1, h2, h3, h4, h5, h6, h7, h8, h9, hI, hb_, hA_, hC_⟩ K hK
           go_wp2_with fail
           exact hK _ (.int .i64 (n : Int)) _ (by simp only [Act.put, pA, pB, pC]) ⟨hB, hz, s0, sl, h0, (fun _ => rfl), h2, h3, h4, h5, h6, h7, h8, h9, hI, hb_, hA_, hC_⟩
         · intro L v wx hd hn hU ⟨hB, hz, s0, sl, h0, h1, h2, h3, h4, h5, h6, h7, h8, h9, hI, hb_, hA_, hC_⟩ K hK
           refine zlc s0 Try.underlying24 Try.size24 ?_
           exact hK _ _ _ rfl ⟨hB, hz, s0, sl, h0, h1, (fun _ => rfl), h3, h4, h5, h6, h7, h8, h9, hI, hb_, hA_, hC_⟩
         · intro L v wx hd hn hU ⟨hB, hz, s0, sl, h0, h1, h2, h3, h4, h5, h6, h7, h8, h9, hI, hb_, hA_, hC_⟩ K hK
           go_wp2_with fail
           exact hK _ (.int .i64 (n : Int)) _ (by simp only [Act.put, pA, pB, pC]) ⟨hB, hz, s0, sl, h0, h1, h2, (fun _ => rfl), h4, h5, h6, h7, h8, h9, hI, hb_, hA_, hC_⟩
         · intro L v wx hd hn hU ⟨hB, hz, s0, sl, h0, h1, h2, h3, h4, h5, h6, h7, h8, h9, hI, hb_, hA_, hC_⟩ K hK
           go_wp2_with fail
           exact hK _ (.int .i64 (i : Int)) _ (by simp only [Act.put, pA, pB, pC]) ⟨hB, hz, s0, sl, h0, h1, h2, h3, (fun _ => rfl), h5, h6, h7, h8, h9, hI, hb_, hA_, hC_⟩
         · intro L v wx hd hn hU ⟨hB, hz, s0, sl, h0, h1, h2, h3, h4, h5, h6, h7, h8, h9, hI, hb_, hA_, hC_⟩ K hK
           have e3 := h3 (zdq hd 3 rfl)
           have e4 := h4 (zdq hd 4 rfl)
           go_wp2_with (go_at_call 164; refine (HO1.out _).mono ?_; rintro e wy ⟨rfl, hy⟩)
           exact hK _ (.agg (zb 64 (ofN n i))) _ (by simp only [Act.put, pA, pB, pC, e3, e4]) ⟨hB.trans (hy.mono hB.size), Nat.le_trans hz hy.size, s0.zw hy, (fun h => (sl h).below hy (sl h).lt), h0, h1, h2, h3, h4, (fun _ => rfl), h6, h7, h8, h9, hI, (fun h g => let ⟨b, a1, a2, a3⟩ := hb_ h g; ⟨b, a1, a2, a3.zw hy⟩), (fun h => (hA_ h).below hy (hA_ h).lt), hC_⟩
         · intro L v wx hd hn hU ⟨hB, hz, s0, sl, h0, h1, h2, h3, h4, h5, h6, h7, h8, h9, hI, hb_, hA_, hC_⟩ K hK
           go_wp2_with fail
           exact hK _ (.int .i64 (n : Int)) _ (by simp only [Act.put, pA, pB, pC]) ⟨hB, hz, s0, sl, h0, h1, h2, h3, h4, h5, (fun _ => rfl), h7, h8, h9, hI, hb_, hA_, hC_⟩
         · intro L v wx hd hn hU ⟨hB, hz, s0, sl, h0, h1, h2, h3, h4, h5, h6, h7, h8, h9, hI, hb_, hA_, hC_⟩ K hK
           go_wp2_with fail
           exact hK _ (.int .i64 (D : Int)) _ (by simp only [Act.put, pA, pB, pC]) ⟨hB, hz, s0, sl, h0, h1, h2, h3, h4, h5, h6, (fun _ => rfl), h8, h9, hI, hb_, hA_, hC_⟩
         · intro L v wx hd hn hU ⟨hB, hz, s0, sl, h0, h1, h2, h3, h4, h5, h6, h7, h8, h9, hI, hb_, hA_, hC_⟩ K hK
           have e6 := h6 (zdq hd 6 rfl)
           have e7 := h7 (zdq hd 7 rfl)
           go_wp2_with (go_at_call 164; refine (HO2.out _).mono ?_; rintro e wy ⟨rfl, hy⟩)
           exact hK _ (.agg (zb 64 (ofN n D))) _ (by simp only [Act.put, pA, pB, pC, e6, e7]) ⟨hB.trans (hy.mono hB.size), Nat.le_trans hz hy.size, s0.zw hy, (fun h => (sl h).below hy (sl h).lt), h0, h1, h2, h3, h4, h5, h6, h7, (fun _ => rfl), h9, hI, (fun h g => let ⟨b, a1, a2, a3⟩ := hb_ h g; ⟨b, a1, a2, a3.zw hy⟩), (fun h => (hA_ h).below hy (hA_ h).lt), hC_⟩
         · intro L v wx hd hn hU ⟨hB, hz, s0, sl, h0, h1, h2, h3, h4, h5, h6, h7, h8, h9, hI, hb_, hA_, hC_⟩ K hK
           have e1 := h1 (zdq hd 1 rfl)
           have e2 := h2 (zdq hd 2 rfl)
           have e5 := h5 (zdq hd 5 rfl)
           have e8 := h8 (zdq hd 8 rfl)
           refine wp_build_of 58 _ rfl (drC (n : Int) m (ofN n i) (ofN n D)).toArray (by rw [Array.toList_map]; simp only [e1, e2, e5, e8, Act.eval]; exact built_dr _ _ _ _) ?_
           exact hK _ _ _ rfl ⟨hB, hz, s0, sl, h0, h1, h2, h3, h4, h5, h6, h7, h8, (fun _ => rfl), hI, hb_, hA_, hC_⟩
         · intro L v wx hd hn hU ⟨hB, hz, s0, sl, h0, h1, h2, h3, h4, h5, h6, h7, h8, h9, hI, hb_, hA_, hC_⟩ K hK
           have e9 := h9 (zdq hd 9 rfl)
           refine wp_build1 79 _ (drC (n : Int) m (ofN n i) (ofN n D)) 193 rfl 58 Try.underlying79 Try.elem58 (by decide) (by decide) (drC_len _ _ _ _) (by simp [Act.eval, e9]) ?_
           intro w2 hrow hy
           exact hK _ _ _ rfl ⟨hB.trans (hy.mono hB.size), Nat.le_trans hz hy.size, s0.zw hy, (fun h => (sl h).below hy (sl h).lt), h0, h1, h2, h3, h4, h5, h6, h7, h8, h9, hI, (fun _ _ => ⟨_, rfl, hz, hrow⟩), (fun h => (hA_ h).below hy (hA_ h).lt), hC_⟩
         · intro L v wx hd hn hU ⟨hB, hz, s0, sl, h0, h1, h2, h3, h4, h5, h6, h7, h8, h9, hI, hb_, hA_, hC_⟩ K hK
           have e0 := h0 (zdq hd 0 rfl)
           obtain ⟨b, eb, hbW, hrow⟩ := hb_ hU (zdq hd 10 rfl)
           have hSL := sl hU
           refine wp_append_sl (.tmp 24) (.tmp 34) 79 rfl base 58 _ 193 200 Try.underlying79 Try.infoDri (by simp [Value.cells, drC_len]) (by decide) lst (drRows (adL n m Q i ++ adG n m i j)) e0 hSL b (drC (n : Int) m (ofN n i) (ofN n D)) eb (drC_len _ _ _ _) hrow.range (drC_ones _ _ _ _) (by rw [drRows_len]; unfold maxLen; omega) (by rw [drRows_len]; omega) ?_
           intro vp wp hSp hg
           exact hK _ vp _ rfl ⟨hB.grown hg hB.size (fun r e => Nat.le_trans hbw (hSL.own r e)), Nat.le_trans hz hg.size, s0.grownO hg (base := base) (fun r e => hSL.own r e) hbm, (fun h => absurd h (by simp [setL])), h0, h1, h2, h3, h4, h5, h6, h7, h8, h9, hI, (fun h => absurd h (by simp [setL])), (fun _ => by rw [HSN.out]; exact hSp), (fun h => absurd rfl (hn 12 _ rfl h ⟨11, .data⟩ (by simp) rfl))⟩
         · intro L v wx hd hn hU ⟨hB, hz, s0, sl, h0, h1, h2, h3, h4, h5, h6, h7, h8, h9, hI, hb_, hA_, hC_⟩ K hK
           have hSA := hA_ (zdq hd 11 rfl)
           go_wp2_with fail
           exact hK _ (v 11) _ (by simp only [Act.put, pA, pB, pC]) ⟨hB, hz, s0, sl, h0, h1, h2, h3, h4, h5, h6, h7, h8, h9, (fun h => absurd h (by simp [setL])), hb_, hA_, (fun _ => rfl)⟩
       · intro L v wx hL ⟨hB, hz, s0, sl, h0, h1, h2, h3, h4, h5, h6, h7, h8, h9, hI, hb_, hA_, hC_⟩
         have hSN := hA_ (hL 11 (by decide))
         have eC := hC_ (hL 12 (by decide))
         have hb2 := hB
         have hm2 := s0
         clear hI
         obtain ⟨vN, eN⟩ : ∃ x, x = v 11 := ⟨_, rfl⟩
         rw [← eN] at hSN eC
         clear hL sl h0 h1 h2 h3 h4 h5 h6 h7 h8 h9 hb_ hA_ hC_ hB s0 hSl B0 hb eN
         have hb := hb2
         have B0 := hm2
         clear hb2 hm2
         simp only [eC]
         go_wp2_with fail
         go_roundw
         case rel => exact ⟨j + 1, vN, rfl, by have := HD.out; subst this; go_num, by omega, hb, B0, hSN⟩
         case measure => have := HD.out; simp [intOf] <;> omega
     · have hjI : ¬ ((j + 1 : Nat) : Int) < (Q : Int) := by omega
       obtain rfl : j = Q - 1 := by omega
       go_wp2_with fail
       go_roundw
       case rel => exact ⟨i + 1, lst, rfl, by go_num, by omega, hb, B0, by rw [adL_s]; exact hSl⟩
       case measure => simp [intOf] <;> omega
  · have hiI : ¬ (i : Int) < (Q : Int) := by omega
    obtain rfl : i = Q := by omega
    go_wp2_with fail
    go_ret
    exact ⟨_, rfl, hSl.base hbw, hb⟩
theorem adV_nz {p : Int} {m : Nat → Nat} (h : (adV p m).2 ≠ 0) : (adV p m).1 = [] := by
 unfold adV at h ⊢
 split at h
 · rename_i h1
   rw [if_pos h1]
   split at h
   · exact absurd rfl h
   · rename_i h2; rw [if_neg h2]
 · rename_i h1; rw [if_neg h1]
theorem adV_z {p : Int} {m : Nat → Nat} (h : (adV p m).2 = 0) : ∃ n d Q : Nat, p = (n : Int) ∧ 2 ≤ n ∧ n ≤ 7 ∧ deg m = (d : Int) ∧ d ≤ 4 ∧ n ^ d = Q ∧ Q ≤ 16 ∧ 1 ≤ Q ∧ adV p m = (adL n m Q Q, 0) := by
 have hc : codeL p [m] = 0 := by
  rcases codeL_two p [m] with hc | hc
  · exact hc
  · rw [adV_1 hc] at h; cases h
 have hf : flV p m = true := by
  cases hf : flV p m with
  | true => rfl
  | false => rw [adV_2 hc hf] at h; cases h
 obtain ⟨n, rfl, hpr, lf, d, hmon, d1, d4⟩ := flV_fld hf
 by_cases h3 : n ^ d ≤ 16
 · exact ⟨n, d, _, rfl, by omega, by omega, hmon.1, d4, rfl, h3, Nat.one_le_pow _ _ (by omega), adV_0 hc hmon.1 hf h3⟩
 · rw [adV_3 hc hmon.1 h3] at h; cases h
set_option maxRecDepth 100000 in
set_option maxHeartbeats 6400000 in
theorem l06Small_any (p : Int) (m : Nat → Nat) (hm : byte m) (w : World) :
 Calls Try.prog 180 #[.int .i64 p, .agg (zb 64 m)] w fun e w' => e = .returned (.int .i64 (adV p m).2) ∧ Below w.heap.size w w' := by
 go_enter Try.func180, Try.ntmps180
 go_upto_region 1 with (fail)
 obtain ⟨W1, hwo⟩ : ∃ v : World, v = (w.alloc (.cells (zb 64 (m)) 24)) := ⟨_, rfl⟩
 have B0 : Blk W1 (w.heap.size) 64 24 (m) := by subst hwo; have := (Blk.new w 64 24 (m)); simpa using this
 have hb : Below w.heap.size w W1 := by subst hwo; exact ((Below.refl _ _).alloc (Nat.le_refl _) _)
 rw [← hwo]
 clear hwo
 rcases codeL_two p [m] with hc | hc
 · have ho := (codeL_zero hc).2 m (by simp)
   obtain ⟨n, rfl, hpr, lf⟩ := okA_nat ho
   have n2 : 2 ≤ n := by omega
   have n7 : n ≤ 7 := by omega
   have hmB := monUp_B (c := 4) (f := m)
   cases hmo : monB m with
   | false =>
    have HV := Lib.hid (adV_2 hc (flV_2 (by rw [hmB, hmo]; rfl)))
    clear hmB
    go_upto_region 3 with (first | (refine zla (.tmp 3) B0 Try.underlying24 Try.size24 ?_) | (refine wpList_build_polys rfl 40 _ [m] rfl 24 rfl Try.underlying40 Try.elem24 (by simp) (by simp) rfl ?_; intro wa hwa hps hba; clear hwa) | (go_at_call 122; refine (l01Code_any (n : Int) [m] (by simp [hm]) _ _ hps (by simp)).mono ?_; rintro e W2 ⟨rfl, hbb⟩; rw [hc]))
    have hBB : Below W1.heap.size W1 W2 := hba.trans (hbb.mono hba.size)
    replace B0 := B0.zw hBB
    replace hb := hb.trans (hBB.mono hb.size)
    clear hBB hba hbb hps
    clear hc
    go_wp2_with (first | (refine zla (.tmp 3) B0 Try.underlying24 Try.size24 ?_) | (go_at_call 123; refine (l01Monic_any m hm _).mono ?_; rintro e W3 ⟨rfl, hW3⟩; replace B0 := B0.zw hW3; replace hb := (hb).trans (hW3.mono (hb).size); try rw [hmo]))
    go_ret
    exact ⟨by rw [HV.out]; rfl, hb⟩
   | true =>
    by_cases hr : 1 ≤ deg m ∧ deg m ≤ 4
    · have hmm := hmo
      unfold monB at hmm
      simp only [decide_eq_true_eq] at hmm
      obtain ⟨d, hd⟩ : ∃ d : Nat, deg m = (d : Int) := ⟨(deg m).toNat, by omega⟩
      have hmon : mon m d := ⟨hd, by have := hmm.2; rwa [hd, Int.toNat_natCast] at this⟩
      have hfl : flV (n : Int) m = irB n m := flV_3 ho (by rw [hmB, hmo]; simp; omega)
      have HI := Lib.hid (fun W => l01Irreducible_any n m d W hpr lf hmon (by omega))
      have HC := Lib.hid (fun W => l01Count_any n d W n2 n7 (by omega))
      have HDG := Lib.hid (fun W => l01Deg_any m W)
      rw [hd] at HDG
      obtain ⟨Q, hQ⟩ : ∃ Q, n ^ d = Q := ⟨_, rfl⟩
      rw [hQ] at HC
      have hd1 : (1 : Int) ≤ (d : Int) := by omega
      have hd4 : (d : Int) ≤ 4 := by omega
      clear hmm hmB hr lf
      by_cases hq : Q ≤ 16
      · have hqI : (Q : Int) ≤ 16 := by omega
        have hDQ := Lib.hid (show decide ((16 : Int) < (Q : Int)) = false by simp; omega)
        cases hir : irB n m with
        | false =>
         have HV := Lib.hid (adV_2 hc (by rw [hfl, hir]))
         have hq' := Lib.hid hQ
         clear hd hQ hmon hfl
         go_upto_region 3 with (first | (refine zla (.tmp 3) B0 Try.underlying24 Try.size24 ?_) | (refine wpList_build_polys rfl 40 _ [m] rfl 24 rfl Try.underlying40 Try.elem24 (by simp) (by simp) rfl ?_; intro wa hwa hps hba; clear hwa) | (go_at_call 122; refine (l01Code_any (n : Int) [m] (by simp [hm]) _ _ hps (by simp)).mono ?_; rintro e W2 ⟨rfl, hbb⟩; rw [hc]))
         have hBB : Below W1.heap.size W1 W2 := hba.trans (hbb.mono hba.size)
         replace B0 := B0.zw hBB
         replace hb := hb.trans (hBB.mono hb.size)
         clear hBB hba hbb hps
         clear hc
         go_wp2_with (first | (rw [hDQ.out]) | (refine zla (.tmp 3) B0 Try.underlying24 Try.size24 ?_) | (go_at_call 123; refine (l01Monic_any m hm _).mono ?_; rintro e W3 ⟨rfl, hW3⟩; replace B0 := B0.zw hW3; replace hb := (hb).trans (hW3.mono (hb).size); try rw [hmo]) | (refine zlg rfl 24 (.tmp 3) rfl _ rfl 64 24 _ (B0) _ Try.underlying24 rfl Try.size24 ?_) | (go_at_call 124; refine (HDG.out _).mono ?_; rintro e W4 ⟨rfl, hW4⟩; replace B0 := B0.zw hW4; replace hb := (hb).trans (hW4.mono (hb).size)) | (go_at_call 98; refine (l01In_any _ _ _ _).mono ?_; rintro e wS ⟨rfl, rfl⟩; rw [show decide ((1 : Int) ≤ (d : Int) ∧ (d : Int) ≤ 4) = true by simp; omega]) | (refine zlg rfl 24 (.tmp 3) rfl _ rfl 64 24 _ (B0) _ Try.underlying24 rfl Try.size24 ?_) | (go_at_call 124; refine (HDG.out _).mono ?_; rintro e W5 ⟨rfl, hW5⟩; replace B0 := B0.zw hW5; replace hb := (hb).trans (hW5.mono (hb).size)) | (go_at_call 163; refine (HC.out _).mono ?_; rintro e wS ⟨rfl, rfl⟩) | (refine zlg rfl 24 (.tmp 3) rfl _ rfl 64 24 _ (B0) _ Try.underlying24 rfl Try.size24 ?_) | (go_at_call 125; refine (HI.out _).mono ?_; rintro e W6 ⟨rfl, hW6⟩; replace B0 := B0.zw hW6; replace hb := (hb).trans (hW6.mono (hb).size); try rw [hir]))
         go_ret
         exact ⟨by rw [HV.out]; rfl, hb⟩
        | true =>
         have HV := Lib.hid (adV_0 hc hd (by rw [hfl, hir]) (by rw [hQ]; exact hq))
         have hq' := Lib.hid hQ
         clear hd hQ hmon hfl
         go_upto_region 3 with (first | (refine zla (.tmp 3) B0 Try.underlying24 Try.size24 ?_) | (refine wpList_build_polys rfl 40 _ [m] rfl 24 rfl Try.underlying40 Try.elem24 (by simp) (by simp) rfl ?_; intro wa hwa hps hba; clear hwa) | (go_at_call 122; refine (l01Code_any (n : Int) [m] (by simp [hm]) _ _ hps (by simp)).mono ?_; rintro e W2 ⟨rfl, hbb⟩; rw [hc]))
         have hBB : Below W1.heap.size W1 W2 := hba.trans (hbb.mono hba.size)
         replace B0 := B0.zw hBB
         replace hb := hb.trans (hBB.mono hb.size)
         clear hBB hba hbb hps
         clear hc
         go_wp2_with (first | (rw [hDQ.out]) | (refine zla (.tmp 3) B0 Try.underlying24 Try.size24 ?_) | (go_at_call 123; refine (l01Monic_any m hm _).mono ?_; rintro e W3 ⟨rfl, hW3⟩; replace B0 := B0.zw hW3; replace hb := (hb).trans (hW3.mono (hb).size); try rw [hmo]) | (refine zlg rfl 24 (.tmp 3) rfl _ rfl 64 24 _ (B0) _ Try.underlying24 rfl Try.size24 ?_) | (go_at_call 124; refine (HDG.out _).mono ?_; rintro e W4 ⟨rfl, hW4⟩; replace B0 := B0.zw hW4; replace hb := (hb).trans (hW4.mono (hb).size)) | (go_at_call 98; refine (l01In_any _ _ _ _).mono ?_; rintro e wS ⟨rfl, rfl⟩; rw [show decide ((1 : Int) ≤ (d : Int) ∧ (d : Int) ≤ 4) = true by simp; omega]) | (refine zlg rfl 24 (.tmp 3) rfl _ rfl 64 24 _ (B0) _ Try.underlying24 rfl Try.size24 ?_) | (go_at_call 124; refine (HDG.out _).mono ?_; rintro e W5 ⟨rfl, hW5⟩; replace B0 := B0.zw hW5; replace hb := (hb).trans (hW5.mono (hb).size)) | (go_at_call 163; refine (HC.out _).mono ?_; rintro e wS ⟨rfl, rfl⟩) | (refine zlg rfl 24 (.tmp 3) rfl _ rfl 64 24 _ (B0) _ Try.underlying24 rfl Try.size24 ?_) | (go_at_call 125; refine (HI.out _).mono ?_; rintro e W6 ⟨rfl, hW6⟩; replace B0 := B0.zw hW6; replace hb := (hb).trans (hW6.mono (hb).size); try rw [hir]))
         go_ret
         exact ⟨by rw [HV.out]; rfl, hb⟩
      · have HV := Lib.hid (adV_3 hc hd (by rw [hQ]; exact hq))
        have hqI : 16 < (Q : Int) := by omega
        clear hd hQ hmon hfl
        go_upto_region 3 with (first | (refine zla (.tmp 3) B0 Try.underlying24 Try.size24 ?_) | (refine wpList_build_polys rfl 40 _ [m] rfl 24 rfl Try.underlying40 Try.elem24 (by simp) (by simp) rfl ?_; intro wa hwa hps hba; clear hwa) | (go_at_call 122; refine (l01Code_any (n : Int) [m] (by simp [hm]) _ _ hps (by simp)).mono ?_; rintro e W2 ⟨rfl, hbb⟩; rw [hc]))
        have hBB : Below W1.heap.size W1 W2 := hba.trans (hbb.mono hba.size)
        replace B0 := B0.zw hBB
        replace hb := hb.trans (hBB.mono hb.size)
        clear hBB hba hbb hps
        clear hc
        go_wp2_with (first | (refine zla (.tmp 3) B0 Try.underlying24 Try.size24 ?_) | (go_at_call 123; refine (l01Monic_any m hm _).mono ?_; rintro e W3 ⟨rfl, hW3⟩; replace B0 := B0.zw hW3; replace hb := (hb).trans (hW3.mono (hb).size); try rw [hmo]) | (refine zlg rfl 24 (.tmp 3) rfl _ rfl 64 24 _ (B0) _ Try.underlying24 rfl Try.size24 ?_) | (go_at_call 124; refine (HDG.out _).mono ?_; rintro e W4 ⟨rfl, hW4⟩; replace B0 := B0.zw hW4; replace hb := (hb).trans (hW4.mono (hb).size)) | (go_at_call 98; refine (l01In_any _ _ _ _).mono ?_; rintro e wS ⟨rfl, rfl⟩; rw [show decide ((1 : Int) ≤ (d : Int) ∧ (d : Int) ≤ 4) = true by simp; omega]) | (refine zlg rfl 24 (.tmp 3) rfl _ rfl 64 24 _ (B0) _ Try.underlying24 rfl Try.size24 ?_) | (go_at_call 124; refine (HDG.out _).mono ?_; rintro e W5 ⟨rfl, hW5⟩; replace B0 := B0.zw hW5; replace hb := (hb).trans (hW5.mono (hb).size)) | (go_at_call 163; refine (HC.out _).mono ?_; rintro e wS ⟨rfl, rfl⟩))
        go_ret
        exact ⟨by rw [HV.out]; rfl, hb⟩
    · have HV := Lib.hid (adV_2 hc (flV_2 (by rw [hmB, hmo]; simp; omega)))
      clear hmB
      go_upto_region 3 with (first | (refine zla (.tmp 3) B0 Try.underlying24 Try.size24 ?_) | (refine wpList_build_polys rfl 40 _ [m] rfl 24 rfl Try.underlying40 Try.elem24 (by simp) (by simp) rfl ?_; intro wa hwa hps hba; clear hwa) | (go_at_call 122; refine (l01Code_any (n : Int) [m] (by simp [hm]) _ _ hps (by simp)).mono ?_; rintro e W2 ⟨rfl, hbb⟩; rw [hc]))
      have hBB : Below W1.heap.size W1 W2 := hba.trans (hbb.mono hba.size)
      replace B0 := B0.zw hBB
      replace hb := hb.trans (hBB.mono hb.size)
      clear hBB hba hbb hps
      clear hc
      go_wp2_with (first | (refine zla (.tmp 3) B0 Try.underlying24 Try.size24 ?_) | (go_at_call 123; refine (l01Monic_any m hm _).mono ?_; rintro e W3 ⟨rfl, hW3⟩; replace B0 := B0.zw hW3; replace hb := (hb).trans (hW3.mono (hb).size); try rw [hmo]) | (refine zlg rfl 24 (.tmp 3) rfl _ rfl 64 24 _ (B0) _ Try.underlying24 rfl Try.size24 ?_) | (go_at_call 124; refine (l01Deg_any m _).mono ?_; rintro e W4 ⟨rfl, hW4⟩; replace B0 := B0.zw hW4; replace hb := (hb).trans (hW4.mono (hb).size)) | (go_at_call 98; refine (l01In_any _ _ _ _).mono ?_; rintro e wS ⟨rfl, rfl⟩; rw [show decide ((1 : Int) ≤ deg m ∧ deg m ≤ 4) = false by simp; omega]))
      go_ret
      exact ⟨by rw [HV.out]; rfl, hb⟩
 · have HV := Lib.hid (adV_1 hc)
   go_upto_region 2 with (first | (refine zla (.tmp 3) B0 Try.underlying24 Try.size24 ?_) | (refine wpList_build_polys rfl 40 _ [m] rfl 24 rfl Try.underlying40 Try.elem24 (by simp) (by simp) rfl ?_; intro wa hwa hps hba; clear hwa) | (go_at_call 122; refine (l01Code_any p [m] (by simp [hm]) _ _ hps (by simp)).mono ?_; rintro e W2 ⟨rfl, hbb⟩; rw [hc]))
   have hBB : Below W1.heap.size W1 W2 := hba.trans (hbb.mono hba.size)
   replace B0 := B0.zw hBB
   replace hb := hb.trans (hBB.mono hb.size)
   clear hBB hba hbb hps
   go_wp2_with fail
   go_ret
   exact ⟨by rw [HV.out]; rfl, hb⟩
set_option maxRecDepth 100000 in
set_option maxHeartbeats 6400000 in
theorem impl_AllDrinfeld_any (p : Int) (m : Nat → Nat) (hm : byte m) (w : World) :
 Calls Try.prog 83 #[.int .i64 p, .agg (zb 64 m)] w (AdF p m w) := by
 have HFL := Lib.hid (fun W => impl_IsField_any p m hm W)
 unfold AdF
 go_enter Try.func83, Try.ntmps83
 go_upto_region 1 with (fail)
 obtain ⟨W1, hwo⟩ : ∃ v : World, v = (w.alloc (.cells (zb 64 (m)) 24)) := ⟨_, rfl⟩
 have B0 : Blk W1 (w.heap.size) 64 24 (m) := by subst hwo; have := (Blk.new w 64 24 (m)); simpa using this
 have hb : Below w.heap.size w W1 := by subst hwo; exact ((Below.refl _ _).alloc (Nat.le_refl _) _)
 rw [← hwo]
 clear hwo
 go_upto_region 2 with (first | (refine zla (.tmp 3) B0 Try.underlying24 Try.size24 ?_) | (refine wpList_build_polys rfl 40 _ [m] rfl 24 rfl Try.underlying40 Try.elem24 (by simp) (by simp) rfl ?_; intro wa hwa hps hba; clear hwa) | (go_at_call 131; refine (checkPolys_any p [m] (by simp [hm]) _ _ hps (by simp)).mono ?_; rintro e W2 ⟨rfl, hbb⟩))
 have hBB : Below W1.heap.size W1 W2 := hba.trans (hbb.mono hba.size)
 replace B0 := B0.zw hBB
 replace hb := hb.trans (hBB.mono hb.size)
 clear hBB hba hbb hps
 rcases codeL_two p [m] with hc | hc
 · cases hf : flV p m with
   | false =>
    have HV := Lib.hid (adV_2 hc hf)
    rw [hc]
    clear hc
    go_upto_region 4 with (fail)
    go_upto_region 5 with (first | (refine zla (.tmp 3) B0 Try.underlying24 Try.size24 ?_) | (go_at_call 113; refine (HFL.out _).mono ?_; rintro e W3 ⟨rfl, hW3⟩; replace B0 := B0.zw hW3; replace hb := (hb).trans (hW3.mono (hb).size); try rw [hf]))
    go_wp2_with fail
    go_ret2
    exact ⟨_, by rw [HV.out]; rfl, by rw [HV.out]; exact (by rw [drRows_nil]; exact SlL.nil _ _ hb.size), hb⟩
   | true =>
    obtain ⟨n, rfl, hpr, lf, d, hmon, d1, d4⟩ := flV_fld hf
    have n2 : 2 ≤ n := by omega
    have n7 : n ≤ 7 := by omega
    have HN := Lib.hid (fun W => norm_any n d W n2 n7 (by omega))
    have HDG := Lib.hid (fun W => degree_any m W)
    rw [hmon.1] at HDG
    obtain ⟨Q, hQ⟩ : ∃ Q, n ^ d = Q := ⟨_, rfl⟩
    rw [hQ] at HN
    clear lf
    by_cases hq : Q ≤ 16
    · have HV := Lib.hid (adV_0 hc hmon.1 hf (by rw [hQ]; exact hq))
      rw [hQ] at HV
      have hQ16 := hq
      have hqI : (Q : Int) ≤ 16 := by omega
      have hQ1 : 1 ≤ Q := by rw [← hQ]; exact Nat.one_le_pow _ _ (by omega)
      rw [hc]
      clear hc hQ hmon
      go_upto_region 4 with (fail)
      go_upto_region 6 with (first | (refine zla (.tmp 3) B0 Try.underlying24 Try.size24 ?_) | (go_at_call 113; refine (HFL.out _).mono ?_; rintro e W3 ⟨rfl, hW3⟩; replace B0 := B0.zw hW3; replace hb := (hb).trans (hW3.mono (hb).size); try rw [hf]) | (refine zlg rfl 24 (.tmp 3) rfl _ rfl 64 24 _ (B0) _ Try.underlying24 rfl Try.size24 ?_) | (go_at_call 150; refine (HDG.out _).mono ?_; rintro e W4 ⟨rfl, hW4⟩; replace B0 := B0.zw hW4; replace hb := (hb).trans (hW4.mono (hb).size)) | (go_at_call 182; refine (HN.out _).mono ?_; rintro e wS ⟨rfl, rfl⟩))
      go_upto_region 7 with (fail)
      go_upto_region 8 with (first | (refine zla (.tmp 3) B0 Try.underlying24 Try.size24 ?_) | (go_at_call 150; refine (HDG.out _).mono ?_; rintro e W5 ⟨rfl, hW5⟩; replace B0 := B0.zw hW5; replace hb := (hb).trans (hW5.mono (hb).size)) | (go_at_call 182; refine (HN.out _).mono ?_; rintro e wS ⟨rfl, rfl⟩))
      go_wp2_with fail
      clear hf
      obtain ⟨base, hbase0⟩ : ∃ b, b = W5.heap.size := ⟨_, rfl⟩
      have hbw : w.heap.size ≤ base := by rw [hbase0]; exact hb.size
      have hbm : w.heap.size < base := by rw [hbase0]; exact B0.lt
      have hS0 : SlL W5 base 58 193 (.slice none 0 0) [] := SlL.nil _ _ (Nat.le_of_eq hbase0)
      clear hbase0
      go_loopw [7, 34] (fun s c wr => ∃ (i : Nat) (lst : Value), lst = s ∧ c = .int .i64 (i : Int) ∧ i ≤ Q ∧ Below w.heap.size w wr ∧ Blk wr (w.heap.size) 64 24 m ∧ SlL wr base 58 193 lst (drRows (adL n m Q i))) (fun _ c _ => Q - (intOf c).toNat)
      case atStart => exact ⟨0, _, rfl, rfl, Nat.zero_le _, hb, B0, by rw [adL_z, drRows_nil]; exact hS0⟩
      case round =>
       clear hb B0 hS0
       obtain ⟨i, lst, rfl, rfl, hiQ, hb, B0, hSl⟩ := hrel
       by_cases hi : i < Q
       · have hiI : (i : Int) < (Q : Int) := by omega
         go_wp2_with fail
         go_loopw [7, 39] (fun s c wr => ∃ (j : Nat) (lst : Value), lst = s ∧ c = .int .i64 (j : Int) ∧ j ≤ Q - 1 ∧ Below w.heap.size w wr ∧ Blk wr (w.heap.size) 64 24 m ∧ SlL wr base 58 193 lst (drRows (adL n m Q i ++ adG n m i j))) (fun _ c _ => Q - (intOf c).toNat)
         case atStart => exact ⟨0, lst, rfl, rfl, Nat.zero_le _, hb, B0, by rw [adG_z, List.append_nil]; exact hSl⟩
         case round =>
          clear hb B0 hSl
          obtain ⟨j, lst, rfl, rfl, hjQ, hb, B0, hSl⟩ := hrel
          by_cases hj : j < Q - 1
          · obtain ⟨D, hD⟩ : ∃ D, D = j + 1 := ⟨_, rfl⟩
            have hDI : (j : Int) + 1 = (D : Int) := by omega
            have hlen : (adL n m Q i ++ adG n m i j).length ≤ 600 := by
             rw [List.length_append, adL_len, adG_len]
             have : i * (Q - 1) ≤ 16 * 15 := Nat.mul_le_mul (by omega) (by omega)
             omega
            have HSN := Lib.hid (show drRows (adL n m Q i ++ adG n m i (j + 1)) = drRows (adL n m Q i ++ adG n m i j) ++ [drC (n : Int) m (ofN n i) (ofN n D)] by rw [adG_s, ← List.append_assoc, drRows_snoc, hD])
            have HO1 := Lib.hid (fun W => polyOfNumber_any n i W n2 n7 (by omega))
            have HO2 := Lib.hid (fun W => polyOfNumber_any n D W n2 n7 (by omega))
            have hjI : (j : Int) < (Q : Int) - 1 := by omega
            clear hD
            go_upto_region 14 with (fail)
            have lt_B0 := B0.lt
            have hbase := hb.size
            refine wp_region_stepsU Try.mixed (by kernel_rfl) (by kernel_rfl) (fun v => by (simp only [frL, Act.put, pA, pB, pC, Nat.reduceAdd, Nat.zero_add]; exact rfl))
             (fun L v wx => Below w.heap.size w wx ∧ wr.heap.size ≤ wx.heap.size ∧ Blk wx (w.heap.size) 64 24 m ∧ (L 12 = false → SlL wx base 58 193 lst (drRows (adL n m Q i ++ adG n m i j))) ∧ (L 0 = true → v 0 = lst) ∧ (L 1 = true → v 1 = (.int .i64 (n : Int))) ∧ (L 2 = true → v 2 = (.agg (zb 64 m))) ∧ (L 3 = true → v 3 = (.int .i64 (n : Int))) ∧ (L 4 = true → v 4 = (.int .i64 (i : Int))) ∧ (L 5 = true → v 5 = (.agg (zb 64 (ofN n i)))) ∧ (L 6 = true → v 6 = (.int .i64 (n : Int))) ∧ (L 7 = true → v 7 = (.int .i64 (j : Int))) ∧ (L 8 = true → v 8 = (.int .i64 (D : Int))) ∧ (L 9 = true → v 9 = (.agg (zb 64 (ofN n D)))) ∧ (L 10 = true → v 10 = (.agg (drC (n : Int) m (ofN n i) (ofN n D)).toArray)) ∧ (L 13 = false → v 13 = lst) ∧ (L 12 = false → L 11 = true → ∃ b, v 11 = .slice (some ⟨b, 0, none⟩) 1 1 ∧ wr.heap.size ≤ b ∧ Row wx b 58 (drC (n : Int) m (ofN n i) (ofN n D)).toArray) ∧ (L 12 = true → SlL wx base 58 193 (v 12) (drRows (adL n m Q i ++ adG n m i (j + 1)))) ∧ (L 13 = true → v 13 = v 12)) ?_ ?_ ?_
            · exact ⟨hb.drew, Nat.le_refl _, B0.drew, (fun _ => SlL.drew hSl), (fun h => by cases h), (fun h => by cases h), (fun h => by cases h), (fun h => by cases h), (fun h => by cases h), (fun h => by cases h), (fun h => by cases h), (fun h => by cases h), (fun h => by cases h), (fun h => by cases h), (fun h => by cases h), (fun _ => rfl), (fun _ h => by cases h), (fun h => by cases h), (fun h => by cases h)⟩
            · refine (.cons rfl ?_ (.cons rfl ?_ (.cons rfl ?_ (.cons rfl ?_ (.cons rfl ?_ (.cons rfl ?_ (.cons rfl ?_ (.cons rfl ?_ (.cons rfl ?_ (.cons rfl ?_ (.cons rfl ?_ (.cons rfl ?_ (.cons rfl ?_ (.cons rfl ?_ (.nil _)))))))))))))))
              · intro L v wx hd hn hU ⟨hB, hz, s0, sl, h0, h1, h2, h3, h4, h5, h6, h7, h8, h9, h10, hI, hb_, hA_, hC_⟩ K hK
                have eI := hI (by cases hl : L 13 with | false => rfl | true => exact absurd rfl (hn 13 _ rfl hl ⟨0, .phase⟩ (by simp) rfl))
                go_wp2_with fail
                exact hK _ lst _ (by simp only [Act.put, pA, pB, pC, eI]) ⟨hB, hz, s0, sl, (fun _ => rfl), h1, h2, h3, h4, h5, h6, h7, h8, h9, h10, hI, hb_, hA_, hC_⟩
              · intro L v wx hd hn hU ⟨hB, hz, s0, sl, h0, h1, h2, h3, h4, h5, h6, h7, h8, h9, h10, hI, hb_, hA_, hC_⟩ K hK
                go_wp2_with fail
                exact hK _ (.int .i64 (n : Int)) _ (by simp only [Act.put, pA, pB, pC]) ⟨hB, hz, s0, sl, h0, (fun _ => rfl), h2, h3, h4, h5, h6, h7, h8, h9, h10, hI, hb_, hA_, hC_⟩
              · intro L v wx hd hn hU ⟨hB, hz, s0, sl, h0, h1, h2, h3, h4, h5, h6, h7, h8, h9, h10, hI, hb_, hA_, hC_⟩ K hK
                refine zlc s0 Try.underlying24 Try.size24 ?_
                exact hK _ _ _ rfl ⟨hB, hz, s0, sl, h0, h1, (fun _ => rfl), h3, h4, h5, h6, h7, h8, h9, h10, hI, hb_, hA_, hC_⟩
              · intro L v wx hd hn hU ⟨hB, hz, s0, sl, h0, h1, h2, h3, h4, h5, h6, h7, h8, h9, h10, hI, hb_, hA_, hC_⟩ K hK
                go_wp2_with fail
                exact hK _ (.int .i64 (n : Int)) _ (by simp only [Act.put, pA, pB, pC]) ⟨hB, hz, s0, sl, h0, h1, h2, (fun _ => rfl), h4, h5, h6, h7, h8, h9, h10, hI, hb_, hA_, hC_⟩
              · intro L v wx hd hn hU ⟨hB, hz, s0, sl, h0, h1, h2, h3, h4, h5, h6, h7, h8, h9, h10, hI, hb_, hA_, hC_⟩ K hK
                go_wp2_with fail
                exact hK _ (.int .i64 (i : Int)) _ (by simp only [Act.put, pA, pB, pC]) ⟨hB, hz, s0, sl, h0, h1, h2, h3, (fun _ => rfl), h5, h6, h7, h8, h9, h10, hI, hb_, hA_, hC_⟩
              · intro L v wx hd hn hU ⟨hB, hz, s0, sl, h0, h1, h2, h3, h4, h5, h6, h7, h8, h9, h10, hI, hb_, hA_, hC_⟩ K hK
                have e3 := h3 (zdq hd 3 rfl)
                have e4 := h4 (zdq hd 4 rfl)
                go_wp2_with (go_at_call 183; refine (HO1.out _).mono ?_; rintro e wy ⟨rfl, hy⟩)
                exact hK _ (.agg (zb 64 (ofN n i))) _ (by simp only [Act.put, pA, pB, pC, e3, e4]) ⟨hB.trans (hy.mono hB.size), Nat.le_trans hz hy.size, s0.zw hy, (fun h => (sl h).below hy (sl h).lt), h0, h1, h2, h3, h4, (fun _ => rfl), h6, h7, h8, h9, h10, hI, (fun h g => let ⟨b, a1, a2, a3⟩ := hb_ h g; ⟨b, a1, a2, a3.zw hy⟩), (fun h => (hA_ h).below hy (hA_ h).lt), hC_⟩
              · intro L v wx hd hn hU ⟨hB, hz, s0, sl, h0, h1, h2, h3, h4, h5, h6, h7, h8, h9, h10, hI, hb_, hA_, hC_⟩ K hK
                go_wp2_with fail
                exact hK _ (.int .i64 (n : Int)) _ (by simp only [Act.put, pA, pB, pC]) ⟨hB, hz, s0, sl, h0, h1, h2, h3, h4, h5, (fun _ => rfl), h7, h8, h9, h10, hI, hb_, hA_, hC_⟩
              · intro L v wx hd hn hU ⟨hB, hz, s0, sl, h0, h1, h2, h3, h4, h5, h6, h7, h8, h9, h10, hI, hb_, hA_, hC_⟩ K hK
                go_wp2_with fail
                exact hK _ (.int .i64 (j : Int)) _ (by simp only [Act.put, pA, pB, pC]) ⟨hB, hz, s0, sl, h0, h1, h2, h3, h4, h5, h6, (fun _ => rfl), h8, h9, h10, hI, hb_, hA_, hC_⟩
              · intro L v wx hd hn hU ⟨hB, hz, s0, sl, h0, h1, h2, h3, h4, h5, h6, h7, h8, h9, h10, hI, hb_, hA_, hC_⟩ K hK
                have e7 := h7 (zdq hd 7 rfl)
                go_wp2_with fail
                exact hK _ (.int .i64 (D : Int)) _ (by simp only [Act.put, pA, pB, pC, e7]) ⟨hB, hz, s0, sl, h0, h1, h2, h3, h4, h5, h6, h7, (fun _ => rfl), h9, h10, hI, hb_, hA_, hC_⟩
              · intro L v wx hd hn hU ⟨hB, hz, s0, sl, h0, h1, h2, h3, h4, h5, h6, h7, h8, h9, h10, hI, hb_, hA_, hC_⟩ K hK
                have e6 := h6 (zdq hd 6 rfl)
                have e8 := h8 (zdq hd 8 rfl)
                go_wp2_with (go_at_call 183; refine (HO2.out _).mono ?_; rintro e wy ⟨rfl, hy⟩)
                exact hK _ (.agg (zb 64 (ofN n D))) _ (by simp only [Act.put, pA, pB, pC, e6, e8]) ⟨hB.trans (hy.mono hB.size), Nat.le_trans hz hy.size, s0.zw hy, (fun h => (sl h).below hy (sl h).lt), h0, h1, h2, h3, h4, h5, h6, h7, h8, (fun _ => rfl), h10, hI, (fun h g => let ⟨b, a1, a2, a3⟩ := hb_ h g; ⟨b, a1, a2, a3.zw hy⟩), (fun h => (hA_ h).below hy (hA_ h).lt), hC_⟩
              · intro L v wx hd hn hU ⟨hB, hz, s0, sl, h0, h1, h2, h3, h4, h5, h6, h7, h8, h9, h10, hI, hb_, hA_, hC_⟩ K hK
                have e1 := h1 (zdq hd 1 rfl)
                have e2 := h2 (zdq hd 2 rfl)
                have e5 := h5 (zdq hd 5 rfl)
                have e9 := h9 (zdq hd 9 rfl)
                refine wp_build_of 58 _ rfl (drC (n : Int) m (ofN n i) (ofN n D)).toArray (by rw [Array.toList_map]; simp only [e1, e2, e5, e9, Act.eval]; exact built_dr _ _ _ _) ?_
                exact hK _ _ _ rfl ⟨hB, hz, s0, sl, h0, h1, h2, h3, h4, h5, h6, h7, h8, h9, (fun _ => rfl), hI, hb_, hA_, hC_⟩
              · intro L v wx hd hn hU ⟨hB, hz, s0, sl, h0, h1, h2, h3, h4, h5, h6, h7, h8, h9, h10, hI, hb_, hA_, hC_⟩ K hK
                have e10 := h10 (zdq hd 10 rfl)
                refine wp_build1 79 _ (drC (n : Int) m (ofN n i) (ofN n D)) 193 rfl 58 Try.underlying79 Try.elem58 (by decide) (by decide) (drC_len _ _ _ _) (by simp [Act.eval, e10]) ?_
                intro w2 hrow hy
                exact hK _ _ _ rfl ⟨hB.trans (hy.mono hB.size), Nat.le_trans hz hy.size, s0.zw hy, (fun h => (sl h).below hy (sl h).lt), h0, h1, h2, h3, h4, h5, h6, h7, h8, h9, h10, hI, (fun _ _ => ⟨_, rfl, hz, hrow⟩), (fun h => (hA_ h).below hy (hA_ h).lt), hC_⟩
              · intro L v wx hd hn hU ⟨hB, hz, s0, sl, h0, h1, h2, h3, h4, h5, h6, h7, h8, h9, h10, hI, hb_, hA_, hC_⟩ K hK
                have e0 := h0 (zdq hd 0 rfl)
                obtain ⟨b, eb, hbW, hrow⟩ := hb_ hU (zdq hd 11 rfl)
                have hSL := sl hU
                refine wp_append_sl (.tmp 42) (.tmp 53) 79 rfl base 58 _ 193 200 Try.underlying79 Try.infoDri (by simp [Value.cells, drC_len]) (by decide) lst (drRows (adL n m Q i ++ adG n m i j)) e0 hSL b (drC (n : Int) m (ofN n i) (ofN n D)) eb (drC_len _ _ _ _) hrow.range (drC_ones _ _ _ _) (by rw [drRows_len]; unfold maxLen; omega) (by rw [drRows_len]; omega) ?_
                intro vp wp hSp hg
                exact hK _ vp _ rfl ⟨hB.grown hg hB.size (fun r e => Nat.le_trans hbw (hSL.own r e)), Nat.le_trans hz hg.size, s0.grownO hg (base := base) (fun r e => hSL.own r e) hbm, (fun h => absurd h (by simp [setL])), h0, h1, h2, h3, h4, h5, h6, h7, h8, h9, h10, hI, (fun h => absurd h (by simp [setL])), (fun _ => by rw [HSN.out]; exact hSp), (fun h => absurd rfl (hn 13 _ rfl h ⟨12, .data⟩ (by simp) rfl))⟩
              · intro L v wx hd hn hU ⟨hB, hz, s0, sl, h0, h1, h2, h3, h4, h5, h6, h7, h8, h9, h10, hI, hb_, hA_, hC_⟩ K hK
                have hSA := hA_ (zdq hd 12 rfl)
                go_wp2_with fail
                exact hK _ (v 12) _ (by simp only [Act.put, pA, pB, pC]) ⟨hB, hz, s0, sl, h0, h1, h2, h3, h4, h5, h6, h7, h8, h9, h10, (fun h => absurd h (by simp [setL])), hb_, hA_, (fun _ => rfl)⟩
            · intro L v wx hL ⟨hB, hz, s0, sl, h0, h1, h2, h3, h4, h5, h6, h7, h8, h9, h10, hI, hb_, hA_, hC_⟩
              have hSN := hA_ (hL 12 (by decide))
              have eC := hC_ (hL 13 (by decide))
              have hb2 := hB
              have hm2 := s0
              clear hI
              obtain ⟨vN, eN⟩ : ∃ x, x = v 12 := ⟨_, rfl⟩
              rw [← eN] at hSN eC
              clear hL sl h0 h1 h2 h3 h4 h5 h6 h7 h8 h9 h10 hb_ hA_ hC_ hB s0 hSl B0 hb eN
              have hb := hb2
              have B0 := hm2
              clear hb2 hm2
              simp only [eC]
              go_wp2_with fail
              go_roundw
              case rel => exact ⟨j + 1, vN, rfl, by go_num, by omega, hb, B0, hSN⟩
              case measure => simp [intOf] <;> omega
          · have hjI : ¬ (j : Int) < (Q : Int) - 1 := by omega
            obtain rfl : j = Q - 1 := by omega
            go_wp2_with fail
            go_roundw
            case rel => exact ⟨i + 1, lst, rfl, by go_num, by omega, hb, B0, by rw [adL_s]; exact hSl⟩
            case measure => simp [intOf] <;> omega
       · have hiI : ¬ (i : Int) < (Q : Int) := by omega
         obtain rfl : i = Q := by omega
         go_wp2_with fail
         go_ret2
         exact ⟨_, by rw [HV.out]; rfl, by rw [HV.out]; exact hSl.base hbw, hb⟩
    · have HV := Lib.hid (adV_3 hc hmon.1 (by rw [hQ]; exact hq))
      have hqI : 16 < (Q : Int) := by omega
      rw [hc]
      clear hc hQ hmon
      go_upto_region 4 with (fail)
      go_upto_region 5 with (first | (refine zla (.tmp 3) B0 Try.underlying24 Try.size24 ?_) | (go_at_call 113; refine (HFL.out _).mono ?_; rintro e W3 ⟨rfl, hW3⟩; replace B0 := B0.zw hW3; replace hb := (hb).trans (hW3.mono (hb).size); try rw [hf]) | (refine zlg rfl 24 (.tmp 3) rfl _ rfl 64 24 _ (B0) _ Try.underlying24 rfl Try.size24 ?_) | (go_at_call 150; refine (HDG.out _).mono ?_; rintro e W4 ⟨rfl, hW4⟩; replace B0 := B0.zw hW4; replace hb := (hb).trans (hW4.mono (hb).size)) | (go_at_call 182; refine (HN.out _).mono ?_; rintro e wS ⟨rfl, rfl⟩))
      go_wp2_with fail
      go_ret2
      exact ⟨_, by rw [HV.out]; rfl, by rw [HV.out]; exact (by rw [drRows_nil]; exact SlL.nil _ _ hb.size), hb⟩
 · have HV := Lib.hid (adV_1 hc)
   rw [hc]
   clear hc
   go_upto_region 3 with (fail)
   go_wp2_with fail
   go_ret2
   exact ⟨_, by rw [HV.out]; rfl, by rw [HV.out]; exact (by rw [drRows_nil]; exact SlL.nil _ _ hb.size), hb⟩
set_option maxRecDepth 100000 in
set_option maxHeartbeats 6400000 in
theorem spec_AllDrinfeld_any (p : Int) (m : Nat → Nat) (hm : byte m) (w : World) :
 Calls Try.prog 82 #[.int .i64 p, .agg (zb 64 m)] w (AdF p m w) := by
 have HSM := Lib.hid (fun W => l06Small_any p m hm W)
 unfold AdF
 go_enter Try.func82, Try.ntmps82
 go_upto_region 1 with (fail)
 obtain ⟨W1, hwo⟩ : ∃ v : World, v = (w.alloc (.cells (zb 64 (m)) 24)) := ⟨_, rfl⟩
 have B0 : Blk W1 (w.heap.size) 64 24 (m) := by subst hwo; have := (Blk.new w 64 24 (m)); simpa using this
 have hb : Below w.heap.size w W1 := by subst hwo; exact ((Below.refl _ _).alloc (Nat.le_refl _) _)
 rw [← hwo]
 clear hwo
 by_cases hz : (adV p m).2 = 0
 · rw [hz] at HSM
   obtain ⟨n, d, Q, rfl, n2, n7, hd, d4, hQ, q16, q1, hv⟩ := adV_z hz
   have HV := Lib.hid hv
   have HAL := Lib.hid (fun W => l06All_any n m d Q W n2 n7 hd d4 hQ q16 q1)
   clear hv hz hd hQ
   go_upto_region 4 with (first | (refine zla (.tmp 3) B0 Try.underlying24 Try.size24 ?_) | (go_at_call 180; refine (HSM.out _).mono ?_; rintro e W2 ⟨rfl, hW2⟩; replace B0 := B0.zw hW2; replace hb := (hb).trans (hW2.mono (hb).size)))
   go_wp2_with (first | (refine zla (.tmp 3) B0 Try.underlying24 Try.size24 ?_) | (go_at_call 181; refine (HAL.out _).mono ?_; rintro e W9 ⟨v9, rfl, hS9, hy9⟩))
   go_ret2
   exact ⟨_, by rw [HV.out]; rfl, by rw [HV.out]; exact hS9.base hb.size, hb.trans (hy9.mono hb.size)⟩
 · have HV := Lib.hid (adV_nz hz)
   obtain ⟨c, ec⟩ : ∃ c, (adV p m).2 = c := ⟨_, rfl⟩
   rw [ec] at HSM hz
   go_upto_region 2 with (first | (refine zla (.tmp 3) B0 Try.underlying24 Try.size24 ?_) | (go_at_call 180; refine (HSM.out _).mono ?_; rintro e W2 ⟨rfl, hW2⟩; replace B0 := B0.zw hW2; replace hb := (hb).trans (hW2.mono (hb).size)))
   go_wp2_with fail
   go_ret2
   exact ⟨_, by rw [ec]; rfl, by rw [HV.out]; exact (by rw [drRows_nil]; exact SlL.nil _ _ hb.size), hb⟩
end Go.Proofs.Yteloknnooebabaa
end
section
namespace Go.Proofs.Yteloknnooebabaa
open Go.RowKit
set_option linter.unusedVariables false
set_option linter.unusedSimpArgs false
set_option maxRecDepth 100000 in
set_option maxHeartbeats 3200000 in
theorem FnExactAllDrinfeld_walk (p : Int) (f : Nat → Nat) (hf : byte f) (w : World) :
 Calls Try.prog 25 #[.int .i64 p, .agg (zb 64 f)] w fun e w' => e = .returned (.bool true) ∧ Below w.heap.size w w' := by
 have hR := (adV_len p f)
 obtain ⟨K, hK⟩ : ∃ K, K = 1 + 193 * ((adV p f).1).length := ⟨_, rfl⟩
 have hK1 : (K : Int) ≤ 1000000 := by omega
 have hK2 : ((K : Int) != (K : Int)) = false := by simp
 have hK3 : ¬ (K : Int) < 0 := by omega
 have hne : (((adV p f).2) != ((adV p f).2)) = false := by simp
 have HK := Lib.hid hK
 clear hK
 go_enter Try.func25, Try.ntmps25
 go_upto_region 1 with (fail)
 obtain ⟨wo, hwo⟩ : ∃ wo : World, wo = (w.alloc (.cells (zb 64 f) 22)) := ⟨_, rfl⟩
 have B0 : Blk wo w.heap.size 64 22 f := by subst hwo; have := Blk.new w 64 22 f; simpa using this
 have hb : Below w.heap.size w wo := by subst hwo; exact ((Below.refl _ _).alloc (Nat.le_refl _) _)
 rw [← hwo]
 clear hwo
 go_upto_region 2 with (first | refine zlb rfl 22 _ rfl _ rfl 64 22 _ (B0) 5 Try.underlying22 Try.size22 ?_ | (go_at_call 28; refine (toPoly_any _ hf _).mono ?_; rintro e W1 ⟨rfl, h1⟩; replace B0 := B0.zw h1; replace hb := hb.trans (h1.mono hb.size)) | (go_at_call 82; refine (spec_AllDrinfeld_any p f hf _).mono ?_; rintro e W2 ⟨v1, rfl, S1, h2⟩; have hzS1 := hb.size; have hltS1 := B0.lt; replace B0 := B0.zw h2; replace hb := hb.trans (h2.mono hb.size)))
 obtain ⟨a1, cap1, rfl⟩ : ∃ a cap, v1 = .slice a ((adV p f).1).length cap := by
  rcases S1.shape with ⟨h1, h2⟩ | ⟨g, cap, h1⟩
  · have h3 := congrArg List.length h2
    rw [drRows_len] at h3
    exact ⟨_, _, by rw [h1, show ((adV p f).1).length = 0 from h3]⟩
  · exact ⟨_, _, by rw [h1, drRows_len]⟩
 obtain ⟨base1, hb1⟩ : ∃ b, b = W1.heap.size := ⟨_, rfl⟩
 rw [← hb1] at S1
 have T1 := S1.top
 obtain ⟨top1, ht1⟩ : ∃ b, b = W2.heap.size := ⟨_, rfl⟩
 rw [← ht1] at T1
 have hsz := Nat.le_of_eq ht1
 clear hb1 ht1 S1
 have Z1 : SzG top1 W2 := hsz
 go_upto_region 3 with (first | refine zlb rfl 22 _ rfl _ rfl 64 22 _ (B0) 5 Try.underlying22 Try.size22 ?_ | (go_at_call 28; refine (toPoly_any _ hf _).mono ?_; rintro e W1 ⟨rfl, h1⟩; replace B0 := B0.zw h1; replace T1 := T1.zw h1; replace Z1 := Z1.zw h1; replace hb := hb.trans (h1.mono hb.size)) | (go_at_call 83; refine (impl_AllDrinfeld_any p f hf _).mono ?_; rintro e W4 ⟨v2, rfl, S2, h2⟩; have hzS2 := hb.size; have hltS2 := B0.lt; replace B0 := B0.zw h2; replace T1 := T1.zw h2; replace hb := hb.trans (h2.mono hb.size)))
 obtain ⟨a2, cap2, rfl⟩ : ∃ a cap, v2 = .slice a ((adV p f).1).length cap := by
  rcases S2.shape with ⟨h1, h2⟩ | ⟨g, cap, h1⟩
  · have h3 := congrArg List.length h2
    rw [drRows_len] at h3
    exact ⟨_, _, by rw [h1, show ((adV p f).1).length = 0 from h3]⟩
  · exact ⟨_, _, by rw [h1, drRows_len]⟩
 have hap : ∀ r, (Value.slice a1 ((adV p f).1).length cap1).ownBlock = some r → ∀ r2, (Value.slice a2 ((adV p f).1).length cap2).ownBlock = some r2 → r ≠ r2 := fun r hr r2 hr2 => by
  have e1 := T1.2 r hr
  have e2 := S2.own r2 hr2
  have e3 := Z1.lt
  omega
 obtain ⟨base2, hb2⟩ : ∃ b, b = W1.heap.size := ⟨_, rfl⟩
 rw [← hb2] at S2 hzS2
 have S1 := T1.1
 have HAP := Lib.hid hap
 have hwb : w.heap.size < base2 := by rw [hb2]; exact hltS2
 clear hb2 T1 Z1 hap hsz
 go_upto_region 6 with (first | (go_at_call 84; refine (eqDrinfeldS_same 0 ((adV p f).1) a2 a1 cap2 cap1 base2 base1 _ S2 S1 hR).mono ?_; rintro e W5 ⟨rfl, h2⟩; replace B0 := B0.zw h2; replace S1 := S1.zw h2; replace S2 := S2.zw h2; replace hb := hb.trans (h2.mono hb.size)))
 go_upto_region 8 with (first | (go_at_call 85; refine (markDrinfeldS_any ((adV p f).1).length a2 cap2 base2 _ (S2.marksD (drRows_len ..)) hR).mono ?_; rintro e W6 ⟨rfl, M2, hG⟩; rw [← HK.out]))
 have hown := S2.own
 replace B0 := B0.grownO hG hown (base := base2) hwb
 replace hb := hb.grown hG hb.size (fun k e => Nat.le_trans (Nat.le_of_lt hwb) (hown k e))
 replace S1 := slL_apart S1 hG (by
  cases hv : (Value.slice a1 ((adV p f).1).length cap1).ownBlock with
  | none => exact .inl rfl
  | some r =>
   refine .inr fun h => ?_
   exact HAP.out r hv r h.symm rfl)
 clear S2 hG hown
 go_upto_region 13 with (first | (go_at_call 86; refine (heldDrinfeldS_any ((adV p f).1).length a2 cap2 base2 _ M2 hR).mono ?_; rintro e wS ⟨rfl, rfl⟩; rw [← HK.out]))
 go_upto_region 14 with (first | refine zlb rfl 22 _ rfl _ rfl 64 22 _ (B0) 5 Try.underlying22 Try.size22 ?_ | (go_at_call 28; refine (toPoly_any _ hf _).mono ?_; rintro e W1 ⟨rfl, h1⟩; replace B0 := B0.zw h1; replace S1 := S1.zw h1; replace M2 := M2.below h1; replace hb := hb.trans (h1.mono hb.size)) | (go_at_call 83; refine (impl_AllDrinfeld_any p f hf _).mono ?_; rintro e W8 ⟨v3, rfl, S3, h2⟩; have hzS3 := hb.size; have hltS3 := B0.lt; replace B0 := B0.zw h2; replace S1 := S1.zw h2; replace M2 := M2.below h2; replace hb := hb.trans (h2.mono hb.size)))
 obtain ⟨a3, cap3, rfl⟩ : ∃ a cap, v3 = .slice a ((adV p f).1).length cap := by
  rcases S3.shape with ⟨h1, h2⟩ | ⟨g, cap, h1⟩
  · have h3 := congrArg List.length h2
    rw [drRows_len] at h3
    exact ⟨_, _, by rw [h1, show ((adV p f).1).length = 0 from h3]⟩
  · exact ⟨_, _, by rw [h1, drRows_len]⟩
 go_upto_region 17 with (first | (go_at_call 84; refine (eqDrinfeldS_same 0 ((adV p f).1) a3 a1 cap3 cap1 _ base1 _ S3 S1 hR).mono ?_; rintro e W9 ⟨rfl, h2⟩; replace B0 := B0.zw h2; replace M2 := M2.below h2; replace hb := hb.trans (h2.mono hb.size)))
 clear S3 S1
 go_wp2_with (first | (go_at_call 86; refine (heldDrinfeldS_any ((adV p f).1).length a2 cap2 base2 _ M2 hR).mono ?_; rintro e wS ⟨rfl, rfl⟩; rw [← HK.out]))
 go_ret
 exact ⟨rfl, hb⟩
end Go.Proofs.Yteloknnooebabaa
end
section
namespace Go.Proofs.Yteloknnooebabaa
open Go
def cutW : List Char := [Char.ofNat 99, Char.ofNat 117, Char.ofNat 116]
theorem strip_cut (rest : List (List Char)) : stripLifts liftWords (cutW :: rest) = ([], cutW :: rest) := by
 have key : ∀ os : List String, (os.all fun o => !(cutW == o.toList)) = true → stripLifts os (cutW :: rest) = ([], cutW :: rest) := by
  intro os
  induction os with
  | nil => intro _; rfl
  | cons o os ih =>
   intro h
   simp only [List.all_cons, Bool.and_eq_true, Bool.not_eq_true'] at h
   unfold stripLifts
   rw [h.1]
   exact ih h.2
 exact key _ (by decide +kernel)
theorem make_cut {P : Program} {rest : List (List Char)} (h : behindMainWord (wordsSigns P.initOrder.toList) = cutW :: rest) : P.make = some .cut := by
 unfold Program.make
 rw [h]
 have e1 : (cutW == "gc".toList || cutW == "spec".toList) = false := by decide +kernel
 have e2 : (cutW == "cut".toList) = true := by decide +kernel
 simp only [e1, e2, Bool.true_or]
 rfl
theorem mayEnter_cut {P : Program} {rest : List (List Char)} (h : behindMainWord (wordsSigns P.initOrder.toList) = cutW :: rest) (h1 : P.laysLater = false) (h2 : P.bearsReflect = false) (h3 : P.doorFits [] = true) : P.mayEnter = true := by
 unfold Program.mayEnter
 rw [h]
 have e2 : (some cutW == some "cut".toList) = true := by decide +kernel
 simp only [strip_cut, h1, h2, h3, List.head?_cons, e2]
 simp
theorem lifts_cut {P : Program} {rest : List (List Char)} (h : behindMainWord (wordsSigns P.initOrder.toList) = cutW :: rest) : P.liftsFinal = false := by
 unfold Program.liftsFinal Program.headLifts
 rw [h]
 have e2 : (some cutW == some "cut".toList) = true := by decide +kernel
 have e3 : (some cutW == some "carried".toList) = false := by decide +kernel
 simp only [strip_cut, List.head?_cons, e2, e3]
 simp
/-- the signs of the head, and its words behind the first three -/
def initRest : List (List Nat) := [[97, 116], [108, 111, 111, 112, 46, 101, 120, 97, 109, 112, 108, 101, 47, 103, 48, 49, 50, 52, 53, 47, 108, 97, 119, 115, 46, 70, 110, 69, 120, 97, 99, 116, 77, 117, 108, 116, 105, 112, 108, 121, 83, 107, 101, 119, 115], [108, 111, 111, 112, 46, 101, 120, 97, 109, 112, 108, 101, 47, 103, 48, 49, 50, 52, 53, 47, 108, 97, 119, 115, 46, 70, 110, 69, 120, 97, 99, 116, 80, 111, 119, 101, 114, 79, 102, 83, 107, 101, 119], [108, 111, 111, 112, 46, 101, 120, 97, 109, 112, 108, 101, 47, 103, 48, 49, 50, 52, 53, 47, 108, 97, 119, 115, 46, 70, 110, 69, 120, 97, 99, 116, 68, 105, 118, 105, 100, 101, 82, 105, 103, 104, 116], [108, 111, 111, 112, 46, 101, 120, 97, 109, 112, 108, 101, 47, 103, 48, 49, 50, 52, 53, 47, 108, 97, 119, 115, 46, 70, 110, 69, 120, 97, 99, 116, 68, 105, 118, 105, 100, 101, 76, 101, 102, 116], [108, 111, 111, 112, 46, 101, 120, 97, 109, 112, 108, 101, 47, 103, 48, 49, 50, 52, 53, 47, 108, 97, 119, 115, 46, 70, 110, 69, 120, 97, 99, 116, 82, 105, 103, 104, 116, 68, 105, 118, 105, 115, 111, 114], [108, 111, 111, 112, 46, 101, 120, 97, 109, 112, 108, 101, 47, 103, 48, 49, 50, 52, 53, 47, 108, 97, 119, 115, 46, 70, 110, 69, 120, 97, 99, 116, 76, 101, 102, 116, 77, 117, 108, 116, 105, 112, 108, 101], [108, 111, 111, 112, 46, 101, 120, 97, 109, 112, 108, 101, 47, 103, 48, 49, 50, 52, 53, 47, 108, 97, 119, 115, 46, 70, 110, 69, 120, 97, 99, 116, 76, 101, 97, 115, 116, 83, 107, 101, 119], [108, 111, 111, 112, 46, 101, 120, 97, 109, 112, 108, 101, 47, 103, 48, 49, 50, 52, 53, 47, 108, 97, 119, 115, 46, 70, 110, 69, 120, 97, 99, 116, 65, 99, 116, 79, 110, 82, 101, 115, 105, 100, 117, 101], [108, 111, 111, 112, 46, 101, 120, 97, 109, 112, 108, 101, 47, 103, 48, 49, 50, 52, 53, 47, 108, 97, 119, 115, 46, 70, 110, 69, 120, 97, 99, 116, 68, 101, 101, 112, 82, 101, 115, 116], [108, 111, 111, 112, 46, 101, 120, 97, 109, 112, 108, 101, 47, 103, 48, 49, 50, 52, 53, 47, 108, 97, 119, 115, 46, 70, 110, 69, 120, 97, 99, 116, 65, 100, 100, 65, 99, 116, 105, 111, 110, 115], [108, 111, 111, 112, 46, 101, 120, 97, 109, 112, 108, 101, 47, 103, 48, 49, 50, 52, 53, 47, 108, 97, 119, 115, 46, 70, 110, 69, 120, 97, 99, 116, 67, 111, 109, 112, 111, 115, 101, 65, 99, 116, 105, 111, 110, 115], [108, 111, 111, 112, 46, 101, 120, 97, 109, 112, 108, 101, 47, 103, 48, 49, 50, 52, 53, 47, 108, 97, 119, 115, 46, 70, 110, 69, 120, 97, 99, 116, 73, 115, 68, 114, 105, 110, 102, 101, 108, 100], [108, 111, 111, 112, 46, 101, 120, 97, 109, 112, 108, 101, 47, 103, 48, 49, 50, 52, 53, 47, 108, 97, 119, 115, 46, 70, 110, 69, 120, 97, 99, 116, 68, 114, 105, 110, 102, 101, 108, 100, 65, 99, 116, 105, 111, 110], [108, 111, 111, 112, 46, 101, 120, 97, 109, 112, 108, 101, 47, 103, 48, 49, 50, 52, 53, 47, 108, 97, 119, 115, 46, 70, 110, 69, 120, 97, 99, 116, 68, 114, 105, 110, 102, 101, 108, 100, 86, 97, 108, 117, 101], [108, 111, 111, 112, 46, 101, 120, 97, 109, 112, 108, 101, 47, 103, 48, 49, 50, 52, 53, 47, 108, 97, 119, 115, 46, 70, 110, 69, 120, 97, 99, 116, 73, 110, 118, 97, 114, 105, 97, 110, 116, 79, 102], [108, 111, 111, 112, 46, 101, 120, 97, 109, 112, 108, 101, 47, 103, 48, 49, 50, 52, 53, 47, 108, 97, 119, 115, 46, 70, 110, 69, 120, 97, 99, 116, 84, 119, 105, 115, 116, 79, 102], [108, 111, 111, 112, 46, 101, 120, 97, 109, 112, 108, 101, 47, 103, 48, 49, 50, 52, 53, 47, 108, 97, 119, 115, 46, 70, 110, 69, 120, 97, 99, 116, 65, 114, 101, 73, 115, 111, 109, 111, 114, 112, 104, 105, 99], [108, 111, 111, 112, 46, 101, 120, 97, 109, 112, 108, 101, 47, 103, 48, 49, 50, 52, 53, 47, 108, 97, 119, 115, 46, 70, 110, 69, 120, 97, 99, 116, 73, 115, 73, 115, 111, 103, 101, 110, 121], [108, 111, 111, 112, 46, 101, 120, 97, 109, 112, 108, 101, 47, 103, 48, 49, 50, 52, 53, 47, 108, 97, 119, 115, 46, 70, 110, 69, 120, 97, 99, 116, 78, 111, 114, 109, 79, 102], [108, 111, 111, 112, 46, 101, 120, 97, 109, 112, 108, 101, 47, 103, 48, 49, 50, 52, 53, 47, 108, 97, 119, 115, 46, 70, 110, 69, 120, 97, 99, 116, 70, 114, 111, 98, 101, 110, 105, 117, 115, 79, 102], [108, 111, 111, 112, 46, 101, 120, 97, 109, 112, 108, 101, 47, 103, 48, 49, 50, 52, 53, 47, 108, 97, 119, 115, 46, 70, 110, 69, 120, 97, 99, 116, 73, 115, 83, 117, 112, 101, 114, 115, 105, 110, 103, 117, 108, 97, 114], [108, 111, 111, 112, 46, 101, 120, 97, 109, 112, 108, 101, 47, 103, 48, 49, 50, 52, 53, 47, 108, 97, 119, 115, 46, 70, 110, 69, 120, 97, 99, 116, 79, 114, 100, 101, 114, 80, 111, 108, 121, 110, 111, 109, 105, 97, 108], [108, 111, 111, 112, 46, 101, 120, 97, 109, 112, 108, 101, 47, 103, 48, 49, 50, 52, 53, 47, 108, 97, 119, 115, 46, 70, 110, 69, 120, 97, 99, 116, 65, 108, 108, 68, 114, 105, 110, 102, 101, 108, 100], [108, 111, 111, 112, 46, 101, 120, 97, 109, 112, 108, 101, 47, 103, 48, 49, 50, 52, 53, 47, 108, 97, 119, 115, 46, 70, 110, 69, 120, 97, 99, 116, 67, 111, 117, 110, 116, 66, 121, 84, 114, 97, 99, 101]]
def initSigns : List Nat := [104, 97, 114, 110, 101, 115, 115, 32, 99, 97, 100, 55, 48, 52, 57, 53, 51, 55, 102, 57, 101, 99, 48, 100, 52, 49, 51, 57, 54, 98, 101, 48, 101, 97, 55, 102, 56, 52, 49, 101, 55, 51, 98, 99, 100, 102, 57, 50, 52, 101, 57, 54, 52, 101, 55, 99, 56, 53, 101, 99, 51, 101, 49, 49, 100, 97, 101, 55, 53, 54, 57, 52, 32, 99, 117, 116] ++ initRest.flatMap fun x => 32 :: x
theorem init_split : behindMainWord (wordsSigns (initSigns.map Char.ofNat)) = cutW :: initRest.map (fun w => w.map Char.ofNat) := by kernel_rfl
theorem init_order : Try.prog.initOrder = String.ofList (initSigns.map Char.ofNat) := by kernel_rfl
theorem init_cut : behindMainWord (wordsSigns Try.prog.initOrder.toList) = cutW :: initRest.map (fun w => w.map Char.ofNat) :=
 (congrArg (fun s : String => behindMainWord (wordsSigns s.toList)) init_order).trans ((congrArg (fun l => behindMainWord (wordsSigns l)) String.toList_ofList).trans init_split)
theorem Try.laysLater : Try.prog.laysLater = false := by kernel_rfl
theorem Try.bearsReflect : Try.prog.bearsReflect = false := by kernel_rfl
theorem Try.doorFits : Try.prog.doorFits [] = true := by kernel_rfl
theorem Try.mayEnter : Try.pinned.checked.prog.mayEnter = true := mayEnter_cut init_cut Try.laysLater Try.bearsReflect Try.doorFits
theorem Try.liftsFinal : Try.pinned.checked.prog.liftsFinal = false := lifts_cut init_cut
theorem Try.make : Try.pinned.checked.prog.make = some .cut := make_cut init_cut
end Go.Proofs.Yteloknnooebabaa
end
