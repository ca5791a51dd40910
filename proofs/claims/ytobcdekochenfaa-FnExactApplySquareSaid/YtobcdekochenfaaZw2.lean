/-
  What the rows of this claim rest on: arrays of bytes, walks of the functions, plain mathematics.
-/
import Derived.Test.YtobcdekochenfaaZw1
import Derived.Test.YtobcdekochenfaaRows
import Derived.ProofKit
import Derived.JoinedOf
section
namespace Go.Proofs.Ytobcdekochenfaa
open Go Go.RowKit
set_option linter.unusedVariables false
set_option linter.unusedSimpArgs false
theorem wpList_load_one_g {P : Program} {ops : Array Oper} {rest : List Oper} {o : Oper} {a : Act} {w : World} {Q : Exit → Act → World → Prop} (hw : Region.wanted o (yielded ops a.tmps) = true) (ty : TypeId) (x : Operand) (ho : o.op = .load ty x)
 (b : Nat) (hx : a.eval x = .pointer (some ⟨b, 0, none⟩)) (t : TypeId) (v : Value) (hb : One w b t v) (d : TypeDesc)
 (hu : P.underlying ty = some d) (hd : (match d with | .struct _ | .array _ _ => true | _ => false) = false) (h : wpList P ops Q rest (a.put o.dst v) w) : wpList P ops Q (o :: rest) a w := by
 unfold wpList
 rw [if_pos hw]
 exact Or.inl (wp_load_one ty x ho b hx t v hb d hu hd h)
/-- the cells of a matrix -/
def mxC (p n : Int) (S : Nat → Nat → Nat) : List Value := .int .i64 p :: .int .i64 n :: bl 36 (fl 6 S)
theorem mxC_len (p n : Int) (S : Nat → Nat → Nat) : (mxC p n S).length = 38 := by simp [mxC, bl]
theorem mxC_at (p n : Int) (S : Nat → Nat → Nat) : (mxC p n S).toArray[0]? = some (.int .i64 p) := by simp [mxC]
theorem mxC_at1 (p n : Int) (S : Nat → Nat → Nat) : (mxC p n S).toArray[1]? = some (.int .i64 n) := by simp [mxC]
theorem mxC_all (p n : Int) (S : Nat → Nat → Nat) : (mxC p n S).toArray.all (·.oneCell') = true := Array.all_eq_true_iff_forall_mem.2 fun u hu => by
 have hu' : u ∈ mxC p n S := by simpa using hu
 unfold mxC at hu'
 rcases List.mem_cons.1 hu' with h | h
 · subst h; rfl
 · rcases List.mem_cons.1 h with h | h
   · subst h; rfl
   · unfold bl at h
     obtain ⟨i, _, rfl⟩ := List.mem_map.1 h
     rfl
theorem Try.size129 : (Try.prog.info? 129).map (·.size) = some 38 := by kernel_rfl
theorem mxC_zero : (mxC 0 0 (fun _ _ => 0)).toArray = #[.int .i64 0, .int .i64 0, .int .u8 0, .int .u8 0, .int .u8 0, .int .u8 0, .int .u8 0, .int .u8 0, .int .u8 0, .int .u8 0, .int .u8 0, .int .u8 0, .int .u8 0, .int .u8 0, .int .u8 0, .int .u8 0, .int .u8 0, .int .u8 0, .int .u8 0, .int .u8 0, .int .u8 0, .int .u8 0, .int .u8 0, .int .u8 0, .int .u8 0, .int .u8 0, .int .u8 0, .int .u8 0, .int .u8 0, .int .u8 0, .int .u8 0, .int .u8 0, .int .u8 0, .int .u8 0, .int .u8 0, .int .u8 0, .int .u8 0, .int .u8 0] := by unfold mxC; rw [fl_zero]; unfold bl; kernel_rfl
theorem Row.mxs {w : World} {b : Nat} {t : TypeId} {p n : Int} {S : Nat → Nat → Nat} (h : Row w b t (mxC p n S).toArray) : w.rangeAt b 2 (bl 36 (fl 6 S)) := range_part (pre := [.int .i64 p, .int .i64 n]) (c := bl 36 (fl 6 S)) (post := []) (by simpa [mxC] using h)
theorem Row.mxr {w : World} {b : Nat} {t : TypeId} {p n : Int} {S : Nat → Nat → Nat} (h : Row w b t (mxC p n S).toArray) {i : Nat} (hi : i < 6) : w.rangeAt b (2 + i * 6) (bl 6 (S i)) := by
 intro j v hv
 have hj : j < 6 := by have := (List.getElem?_eq_some_iff.1 hv).1; rwa [zl] at this
 have e1 := bcells_get (n := 36) (f := fl 6 S) (i := i * 6 + j) (by omega)
 have e2 := bcells_get (n := 6) (f := S i) (i := j) hj
 simp only [List.getElem?_toArray] at e1 e2
 rw [fl_at hj] at e1
 rw [hv] at e2
 have := h.mxs (i * 6 + j) v (by rw [e1, e2])
 rwa [← Nat.add_assoc] at this
theorem built_mx (p n : Int) (S : Nat → Nat → Nat) : Try.prog.built 129 [(0, .int .i64 p), (1, .int .i64 n), (2, .agg (zb 36 (fl 6 S)))] = some (mxC p n S).toArray := by unfold mxC zb bl; kernel_rfl
theorem splice_row (a g : Nat → Nat) (hg : ∀ k, 6 ≤ k → g k = 0) : splice (bl 64 g) 0 (bl 6 a) = bl 64 (rp a) := by
 unfold splice
 apply List.ext_getElem?
 intro i
 by_cases h : i < 6
 · rw [List.take_zero, List.nil_append, List.getElem?_append_left (by rw [zl]; exact h)]
   have e1 := bcells_get (f := a) h
   have e2 := bcells_get (f := rp a) (show i < 64 by omega)
   simp only [List.getElem?_toArray] at e1 e2
   rw [e1, e2, rp_in h]
 · rw [List.take_zero, List.nil_append, List.getElem?_append_right (by rw [zl]; omega), zl, List.getElem?_drop]
   by_cases h2 : i < 64
   · have e1 := bcells_get (f := g) (show 0 + 6 + (i - 6) < 64 by omega)
     have e2 := bcells_get (f := rp a) h2
     simp only [List.getElem?_toArray] at e1 e2
     rw [e1, e2, rp_out (by omega), hg _ (by omega)]
   · rw [List.getElem?_eq_none (by rw [zl]; omega), List.getElem?_eq_none (by rw [zl]; omega)]
attribute [local irreducible] deg resP okA ldS ldN apN rp sclP
set_option maxRecDepth 100000 in
set_option maxHeartbeats 1600000 in
theorem polyOfRow_any (x : Nat → Nat) (w : World) : Calls Try.prog 129 #[.agg (zb 6 x)] w fun e w' => e = .returned (.agg (zb 64 (rp x))) ∧ Below w.heap.size w w' := by
 go_enter Try.func129, Try.ntmps129
 go_upto_region 1 with (fail)
 rw [← z64]
 obtain ⟨W1, hwo⟩ : ∃ v : World, v = ((w.alloc (.cells (zb 6 (x)) 64)).alloc (.cells (zb 64 (fun _ => 0)) 23)) := ⟨_, rfl⟩
 have B0 : Blk W1 (w.heap.size) 6 64 (x) := by subst hwo; have := ((Blk.new w 6 64 (x)).alloc (.cells (zb 64 (fun _ => 0)) 23)); simpa using this
 have B1 : Blk W1 (w.heap.size + 1) 64 23 (fun _ => 0) := by subst hwo; have := (Blk.new (w.alloc (.cells (zb 6 (x)) 64)) 64 23 (fun _ => 0)); simpa using this
 have hb : Below w.heap.size w W1 := by subst hwo; exact (((Below.refl _ _).alloc (Nat.le_refl _) _).alloc (by simp) _)
 rw [← hwo]
 clear hwo
 go_upto_region 2 with (first | rw [← z64])
 have lt_B0 := B0.lt
 have lt_B1 := B1.lt
 have lhb := hb.size
 obtain ⟨W2, hwo, hzQ⟩ : ∃ v : World, v = (W1.alloc (.cells (zb 64 (fun _ => 0)) 23)) ∧ Blk v (w.heap.size) 6 64 (x) ∧ Blk v (w.heap.size + 1) 64 23 (fun _ => 0) ∧ Blk v (W1.heap.size) 64 23 (fun _ => 0) ∧ Below w.heap.size w v := ⟨_, rfl, (B0.alloc (.cells (zb 64 (fun _ => 0)) 23)), (B1.alloc (.cells (zb 64 (fun _ => 0)) 23)), (Blk.new W1 64 23 (fun _ => 0)), (hb.alloc (by have := hb.size; simp; omega) (.cells (zb 64 (fun _ => 0)) 23))⟩
 rw [← hwo]
 clear hwo B0 B1 hb
 obtain ⟨B0, B1, B2, hb⟩ := hzQ
 obtain ⟨N1, hNN⟩ : ∃ n : Nat, n = W1.heap.size := ⟨_, rfl⟩
 rw [← hNN] at lt_B0 lt_B1 lhb B2 ⊢
 clear hNN
 have zN1_0 := lt_B0
 have zN1_1 := lt_B1
 have zN1 := lhb
 clear lt_B0 lt_B1 lhb
 try simp only [Act.put, pA, pB, pC]
 have lt_B0 : (w.heap.size) < W2.heap.size := B0.lt
 have lt_B1 : (w.heap.size + 1) < W2.heap.size := B1.lt
 have lt_B2 : (N1) < W2.heap.size := B2.lt
 have hbase : w.heap.size ≤ W2.heap.size := hb.size
 refine zq Try.mixed (by kernel_rfl) (by kernel_rfl) (fun v => by (simp only [frL, Act.put, pA, pB, pC, Nat.reduceAdd, Nat.zero_add]; exact rfl))
  (fun L v W3 => Below w.heap.size w W3 ∧ W2.heap.size ≤ W3.heap.size ∧ Blk W3 (w.heap.size) 6 64 (x) ∧ Blk W3 (w.heap.size + 1) 64 23 (fun _ => 0) ∧ (∃ g, Blk W3 (N1) 64 23 (g)) ∧ (L 2 = false → Blk W3 (N1) 64 23 (fun _ => 0)) ∧ (L 2 = true → Blk W3 (N1) 64 23 (rp x)) ∧ VF L v [some (.slice (some ⟨N1, 0, none⟩) 64 64), some (.slice (some ⟨w.heap.size, 0, none⟩) 6 6), some (goInt ((6 : Nat) : Int))]) ?_ ?_ ?_
 · intro v hv0
   exact ⟨hb.drew, Nat.le_refl _, B0.drew, B1.drew, ⟨_, B2.drew⟩, (fun _ => B2.drew), (fun h => by cases h), VF.start⟩
 · refine (.cons rfl ?_ (.cons rfl ?_ (.cons rfl ?_ (.nil _))))
   all_goals intro L v W3 hd hn ⟨hB, hz, s0, s1, x2, q2, n2, V⟩ K hK
   · go_wp2_with fail
     exact hK _ (.slice (some ⟨N1, 0, none⟩) 64 64) _ (by simp only [Act.put, pA, pB, pC ]) ⟨hB, hz, s0, s1, x2, q2, n2, V.step 0 rfl⟩
   · go_wp2_with fail
     exact hK _ (.slice (some ⟨w.heap.size, 0, none⟩) 6 6) _ (by simp only [Act.put, pA, pB, pC ]) ⟨hB, hz, s0, s1, x2, q2, n2, V.step 1 rfl⟩
   · have e0 := V.at (zdq hd 0 rfl) rfl
     have e1 := V.at (zdq hd 1 rfl) rfl
     obtain ⟨gz, hk, hgz⟩ : ∃ g, Blk W3 (N1) 64 23 g ∧ ∀ k, 6 ≤ k → g k = 0 := by
      cases hL : L 2 with
      | false => exact ⟨_, q2 hL, fun _ _ => rfl⟩
      | true => exact ⟨_, n2 hL, fun k hk => rp_out hk⟩
     have hg : W3.heap[N1]? = some (.cells (bl 64 gz).toArray 23 (0, 0)) := by unfold Blk at hk; exact hk
     refine wp_copy_splice rfl _ _ 180 180 rfl 5 Try.underlying180 Try.size5 _ _ _ _ _ _ e0 e1 (N1) 0 (bl 64 gz) 23 hg (bl 6 x) (by rw [zl]; rfl) (fun _ => ⟨rfl, _, rfl, fun j v hv => by rw [addr_zero_add]; have := s0.range j v hv; rwa [Nat.zero_add] at this⟩) (by rw [zl, zl]; omega) bl_one (N1) W3 (Below.refl _ _) (Nat.le_refl _) ?_
     intro wy hyg hy
     have hnew : Blk wy (N1) 64 23 (rp x) := by unfold Blk; rw [hyg.out, splice_row x gz hgz]
     rw [zl]
     exact hK _ (goInt ((6 : Nat) : Int)) _ (by simp only [Act.put, pA, pB, pC, e0, e1]) ⟨hB.trans (hy.mono (by omega)), (Nat.le_trans hz hy.size), (s0).below hy (by omega), (s1).below hy (by omega), ⟨_, hnew⟩, (fun h => absurd h (by simp [setL])), (fun _ => hnew), V.step 2 rfl⟩
 · intro L v W3 hL ⟨hB, hz, s0, s1, x2, q2, n2, V⟩
   have r2 := n2 (hL 2 (by decide))
   have e0 := V.at (hL 0 (by decide)) rfl
   have e1 := V.at (hL 1 (by decide)) rfl
   have e2 := V.at (hL 2 (by decide)) rfl
   clear hL x2 q2 n2 V
   simp only [Exit.then, e0, e1, e2]
   clear e0 e1 e2
   replace B0 := s0
   clear s0
   replace B1 := s1
   clear s1
   replace B2 := r2
   clear r2
   replace hb := hB
   clear hB
   clear hbase hz lt_B0 lt_B1 lt_B2
   go_upto_region 3 with (fail)
   have lt_B0 := B0.lt
   have lt_B1 := B1.lt
   have lt_B2 := B2.lt
   go_wp2_with (first | rw [← z64] | (refine zla (.tmp 3) B2 Try.underlying23 Try.size23 ?_) | (refine zsr (.tmp 2) (.tmp 7) (rp x) B1 Try.size23 ?_; try simp only [Act.put]))
   obtain ⟨W4, hwo, hzQ⟩ : ∃ v : World, v = (W3.setRow (w.heap.size + 1) (zb 64 (rp x))) ∧ Blk v (w.heap.size) 6 64 (x) ∧ Blk v (w.heap.size + 1) 64 23 (rp x) ∧ Blk v (N1) 64 23 (rp x) ∧ Below w.heap.size w v := ⟨_, rfl, (B0.rowOther (by omega)), (B1.row (rp x)), (B2.rowOther (by omega)), (zr hb (by omega) _)⟩
   rw [← hwo]
   clear hwo B0 B1 B2 hb
   obtain ⟨B0, B1, B2, hb⟩ := hzQ
   try simp only [Act.put, pA, pB, pC]
   refine bodyPost_ret (results_any rfl _ _ _ 64 _ _ rfl B1 _ Try.underlying23 rfl Try.size23) rfl ⟨rfl, hb⟩
set_option maxRecDepth 100000 in
set_option maxHeartbeats 1600000 in
theorem matrixOf_ok (p n : Int) (S : Nat → Nat → Nat) (hS : ∀ i, byte (S i)) (w : World) (hv : sqB p n S = true) :
 Calls Try.prog 124 #[.int .i64 p, .int .i64 n, .agg (zb 36 (fl 6 S))] w fun e w' => e = .returned (.agg (mxC p n S).toArray) ∧ Below w.heap.size w w' := by
 have HI := Lib.hid (fun W => impl_IsSquare_any p n S hS W)
 go_enter Try.func124, Try.ntmps124
 go_upto_region 1 with (fail)
 rw [← mxC_zero]
 obtain ⟨W1, hwo⟩ : ∃ v : World, v = ((w.alloc (.cells (zb 36 (fl 6 S)) 66)).alloc (.cells (mxC 0 0 (fun _ _ => 0)).toArray 129)) := ⟨_, rfl⟩
 have B0 : Blk W1 (w.heap.size) 36 66 (fl 6 S) := by subst hwo; have := ((Blk.new w 36 66 (fl 6 S)).alloc (.cells (mxC 0 0 (fun _ _ => 0)).toArray 129)); simpa using this
 have B1 : Row W1 (w.heap.size + 1) 129 (mxC 0 0 (fun _ _ => 0)).toArray := by subst hwo; have := (Row.new (w.alloc (.cells (zb 36 (fl 6 S)) 66)) 129 (mxC 0 0 (fun _ _ => 0)).toArray); simpa using this
 have hb : Below w.heap.size w W1 := by subst hwo; exact (((Below.refl _ _).alloc (Nat.le_refl _) _).alloc (by simp) _)
 rw [← hwo]
 clear hwo
 go_upto_region 2 with (first | (refine zla (.tmp 5) B0 Try.underlying66 Try.size66 ?_) | (go_at_call 170; refine (HI.out _).mono ?_; rintro e W2 ⟨rfl, hW2⟩; replace B0 := B0.zw hW2; replace B1 := B1.zw hW2; replace hb := (hb).trans (hW2.mono (hb).size); rw [hv]) | (go_at_call 112; refine (refuseUnless_ok _).mono ?_; rintro e wS ⟨rfl, rfl⟩))
 have lt_B0 := B0.lt
 have lt_B1 := B1.lt
 go_wp2_with (first | rw [← z64] | (refine zla (.tmp 5) B0 Try.underlying66 Try.size66 ?_) | (refine zbo rfl 129 _ rfl (mxC p n S).toArray (by rw [Array.toList_map]; exact built_mx _ _ _) ?_) | (refine wpList_store_rowv rfl 129 (.tmp 6) (.tmp 15) rfl _ rfl (mxC p n S).toArray rfl 129 _ (B1) 38 Try.size129 (by simp [mxC_len]) (by simp [mxC_len]) (mxC_all _ _ _) ?_; try simp only [Act.put]))
 obtain ⟨W3, hwo, hzQ⟩ : ∃ v : World, v = (W2.setRow (w.heap.size + 1) (mxC p n S).toArray) ∧ Blk v (w.heap.size) 36 66 (fl 6 S) ∧ Row v (w.heap.size + 1) 129 (mxC p n S).toArray ∧ Below w.heap.size w v := ⟨_, rfl, (B0.rowOther (by omega)), (B1.row (mxC p n S).toArray), (zr hb (by omega) _)⟩
 rw [← hwo]
 clear hwo B0 B1 hb
 obtain ⟨B0, B1, hb⟩ := hzQ
 try simp only [Act.put, pA, pB, pC]
 refine bodyPost_ret (results_row rfl _ _ _ _ _ rfl B1 _ Try.underlying129 rfl (by rw [Try.size129]; simp [mxC_len])) rfl ⟨rfl, hb⟩
set_option maxRecDepth 100000 in
set_option maxHeartbeats 1600000 in
theorem matrixOf_no (p n : Int) (S : Nat → Nat → Nat) (hS : ∀ i, byte (S i)) (w : World) (hv : sqB p n S = false) :
 Calls Try.prog 124 #[.int .i64 p, .int .i64 n, .agg (zb 36 (fl 6 S))] w fun e w' => e = .panicked [{ v := .iface 174 (.int .i64 1), recovered := false }] ∧ Below w.heap.size w w' := by
 have HI := Lib.hid (fun W => impl_IsSquare_any p n S hS W)
 go_enter Try.func124, Try.ntmps124
 go_upto_region 1 with (fail)
 rw [← mxC_zero]
 obtain ⟨W1, hwo⟩ : ∃ v : World, v = ((w.alloc (.cells (zb 36 (fl 6 S)) 66)).alloc (.cells (mxC 0 0 (fun _ _ => 0)).toArray 129)) := ⟨_, rfl⟩
 have B0 : Blk W1 (w.heap.size) 36 66 (fl 6 S) := by subst hwo; have := ((Blk.new w 36 66 (fl 6 S)).alloc (.cells (mxC 0 0 (fun _ _ => 0)).toArray 129)); simpa using this
 have B1 : Row W1 (w.heap.size + 1) 129 (mxC 0 0 (fun _ _ => 0)).toArray := by subst hwo; have := (Row.new (w.alloc (.cells (zb 36 (fl 6 S)) 66)) 129 (mxC 0 0 (fun _ _ => 0)).toArray); simpa using this
 have hb : Below w.heap.size w W1 := by subst hwo; exact (((Below.refl _ _).alloc (Nat.le_refl _) _).alloc (by simp) _)
 rw [← hwo]
 clear hwo
 go_wp2_with (first | (refine zla (.tmp 5) B0 Try.underlying66 Try.size66 ?_) | (go_at_call 170; refine (HI.out _).mono ?_; rintro e W2 ⟨rfl, hW2⟩; replace B0 := B0.zw hW2; replace B1 := B1.zw hW2; replace hb := (hb).trans (hW2.mono (hb).size); rw [hv]) | (go_at_call 112; refine (refuseUnless_no _).mono ?_; rintro e wS ⟨rfl, rfl⟩))
 exact ⟨rfl, rfl, hb⟩
set_option maxRecDepth 100000 in
set_option maxHeartbeats 1600000 in
theorem led_any (p : Nat) (n : Int) (S : Nat → Nat → Nat) (x : Nat → Nat) (w : World) (p2 : 2 ≤ p) (p7 : p ≤ 7) (lS : ∀ i, i < 6 → ∀ j, j < 6 → S i j < p) (lx : ∀ i, i < 6 → x i < p) :
 Calls Try.prog 215 #[.agg (mxC (p : Int) n S).toArray, .agg (zb 6 x)] w fun e w' => e = .returned (.agg (zb 6 (ldN p S x))) ∧ Below w.heap.size w w' := by
 have HLS := Lib.hid lS
 have HLX := Lib.hid lx
 have HLE := Lib.hid (fun j hj i hi => ldS_le (S := S) (v := x) p7 lx lS j hj i hi)
 have HSS := Lib.hid (ldS_s S x)
 have HNN := Lib.hid (show ∀ j, ldN p S x j = ldS S x 6 j % p from fun j => by unfold ldN; rfl)
 have HV := Lib.hid (fun (g : Nat → Nat) (hg : ∀ c, c < 6 → g c = if c < 6 then ldN p S x c else ldS S x 6 c) => zbc (n := 6) (f := g) (g := ldN p S x) (fun c hc => by rw [hg c hc, if_pos hc]))
 clear lS lx
 go_enter Try.func215, Try.ntmps215
 go_upto_region 1 with (fail)
 rw [← zero6]
 obtain ⟨W1, hwo⟩ : ∃ v : World, v = (((w.alloc (.cells (mxC (p : Int) n S).toArray 129)).alloc (.cells (zb 6 (x)) 64)).alloc (.cells (zb 6 (fun _ => 0)) 64)) := ⟨_, rfl⟩
 have B0 : Row W1 (w.heap.size) 129 (mxC (p : Int) n S).toArray := by subst hwo; have := (((Row.new w 129 (mxC (p : Int) n S).toArray).alloc (.cells (zb 6 (x)) 64)).alloc (.cells (zb 6 (fun _ => 0)) 64)); simpa using this
 have B1 : Blk W1 (w.heap.size + 1) 6 64 (x) := by subst hwo; have := ((Blk.new (w.alloc (.cells (mxC (p : Int) n S).toArray 129)) 6 64 (x)).alloc (.cells (zb 6 (fun _ => 0)) 64)); simpa using this
 have B2 : Blk W1 (w.heap.size + 1 + 1) 6 64 (fun _ => 0) := by subst hwo; have := (Blk.new ((w.alloc (.cells (mxC (p : Int) n S).toArray 129)).alloc (.cells (zb 6 (x)) 64)) 6 64 (fun _ => 0)); simpa using this
 have hb : Below w.heap.size w W1 := by subst hwo; exact ((((Below.refl _ _).alloc (Nat.le_refl _) _).alloc (by simp) _).alloc (by simp; omega) _)
 rw [← hwo]
 clear hwo
 go_upto_region 2 with (first | rw [← z64] | rw [← zero6])
 have lt_B0 := B0.lt
 have lt_B1 := B1.lt
 have lt_B2 := B2.lt
 have lhb := hb.size
 obtain ⟨W2, hwo, hzQ⟩ : ∃ v : World, v = (W1.alloc (.cells (zb 6 (fun _ => 0)) 64)) ∧ Row v (w.heap.size) 129 (mxC (p : Int) n S).toArray ∧ Blk v (w.heap.size + 1) 6 64 (x) ∧ Blk v (w.heap.size + 1 + 1) 6 64 (fun _ => 0) ∧ Blk v (W1.heap.size) 6 64 (fun _ => 0) ∧ Below w.heap.size w v := ⟨_, rfl, (B0.alloc (.cells (zb 6 (fun _ => 0)) 64)), (B1.alloc (.cells (zb 6 (fun _ => 0)) 64)), (B2.alloc (.cells (zb 6 (fun _ => 0)) 64)), (Blk.new W1 6 64 (fun _ => 0)), (hb.alloc (by have := hb.size; simp; omega) (.cells (zb 6 (fun _ => 0)) 64))⟩
 rw [← hwo]
 clear hwo B0 B1 B2 hb
 obtain ⟨B0, B1, B2, B3, hb⟩ := hzQ
 obtain ⟨N1, hNN⟩ : ∃ n : Nat, n = W1.heap.size := ⟨_, rfl⟩
 rw [← hNN] at lt_B0 lt_B1 lt_B2 lhb B3 ⊢
 clear hNN
 have zN1_0 := lt_B0
 have zN1_1 := lt_B1
 have zN1_2 := lt_B2
 have zN1 := lhb
 clear lt_B0 lt_B1 lt_B2 lhb
 try simp only [Act.put, pA, pB, pC]
 go_upto_region 99 with (first | (refine zla (.tmp 3) B1 Try.underlying64 Try.size64 ?_))
 go_loopw [12] (fun c wr => ∃ (i : Nat) (f : Nat → Nat), c = .int .i64 (i : Int) ∧ i ≤ 6 ∧ Hid (∀ j, j < 6 → f j = ldS S x i j) ∧ Below w.heap.size w wr ∧ Row wr (w.heap.size) 129 (mxC (p : Int) n S).toArray ∧ Blk wr (w.heap.size + 1) 6 64 x ∧ Blk wr (w.heap.size + 1 + 1) 6 64 (fun _ => 0) ∧ Blk wr (N1) 6 64 f) (fun c _ => 6 - (intOf c).toNat)
 case atStart => exact ⟨0, _, rfl, by omega, Lib.hid (fun j hj => by rw [ldS_z]), hb, B0, B1, B2, B3⟩
 case round =>
  clear hb B0 B1 B2 B3
  obtain ⟨i, f, rfl, hi6, hf, hb, B0, B1, B2, B3⟩ := hrel
  by_cases hi : i < 6
  · have hiI : (i : Int) < 6 := by omega
    obtain ⟨C, hC⟩ : ∃ C, C = x i := ⟨_, rfl⟩
    have hCp : C < p := by rw [hC]; exact HLX.out i hi
    have hx := fun W => run_index_blk (P := Try.prog) 64 5 6 x .i64 i Try.underlying64 Try.underlying5 Try.size5 hi W
    rw [← hC] at hx
    have HC := Lib.hid hC
    clear hC
    go_upto_region 4 with (fail)
    go_upto_region 5 with (fail)
    clear hx
    go_upto_region 99 with (first | (refine wpList_load_mid rfl 64 (.tmp 18) rfl _ (2 + i * 6) rfl (bl 6 (S i)) _ (B0.mxr hi) Try.underlying64 rfl (by rw [zl]; exact Try.size64) ?_))
    go_loopw [20] (fun c wr => ∃ (j : Nat) (g : Nat → Nat), c = .int .i64 (j : Int) ∧ j ≤ 6 ∧ Hid (∀ c, c < 6 → g c = if c < j then ldS S x (i + 1) c else ldS S x i c) ∧ Below w.heap.size w wr ∧ Row wr (w.heap.size) 129 (mxC (p : Int) n S).toArray ∧ Blk wr (w.heap.size + 1) 6 64 x ∧ Blk wr (w.heap.size + 1 + 1) 6 64 (fun _ => 0) ∧ Blk wr (N1) 6 64 g) (fun c _ => 6 - (intOf c).toNat)
    case atStart => exact ⟨0, _, rfl, by omega, Lib.hid (fun c hc => by rw [if_neg (Nat.not_lt_zero c)]; exact hf.out c hc), hb, B0, B1, B2, B3⟩
    case round =>
     clear hb B0 B1 B2 B3 hf
     obtain ⟨j, g, rfl, hj6, hg, hb, B0, B1, B2, B3⟩ := hrel
     by_cases hj : j < 6
     · have hjI : (j : Int) < 6 := by omega
       obtain ⟨D, hD⟩ : ∃ D, D = S i j := ⟨_, rfl⟩
       have hDp : D < p := by rw [hD]; exact HLS.out i hi j hj
       have hx := fun W => run_index_blk (P := Try.prog) 64 5 6 (S i) .i64 j Try.underlying64 Try.underlying5 Try.size5 hj W
       rw [← hD] at hx
       obtain ⟨X, hX⟩ : ∃ X, X = g j := ⟨_, rfl⟩
       have hX1 : X = ldS S x i j := by rw [hX, hg.out j hj, if_neg (by omega)]
       have hXl : X ≤ 180 := by rw [hX1]; have := HLE.out j hj i (by omega); omega
       have cc := B3.cell hj
       rw [← hX] at cc
       have zz := B3.frozen j
       have mb := mul36 p7 hCp hDp
       have mb0 : (0 : Int) ≤ (C : Int) * (D : Int) := Int.mul_nonneg (by omega) (by omega)
       have mb1 : (C : Int) * (D : Int) ≤ 36 := by exact_mod_cast mb
       have HN := Lib.hid (show ∀ c, c < 6 → upd g j (X + C * D) c = if c < j + 1 then ldS S x (i + 1) c else ldS S x i c from fun c hc => by
        unfold upd
        by_cases e : c = j
        · subst e; rw [if_pos rfl, if_pos (by omega), HSS.out, hX1, HC.out, hD]
        · rw [if_neg e, hg.out c hc]
          by_cases e2 : c < j
          · rw [if_pos e2, if_pos (by omega)]
          · rw [if_neg e2, if_neg (by omega)])
       clear hD hX hX1 mb
       go_upto_region 9 with (fail)
       clear cc zz hx
       have lt_B0 := B0.lt
       have lt_B1 := B1.lt
       have lt_B2 := B2.lt
       have lt_B3 := B3.lt
       have qB0 : Row (wr.setCell ⟨N1, j, none⟩ (.int .u8 ((X : Int) + (C : Int) * (D : Int)))) (w.heap.size) 129 (mxC (p : Int) n S).toArray := (B0.setOther (by show (w.heap.size) ≠ (N1); omega))
       have qB1 : Blk (wr.setCell ⟨N1, j, none⟩ (.int .u8 ((X : Int) + (C : Int) * (D : Int)))) (w.heap.size + 1) 6 64 (x) := (B1.setOther (by show (w.heap.size + 1) ≠ (N1); omega))
       have qB2 : Blk (wr.setCell ⟨N1, j, none⟩ (.int .u8 ((X : Int) + (C : Int) * (D : Int)))) (w.heap.size + 1 + 1) 6 64 (fun _ => 0) := (B2.setOther (by show (w.heap.size + 1 + 1) ≠ (N1); omega))
       have qB3 : Blk (wr.setCell ⟨N1, j, none⟩ (.int .u8 ((X : Int) + (C : Int) * (D : Int)))) (N1) 6 64 (upd g j (X + C * D)) := ((B3.set (v := X + C * D) (by push_cast; rfl)).congr (fun k _ => rfl))
       have qhb : Below w.heap.size w (wr.setCell ⟨N1, j, none⟩ (.int .u8 ((X : Int) + (C : Int) * (D : Int)))) := (hb.setCell (by show w.heap.size ≤ (N1); omega) _)
       obtain ⟨W3, hwo⟩ : ∃ v : World, v = (wr.setCell ⟨N1, j, none⟩ (.int .u8 ((X : Int) + (C : Int) * (D : Int)))) := ⟨_, rfl⟩
       rw [← hwo] at qB0 qB1 qB2 qB3 qhb ⊢
       clear hwo
       clear B0 B1 B2 B3 hb
       have B0 := qB0
       have B1 := qB1
       have B2 := qB2
       have B3 := qB3
       have hb := qhb
       clear qB0 qB1 qB2 qB3 qhb
       try simp only [Act.put, pA, pB, pC]
       go_wp2_with fail
       go_roundw
       case rel => exact ⟨j + 1, _, by go_num, by omega, HN, hb, B0, B1, B2, B3⟩
       case measure => simp [intOf] <;> omega
     · have hjI : ¬ (j : Int) < 6 := by omega
       go_wp2_with fail
       go_roundw
       case rel => exact ⟨i + 1, g, by go_num, by omega, Lib.hid (fun c hc => by rw [hg.out c hc, if_pos (by omega)]), hb, B0, B1, B2, B3⟩
       case measure => simp [intOf] <;> omega
  · have hiI : ¬ (i : Int) < 6 := by omega
    obtain rfl : i = 6 := by omega
    go_wp2_with fail
    go_loopw [34] (fun c wr => ∃ (j : Nat) (g : Nat → Nat), c = .int .i64 (j : Int) ∧ j ≤ 6 ∧ Hid (∀ c, c < 6 → g c = if c < j then ldN p S x c else ldS S x 6 c) ∧ Below w.heap.size w wr ∧ Row wr (w.heap.size) 129 (mxC (p : Int) n S).toArray ∧ Blk wr (w.heap.size + 1) 6 64 x ∧ Blk wr (w.heap.size + 1 + 1) 6 64 (fun _ => 0) ∧ Blk wr (N1) 6 64 g) (fun c _ => 6 - (intOf c).toNat)
    case atStart => exact ⟨0, _, rfl, by omega, Lib.hid (fun c hc => by rw [if_neg (Nat.not_lt_zero c)]; exact hf.out c hc), hb, B0, B1, B2, B3⟩
    case round =>
     clear hb B0 B1 B2 B3 hf
     obtain ⟨j, g, rfl, hj6, hg, hb, B0, B1, B2, B3⟩ := hrel
     by_cases hj : j < 6
     · have hjI : (j : Int) < 6 := by omega
       obtain ⟨X, hX⟩ : ∃ X, X = g j := ⟨_, rfl⟩
       have hX1 : X = ldS S x 6 j := by rw [hX, hg.out j hj, if_neg (by omega)]
       have hXl : X ≤ 216 := by rw [hX1]; have := HLE.out j hj 6 (by omega); omega
       obtain ⟨Z, hZ⟩ : ∃ Z, Z = X % p := ⟨_, rfl⟩
       have hZp : Z < p := by rw [hZ]; exact Nat.mod_lt _ (by omega)
       have tq : (X : Int).tmod (p : Int) = (Z : Int) := by rw [Int.tmod_eq_emod_of_nonneg (by omega), hZ]; rfl
       have tq2 : (X : Int) % (p : Int) = (Z : Int) := by rw [hZ]; rfl
       have hpz : ¬ (p : Int) = 0 := by omega
       have HX := Lib.hid hX
       have HN := Lib.hid (show ∀ c, c < 6 → upd g j Z c = if c < j + 1 then ldN p S x c else ldS S x 6 c from fun c hc => by
        unfold upd
        by_cases e : c = j
        · subst e; rw [if_pos rfl, if_pos (by omega), HNN.out, hZ, hX1]
        · rw [if_neg e, hg.out c hc]
          by_cases e2 : c < j
          · rw [if_pos e2, if_pos (by omega)]
          · rw [if_neg e2, if_neg (by omega)])
       clear hZ hX hX1
       go_upto_region 14 with (fail)
       have lt_B0 : (w.heap.size) < wr.heap.size := B0.lt
       have lt_B1 : (w.heap.size + 1) < wr.heap.size := B1.lt
       have lt_B2 : (w.heap.size + 1 + 1) < wr.heap.size := B2.lt
       have lt_B3 : (N1) < wr.heap.size := B3.lt
       have hbase : w.heap.size ≤ wr.heap.size := hb.size
       refine zq Try.mixed (by kernel_rfl) (by kernel_rfl) (fun v => by (simp only [frL, Act.put, pA, pB, pC, Nat.reduceAdd, Nat.zero_add]; exact rfl))
        (fun L v W3 => Below w.heap.size w W3 ∧ wr.heap.size ≤ W3.heap.size ∧ Row W3 (w.heap.size) 129 (mxC (p : Int) n S).toArray ∧ Blk W3 (w.heap.size + 1) 6 64 (x) ∧ Blk W3 (w.heap.size + 1 + 1) 6 64 (fun _ => 0) ∧ (∃ g, Blk W3 (N1) 6 64 (g)) ∧ (L 8 = false → Blk W3 (N1) 6 64 (g)) ∧ (L 8 = true → Blk W3 (N1) 6 64 (upd g j Z)) ∧ VF L v [some (.int .i64 (j : Int)), some (.pointer (some ⟨N1, j, none⟩)), some (.int .u8 (X : Int)), some (.pointer (some ⟨w.heap.size, 0, none⟩)), some (.int .i64 (p : Int)), some (.int .u8 (p : Int)), some (.int .u8 (Z : Int)), some (.pointer (some ⟨N1, j, none⟩)), none]) ?_ ?_ ?_
       · intro v hv0
         exact ⟨hb.drew, Nat.le_refl _, B0.drew, B1.drew, B2.drew, ⟨_, B3.drew⟩, (fun _ => B3.drew), (fun h => by cases h), VF.start⟩
       · refine (.cons rfl ?_ (.cons rfl ?_ (.cons rfl ?_ (.cons rfl ?_ (.cons rfl ?_ (.cons rfl ?_ (.cons rfl ?_ (.cons rfl ?_ (.cons rfl ?_ (.nil _))))))))))
         all_goals intro L v W3 hd hn ⟨hB, hz, s0, s1, s2, x3, q3, n3, V⟩ K hK
         · go_wp2_with fail
           exact hK _ (.int .i64 (j : Int)) _ (by simp only [Act.put, pA, pB, pC ]) ⟨hB, hz, s0, s1, s2, x3, q3, n3, V.step 0 rfl⟩
         · have e0 := V.at (zdq hd 0 rfl) rfl
           go_wp2_with fail
           exact hK _ (.pointer (some ⟨N1, j, none⟩)) _ (by simp only [Act.put, pA, pB, pC, e0]) ⟨hB, hz, s0, s1, s2, x3, q3, n3, V.step 1 rfl⟩
         · have e1 := V.at (zdq hd 1 rfl) rfl
           have s3 := q3 (by
            cases hL : L 8 with
            | false => rfl
            | true => exact absurd rfl (hn 8 _ rfl hL ⟨2, .phase⟩ (by simp) rfl))
           have cc := s3.cell (i := j) hj
           rw [← HX.out] at cc
           go_wp2_with fail
           exact hK _ (.int .u8 (X : Int)) _ (by simp only [Act.put, pA, pB, pC, e1]) ⟨hB, hz, s0, s1, s2, x3, q3, n3, V.step 2 rfl⟩
         · go_wp2_with fail
           exact hK _ (.pointer (some ⟨w.heap.size, 0, none⟩)) _ (by simp only [Act.put, pA, pB, pC ]) ⟨hB, hz, s0, s1, s2, x3, q3, n3, V.step 3 rfl⟩
         · have e3 := V.at (zdq hd 3 rfl) rfl
           refine wp_load_rowc 2 _ rfl _ 0 e3 129 _ s0 (.int .i64 (p : Int)) (mxC_at _ _ _) _ Try.underlying2 rfl ?_
           exact hK _ _ _ rfl ⟨hB, hz, s0, s1, s2, x3, q3, n3, V.step 4 rfl⟩
         · have e4 := V.at (zdq hd 4 rfl) rfl
           go_wp2_with fail
           exact hK _ (.int .u8 (p : Int)) _ (by simp only [Act.put, pA, pB, pC, e4]) ⟨hB, hz, s0, s1, s2, x3, q3, n3, V.step 5 rfl⟩
         · have e2 := V.at (zdq hd 2 rfl) rfl
           have e5 := V.at (zdq hd 5 rfl) rfl
           go_wp2_with fail
           exact hK _ (.int .u8 (Z : Int)) _ (by simp only [Act.put, pA, pB, pC, e2, e5]) ⟨hB, hz, s0, s1, s2, x3, q3, n3, V.step 6 rfl⟩
         · have e0 := V.at (zdq hd 0 rfl) rfl
           go_wp2_with fail
           exact hK _ (.pointer (some ⟨N1, j, none⟩)) _ (by simp only [Act.put, pA, pB, pC, e0]) ⟨hB, hz, s0, s1, s2, x3, q3, n3, V.step 7 rfl⟩
         · have e7 := V.at (zdq hd 7 rfl) rfl
           have e6 := V.at (zdq hd 6 rfl) rfl
           obtain ⟨gz, hk⟩ := x3
           have zz := hk.frozen (j)
           have cc := hk.cell (i := j) (by omega)
           go_wp2_with fail
           exact hK _ undef _ (by simp only [Act.put, pA, pB, pC, e7, e6]) ⟨hB.setCell (by simp <;> omega) _, (by simpa using hz), (s0).setOther (by simp <;> omega), (s1).setOther (by simp <;> omega), (s2).setOther (by simp <;> omega), ⟨_, hk.set (v := Z) rfl⟩, (fun h => absurd h (by simp [setL])), (fun _ => by cases hL : L 8 with | false => exact ((q3 hL).set (v := Z) rfl) | true => exact (((n3 hL).set (v := Z) rfl).congr (fun k _ => by unfold upd; split <;> rfl))), V.skip 8 rfl⟩
       · intro L v W3 hL ⟨hB, hz, s0, s1, s2, x3, q3, n3, V⟩
         have r3 := n3 (hL 8 (by decide))
         have e0 := V.at (hL 0 (by decide)) rfl
         have e1 := V.at (hL 1 (by decide)) rfl
         have e2 := V.at (hL 2 (by decide)) rfl
         have e3 := V.at (hL 3 (by decide)) rfl
         have e4 := V.at (hL 4 (by decide)) rfl
         have e5 := V.at (hL 5 (by decide)) rfl
         have e6 := V.at (hL 6 (by decide)) rfl
         have e7 := V.at (hL 7 (by decide)) rfl
         clear hL x3 q3 n3 V
         simp only [Exit.then, e0, e1, e2, e3, e4, e5, e6, e7]
         clear e0 e1 e2 e3 e4 e5 e6 e7
         replace B0 := s0
         clear s0
         replace B1 := s1
         clear s1
         replace B2 := s2
         clear s2
         replace B3 := r3
         clear r3
         replace hb := hB
         clear hB
         clear hbase hz lt_B0 lt_B1 lt_B2 lt_B3
         go_wp2_with fail
         go_roundw
         case rel => exact ⟨j + 1, _, by go_num, by omega, HN, hb, B0, B1, B2, B3⟩
         case measure => simp [intOf] <;> omega
     · have hjI : ¬ (j : Int) < 6 := by omega
       obtain rfl : j = 6 := by omega
       have HE := Lib.hid (HV.out g hg.out)
       go_upto_region 16 with (fail)
       have lt_B0 := B0.lt
       have lt_B1 := B1.lt
       have lt_B2 := B2.lt
       have lt_B3 := B3.lt
       go_wp2_with (first | rw [← z64] | rw [← zero6] | (refine zla (.tmp 5) B3 Try.underlying64 Try.size64 ?_) | (refine zsr (.tmp 4) (.tmp 46) (g) B2 Try.size64 ?_; try simp only [Act.put]))
       obtain ⟨W3, hwo, hzQ⟩ : ∃ v : World, v = (wr.setRow (w.heap.size + 1 + 1) (zb 6 (g))) ∧ Row v (w.heap.size) 129 (mxC (p : Int) n S).toArray ∧ Blk v (w.heap.size + 1) 6 64 (x) ∧ Blk v (w.heap.size + 1 + 1) 6 64 (g) ∧ Blk v (N1) 6 64 (g) ∧ Below w.heap.size w v := ⟨_, rfl, (B0.rowOther (by omega)), (B1.rowOther (by omega)), (B2.row (g)), (B3.rowOther (by omega)), (zr hb (by omega) _)⟩
       rw [← hwo]
       clear hwo B0 B1 B2 B3 hb
       obtain ⟨B0, B1, B2, B3, hb⟩ := hzQ
       try simp only [Act.put, pA, pB, pC]
       refine bodyPost_ret (results_any rfl _ _ _ 6 _ _ rfl B2 _ Try.underlying64 rfl Try.size64) rfl ⟨by rw [HE.out], hb⟩
set_option maxRecDepth 100000 in
set_option maxHeartbeats 1600000 in
theorem mturn_any (p : Nat) (n : Int) (S : Nat → Nat → Nat) (x : Nat → Nat) (w : World) (p2 : 2 ≤ p) (p7 : p ≤ 7) (lS : ∀ i, i < 6 → ∀ j, j < 6 → S i j < p) (lx : ∀ i, i < 6 → x i < p) :
 Calls Try.prog 171 #[.agg (mxC (p : Int) n S).toArray, .agg (zb 64 x)] w fun e w' => e = .returned (.agg (zb 64 (rp (ldN p S x)))) ∧ Below w.heap.size w w' := by
 have HLD := Lib.hid (fun W => led_any p n S x W p2 p7 lS lx)
 have HRP := Lib.hid (fun W => rowOfPoly_any x W)
 have HPR := Lib.hid (fun W => polyOfRow_any (ldN p S x) W)
 clear lS lx
 go_enter Try.func171, Try.ntmps171
 go_upto_region 1 with (fail)
 rw [← z64]
 obtain ⟨W1, hwo⟩ : ∃ v : World, v = (((w.alloc (.cells (mxC (p : Int) n S).toArray 129)).alloc (.cells (zb 64 (x)) 23)).alloc (.cells (zb 64 (fun _ => 0)) 23)) := ⟨_, rfl⟩
 have B0 : Row W1 (w.heap.size) 129 (mxC (p : Int) n S).toArray := by subst hwo; have := (((Row.new w 129 (mxC (p : Int) n S).toArray).alloc (.cells (zb 64 (x)) 23)).alloc (.cells (zb 64 (fun _ => 0)) 23)); simpa using this
 have B1 : Blk W1 (w.heap.size + 1) 64 23 (x) := by subst hwo; have := ((Blk.new (w.alloc (.cells (mxC (p : Int) n S).toArray 129)) 64 23 (x)).alloc (.cells (zb 64 (fun _ => 0)) 23)); simpa using this
 have B2 : Blk W1 (w.heap.size + 1 + 1) 64 23 (fun _ => 0) := by subst hwo; have := (Blk.new ((w.alloc (.cells (mxC (p : Int) n S).toArray 129)).alloc (.cells (zb 64 (x)) 23)) 64 23 (fun _ => 0)); simpa using this
 have hb : Below w.heap.size w W1 := by subst hwo; exact ((((Below.refl _ _).alloc (Nat.le_refl _) _).alloc (by simp) _).alloc (by simp; omega) _)
 rw [← hwo]
 clear hwo
 have lt_B0 : (w.heap.size) < W1.heap.size := B0.lt
 have lt_B1 : (w.heap.size + 1) < W1.heap.size := B1.lt
 have lt_B2 : (w.heap.size + 1 + 1) < W1.heap.size := B2.lt
 have hbase : w.heap.size ≤ W1.heap.size := hb.size
 refine zq Try.mixed (by kernel_rfl) (by kernel_rfl) (fun v => by (simp only [frL, Act.put, pA, pB, pC, Nat.reduceAdd, Nat.zero_add]; exact rfl))
  (fun L v W2 => Below w.heap.size w W2 ∧ Kx [w.heap.size + 1 + 1] W1 W2 ∧ (∃ g, Blk W2 (w.heap.size + 1 + 1) 64 23 (g)) ∧ (L 5 = false → Blk W2 (w.heap.size + 1 + 1) 64 23 (fun _ => 0)) ∧ (L 5 = true → Blk W2 (w.heap.size + 1 + 1) 64 23 (rp (ldN p S x))) ∧ VF L v [some (.agg (mxC (p : Int) n S).toArray), some (.agg (zb 64 (x))), some (.agg (zb 6 (x))), some (.agg (zb 6 (ldN p S x))), some (.agg (zb 64 (rp (ldN p S x)))), none]) ?_ ?_ ?_
 · intro v hv0
   exact ⟨hb.drew, Kx.start _ _, ⟨_, B2.drew⟩, (fun _ => B2.drew), (fun h => by cases h), VF.start⟩
 · refine (.cons rfl ?_ (.cons rfl ?_ (.cons rfl ?_ (.cons rfl ?_ (.cons rfl ?_ (.cons rfl ?_ (.nil _)))))))
   all_goals intro L v W2 hd hn ⟨hB, hX, x2, q2, n2, V⟩ K hK
   · refine wp_load_rowv 129 _ rfl _ rfl 129 _ (B0.kx hX (by simp <;> omega)) _ Try.underlying129 rfl 38 Try.size129 (by simp [mxC_len]) ?_
     exact hK _ _ _ rfl ⟨hB, hX, x2, q2, n2, V.step 0 rfl⟩
   · refine wp_load_any 23 _ rfl _ rfl 64 23 _ (B1.kx hX (by simp <;> omega)) _ Try.underlying23 rfl Try.size23 ?_
     exact hK _ _ _ rfl ⟨hB, hX, x2, q2, n2, V.step 1 rfl⟩
   · have e1 := V.at (zdq hd 1 rfl) rfl
     go_wp2_with (go_at_call 126; refine (HRP.out _).mono ?_; rintro e wy ⟨rfl, hy⟩)
     exact hK _ (.agg (zb 6 (x))) _ (by simp only [Act.put, pA, pB, pC, e1]) ⟨hB.trans (hy.mono hB.size), hX.below hy, (let ⟨g, h⟩ := x2; ⟨g, h.zw hy⟩), (fun h => (q2 h).below hy (q2 h).lt), (fun h => (n2 h).below hy (n2 h).lt), V.step 2 rfl⟩
   · have e0 := V.at (zdq hd 0 rfl) rfl
     have e2 := V.at (zdq hd 2 rfl) rfl
     go_wp2_with (go_at_call 215; refine (HLD.out _).mono ?_; rintro e wy ⟨rfl, hy⟩)
     exact hK _ (.agg (zb 6 (ldN p S x))) _ (by simp only [Act.put, pA, pB, pC, e0, e2]) ⟨hB.trans (hy.mono hB.size), hX.below hy, (let ⟨g, h⟩ := x2; ⟨g, h.zw hy⟩), (fun h => (q2 h).below hy (q2 h).lt), (fun h => (n2 h).below hy (n2 h).lt), V.step 3 rfl⟩
   · have e3 := V.at (zdq hd 3 rfl) rfl
     go_wp2_with (go_at_call 129; refine (HPR.out _).mono ?_; rintro e wy ⟨rfl, hy⟩)
     exact hK _ (.agg (zb 64 (rp (ldN p S x)))) _ (by simp only [Act.put, pA, pB, pC, e3]) ⟨hB.trans (hy.mono hB.size), hX.below hy, (let ⟨g, h⟩ := x2; ⟨g, h.zw hy⟩), (fun h => (q2 h).below hy (q2 h).lt), (fun h => (n2 h).below hy (n2 h).lt), V.step 4 rfl⟩
   · have e4 := V.at (zdq hd 4 rfl) rfl
     obtain ⟨gz, hk⟩ := x2
     refine zsb 23 _ _ rfl _ 64 (rp (ldN p S x)) rfl e4 23 gz hk Try.size23 ?_
     exact hK _ undef _ rfl ⟨zr hB (by omega) _, hX.row (by simp) _, ⟨_, hk.row _⟩, (fun h => absurd h (by simp [setL])), (fun _ => hk.row _), V.skip 5 rfl⟩
 · intro L v W2 hL ⟨hB, hX, x2, q2, n2, V⟩
   have r2 := n2 (hL 5 (by decide))
   have e0 := V.at (hL 0 (by decide)) rfl
   have e1 := V.at (hL 1 (by decide)) rfl
   have e2 := V.at (hL 2 (by decide)) rfl
   have e3 := V.at (hL 3 (by decide)) rfl
   have e4 := V.at (hL 4 (by decide)) rfl
   clear hL x2 q2 n2 V
   replace B0 := B0.kx hX (by simp <;> omega)
   replace B1 := B1.kx hX (by simp <;> omega)
   clear hX
   simp only [Exit.then, e0, e1, e2, e3, e4]
   clear e0 e1 e2 e3 e4
   replace B2 := r2
   clear r2
   replace hb := hB
   clear hB
   clear hbase lt_B0 lt_B1 lt_B2
   go_wp2_with fail
   refine bodyPost_ret (results_any rfl _ _ _ 64 _ _ rfl B2 _ Try.underlying23 rfl Try.size23) rfl ⟨rfl, hb⟩
set_option maxRecDepth 100000 in
set_option maxHeartbeats 1600000 in
theorem mmodule_any (p : Nat) (n : Int) (S : Nat → Nat → Nat) (w : World) :
 Calls Try.prog 127 #[.agg (mxC (p : Int) n S).toArray] w fun e w' => e = .returned (.agg (moC (p : Int) n (.func (.func 171) #[.agg (mxC (p : Int) n S).toArray] #[])).toArray) ∧ Below w.heap.size w w' := by
 have hmf : ∀ (fn : Fn) (first cap : Array Value) (w : World), (Instr.makeFunc fn first cap).run Try.prog w = .ok (.func fn first cap) w := fun _ _ _ _ => rfl
 go_enter Try.func127, Try.ntmps127
 go_upto_region 1 with (fail)
 obtain ⟨W1, hwo⟩ : ∃ v : World, v = ((w.alloc (.cells (mxC (p : Int) n S).toArray 129)).alloc (.cells ([.int .i64 0, .int .i64 0, .nilFunc]).toArray 133)) := ⟨_, rfl⟩
 have B0 : Row W1 (w.heap.size) 129 (mxC (p : Int) n S).toArray := by subst hwo; have := ((Row.new w 129 (mxC (p : Int) n S).toArray).alloc (.cells ([.int .i64 0, .int .i64 0, .nilFunc]).toArray 133)); simpa using this
 have B1 : Row W1 (w.heap.size + 1) 133 ([.int .i64 0, .int .i64 0, .nilFunc]).toArray := by subst hwo; have := (Row.new (w.alloc (.cells (mxC (p : Int) n S).toArray 129)) 133 ([.int .i64 0, .int .i64 0, .nilFunc]).toArray); simpa using this
 have hb : Below w.heap.size w W1 := by subst hwo; exact (((Below.refl _ _).alloc (Nat.le_refl _) _).alloc (by simp) _)
 rw [← hwo]
 clear hwo
 have lt_B0 := B0.lt
 have lt_B1 := B1.lt
 go_wp2_with (first | rw [← z64] | (refine wpList_load_rowc rfl 2 (.tmp 3) rfl _ 0 rfl 129 _ (B0) (.int .i64 (p : Int)) (mxC_at _ _ _) _ Try.underlying2 rfl ?_) | (refine wpList_load_rowc rfl 3 (.tmp 5) rfl _ 1 rfl 129 _ (B0) (.int .i64 n) (mxC_at1 _ _ _) _ Try.underlying3 rfl ?_) | (refine zlr rfl 129 (.tmp 1) rfl _ rfl 129 (mxC (p : Int) n S).toArray (B0) _ Try.underlying129 rfl 38 Try.size129 (by simp [mxC_len]) ?_) | (refine zbo rfl 133 _ rfl (moC (p : Int) n (.func (.func 171) #[.agg (mxC (p : Int) n S).toArray] #[])).toArray (by rw [Array.toList_map]; exact built_mo _ _ _ _ _) ?_) | (refine wpList_store_rowv rfl 133 (.tmp 2) (.tmp 9) rfl _ rfl (moC (p : Int) n (.func (.func 171) #[.agg (mxC (p : Int) n S).toArray] #[])).toArray rfl 133 _ (B1) 3 Try.size133 (by simp [moC_len]) (by simp [moC_len]) (moC_all _ _ _ rfl) ?_; try simp only [Act.put]))
 obtain ⟨W2, hwo, hzQ⟩ : ∃ v : World, v = (W1.setRow (w.heap.size + 1) (moC (p : Int) n (.func (.func 171) #[.agg (mxC (p : Int) n S).toArray] #[])).toArray) ∧ Row v (w.heap.size) 129 (mxC (p : Int) n S).toArray ∧ Row v (w.heap.size + 1) 133 (moC (p : Int) n (.func (.func 171) #[.agg (mxC (p : Int) n S).toArray] #[])).toArray ∧ Below w.heap.size w v := ⟨_, rfl, (B0.rowOther (by omega)), (B1.row (moC (p : Int) n (.func (.func 171) #[.agg (mxC (p : Int) n S).toArray] #[])).toArray), (zr hb (by omega) _)⟩
 rw [← hwo]
 clear hwo B0 B1 hb
 obtain ⟨B0, B1, hb⟩ := hzQ
 try simp only [Act.put, pA, pB, pC]
 refine bodyPost_ret (results_row rfl _ _ _ _ _ rfl B1 _ Try.underlying133 rfl (by rw [Try.size133]; rfl)) rfl ⟨rfl, hb⟩
set_option maxRecDepth 100000 in
set_option maxHeartbeats 1600000 in
theorem sact_any (p : Nat) (n : Int) (S : Nat → Nat → Nat) (a y : Nat → Nat) (w : World) (p2 : 2 ≤ p) (p7 : p ≤ 7) (lS : ∀ i, i < 6 → ∀ j, j < 6 → S i j < p) (la : ∀ k, k < 64 → a k < p) (ly : ∀ k, k < 6 → y k < p) :
 Calls Try.prog 128 #[.agg (moC (p : Int) n (.func (.func 171) #[.agg (mxC (p : Int) n S).toArray] #[])).toArray, .agg (zb 64 a), .agg (zb 64 (rp y))] w fun e w' => e = .returned (.agg (zb 64 (rp (apN p (deg a + 1).toNat S a y (deg a + 1).toNat)))) ∧ Below w.heap.size w w' := by
 have p0 : 0 < p := by omega
 obtain ⟨gb1, gb2⟩ := zdb a
 obtain ⟨NN, hNN⟩ : ∃ NN : Nat, deg a = (NN : Int) - 1 := ⟨(deg a + 1).toNat, by omega⟩
 have HD := Lib.hid hNN
 have hN6 : NN ≤ 64 := by omega
 have HT := Lib.hid (show (deg a + 1).toNat = NN by omega)
 have HTU := Lib.hid (fun j W => mturn_any p n S (rp (apN p NN S a y j)) W p2 p7 lS (fun i _ => rp_lt p0 (fun k _ => apN_lt p0 S a y j k) i))
 have HSC := Lib.hid (fun c (hc : c < p) W => scaled_any p (rp y) c W p2 p7 (fun i _ => rp_lt p0 ly i) hc)
 have HSU := Lib.hid (fun q j (hq : NN - 1 - j = q) W => show Calls Try.prog 138 #[.int .i64 (p : Int), .agg (zb 64 (rp (ldN p S (rp (apN p NN S a y j))))), .agg (zb 64 (sclP p (rp y) (a q)))] W fun e w' => e = .returned (.agg (zb 64 (rp (apN p NN S a y (j + 1))))) ∧ Below W.heap.size W w' from by
  have h := sum_any p (rp (ldN p S (rp (apN p NN S a y j)))) (sclP p (rp y) (a q)) W p2 p7 (fun i _ => rp_lt p0 (fun k _ => ldN_lt p0 _ _ k) i) (fun k _ => by unfold sclP; exact Nat.mod_lt _ p0)
  have e := zbc (n := 64) (f := fun i => (rp (ldN p S (rp (apN p NN S a y j))) i + sclP p (rp y) (a q) i) % p) (g := rp (apN p NN S a y (j + 1))) (fun k _ => by rw [← hq]; exact ap_round p0 S a y j k)
  rw [e] at h
  exact h)
 have HZ := Lib.hid (show rp (apN p NN S a y 0) = fun _ => 0 by funext k; rw [apN_z]; unfold rp; split <;> rfl)
 have HLA := Lib.hid la
 clear hNN lS la ly
 go_enter Try.func128, Try.ntmps128
 go_upto_region 1 with (fail)
 rw [← z64]
 obtain ⟨W1, hwo⟩ : ∃ v : World, v = ((((w.alloc (.cells (moC (p : Int) n (.func (.func 171) #[.agg (mxC (p : Int) n S).toArray] #[])).toArray 133)).alloc (.cells (zb 64 (a)) 23)).alloc (.cells (zb 64 (rp y)) 23)).alloc (.cells (zb 64 (fun _ => 0)) 23)) := ⟨_, rfl⟩
 have B0 : Row W1 (w.heap.size) 133 (moC (p : Int) n (.func (.func 171) #[.agg (mxC (p : Int) n S).toArray] #[])).toArray := by subst hwo; have := ((((Row.new w 133 (moC (p : Int) n (.func (.func 171) #[.agg (mxC (p : Int) n S).toArray] #[])).toArray).alloc (.cells (zb 64 (a)) 23)).alloc (.cells (zb 64 (rp y)) 23)).alloc (.cells (zb 64 (fun _ => 0)) 23)); simpa using this
 have B1 : Blk W1 (w.heap.size + 1) 64 23 (a) := by subst hwo; have := (((Blk.new (w.alloc (.cells (moC (p : Int) n (.func (.func 171) #[.agg (mxC (p : Int) n S).toArray] #[])).toArray 133)) 64 23 (a)).alloc (.cells (zb 64 (rp y)) 23)).alloc (.cells (zb 64 (fun _ => 0)) 23)); simpa using this
 have B2 : Blk W1 (w.heap.size + 1 + 1) 64 23 (rp y) := by subst hwo; have := ((Blk.new ((w.alloc (.cells (moC (p : Int) n (.func (.func 171) #[.agg (mxC (p : Int) n S).toArray] #[])).toArray 133)).alloc (.cells (zb 64 (a)) 23)) 64 23 (rp y)).alloc (.cells (zb 64 (fun _ => 0)) 23)); simpa using this
 have B3 : Blk W1 (w.heap.size + 1 + 1 + 1) 64 23 (fun _ => 0) := by subst hwo; have := (Blk.new (((w.alloc (.cells (moC (p : Int) n (.func (.func 171) #[.agg (mxC (p : Int) n S).toArray] #[])).toArray 133)).alloc (.cells (zb 64 (a)) 23)).alloc (.cells (zb 64 (rp y)) 23)) 64 23 (fun _ => 0)); simpa using this
 have hb : Below w.heap.size w W1 := by subst hwo; exact (((((Below.refl _ _).alloc (Nat.le_refl _) _).alloc (by simp) _).alloc (by simp; omega) _).alloc (by simp; omega) _)
 rw [← hwo]
 clear hwo
 go_upto_region 2 with (first | rw [← z64])
 have lt_B0 := B0.lt
 have lt_B1 := B1.lt
 have lt_B2 := B2.lt
 have lt_B3 := B3.lt
 have lhb := hb.size
 obtain ⟨W2, hwo, hzQ⟩ : ∃ v : World, v = (W1.alloc (.cells (zb 64 (fun _ => 0)) 23)) ∧ Row v (w.heap.size) 133 (moC (p : Int) n (.func (.func 171) #[.agg (mxC (p : Int) n S).toArray] #[])).toArray ∧ Blk v (w.heap.size + 1) 64 23 (a) ∧ Blk v (w.heap.size + 1 + 1) 64 23 (rp y) ∧ Blk v (w.heap.size + 1 + 1 + 1) 64 23 (fun _ => 0) ∧ Blk v (W1.heap.size) 64 23 (fun _ => 0) ∧ Below w.heap.size w v := ⟨_, rfl, (B0.alloc (.cells (zb 64 (fun _ => 0)) 23)), (B1.alloc (.cells (zb 64 (fun _ => 0)) 23)), (B2.alloc (.cells (zb 64 (fun _ => 0)) 23)), (B3.alloc (.cells (zb 64 (fun _ => 0)) 23)), (Blk.new W1 64 23 (fun _ => 0)), (hb.alloc (by have := hb.size; simp; omega) (.cells (zb 64 (fun _ => 0)) 23))⟩
 rw [← hwo]
 clear hwo B0 B1 B2 B3 hb
 obtain ⟨B0, B1, B2, B3, B4, hb⟩ := hzQ
 obtain ⟨N1, hNN⟩ : ∃ n : Nat, n = W1.heap.size := ⟨_, rfl⟩
 rw [← hNN] at lt_B0 lt_B1 lt_B2 lt_B3 lhb B4 ⊢
 clear hNN
 have zN1_0 := lt_B0
 have zN1_1 := lt_B1
 have zN1_2 := lt_B2
 have zN1_3 := lt_B3
 have zN1 := lhb
 clear lt_B0 lt_B1 lt_B2 lt_B3 lhb
 try simp only [Act.put, pA, pB, pC]
 go_upto_region 99 with (first | (refine zla (.tmp 4) B1 Try.underlying23 Try.size23 ?_) | (go_at_call 82; refine (degree_any a _).mono ?_; rintro e W3 ⟨rfl, hW3⟩; replace B0 := B0.zw hW3; replace B1 := B1.zw hW3; replace B2 := B2.zw hW3; replace B3 := B3.zw hW3; replace B4 := B4.zw hW3; replace hb := (hb).trans (hW3.mono (hb).size); rw [HD.out]))
 go_loopw [8] (fun i wr => ∃ q j : Nat, Hid (q + j = NN) ∧ i = .int .i64 ((q : Int) - 1) ∧ Below w.heap.size w wr ∧ Row wr (w.heap.size) 133 (moC (p : Int) n (.func (.func 171) #[.agg (mxC (p : Int) n S).toArray] #[])).toArray ∧ Blk wr (w.heap.size + 1) 64 23 a ∧ Blk wr (w.heap.size + 1 + 1) 64 23 (rp y) ∧ Blk wr (w.heap.size + 1 + 1 + 1) 64 23 (fun _ => 0) ∧ Blk wr (N1) 64 23 (rp (apN p NN S a y j))) (fun i _ => (intOf i + 1).toNat)
 case atStart => exact ⟨NN, 0, Lib.hid (by omega), rfl, hb, B0, B1, B2, B3, by rw [HZ.out]; exact B4⟩
 case round =>
  clear hb B0 B1 B2 B3 B4
  obtain ⟨q, j, hqj, rfl, hb, B0, B1, B2, B3, B4⟩ := hrel
  by_cases hq0 : q = 0
  · subst hq0
    have ej : j = NN := by have := hqj.out; omega
    rw [ej] at B4
    clear hqj ej
    go_upto_region 6 with (fail)
    have lt_B0 := B0.lt
    have lt_B1 := B1.lt
    have lt_B2 := B2.lt
    have lt_B3 := B3.lt
    have lt_B4 := B4.lt
    go_wp2_with (first | rw [← z64] | (refine zla (.tmp 7) B4 Try.underlying23 Try.size23 ?_) | (refine zsr (.tmp 6) (.tmp 29) (rp (apN p NN S a y NN)) B3 Try.size23 ?_; try simp only [Act.put]))
    obtain ⟨W4, hwo, hzQ⟩ : ∃ v : World, v = (wr.setRow (w.heap.size + 1 + 1 + 1) (zb 64 (rp (apN p NN S a y NN)))) ∧ Row v (w.heap.size) 133 (moC (p : Int) n (.func (.func 171) #[.agg (mxC (p : Int) n S).toArray] #[])).toArray ∧ Blk v (w.heap.size + 1) 64 23 (a) ∧ Blk v (w.heap.size + 1 + 1) 64 23 (rp y) ∧ Blk v (w.heap.size + 1 + 1 + 1) 64 23 (rp (apN p NN S a y NN)) ∧ Blk v (N1) 64 23 (rp (apN p NN S a y NN)) ∧ Below w.heap.size w v := ⟨_, rfl, (B0.rowOther (by omega)), (B1.rowOther (by omega)), (B2.rowOther (by omega)), (B3.row (rp (apN p NN S a y NN))), (B4.rowOther (by omega)), (zr hb (by omega) _)⟩
    rw [← hwo]
    clear hwo B0 B1 B2 B3 B4 hb
    obtain ⟨B0, B1, B2, B3, B4, hb⟩ := hzQ
    try simp only [Act.put, pA, pB, pC]
    refine bodyPost_ret (zrb rfl _ _ _ 64 23 5 _ rfl B3 Try.underlying23 Try.size23) rfl ⟨by rw [HT.out], hb⟩
  · obtain ⟨q, rfl⟩ : ∃ t, q = t + 1 := ⟨q - 1, by omega⟩
    rw [show ((q + 1 : Nat) : Int) - 1 = (q : Int) by omega]
    have hq6 : q < 64 := by have := hqj.out; omega
    have laq := HLA.out q hq6
    have HS1 := Lib.hid (fun W => HTU.out j W)
    have HSC1 := Lib.hid (fun W => HSC.out (a q) laq W)
    have HSU1 := Lib.hid (fun W => HSU.out q j (by have := hqj.out; omega) W)
    obtain ⟨C, hC⟩ : ∃ C, C = a q := ⟨_, rfl⟩
    rw [← hC] at laq HSC1 HSU1
    have HC := Lib.hid hC
    clear hC
    go_upto_region 5 with (fail)
    have lt_B0 : (w.heap.size) < wr.heap.size := B0.lt
    have lt_B1 : (w.heap.size + 1) < wr.heap.size := B1.lt
    have lt_B2 : (w.heap.size + 1 + 1) < wr.heap.size := B2.lt
    have lt_B3 : (w.heap.size + 1 + 1 + 1) < wr.heap.size := B3.lt
    have lt_B4 : (N1) < wr.heap.size := B4.lt
    have hbase : w.heap.size ≤ wr.heap.size := hb.size
    refine zq Try.mixed (by kernel_rfl) (by kernel_rfl) (fun v => by (simp only [frL, Act.put, pA, pB, pC, Nat.reduceAdd, Nat.zero_add]; exact rfl))
     (fun L v W4 => Below w.heap.size w W4 ∧ Kx [N1] wr W4 ∧ (∃ g, Blk W4 (N1) 64 23 (g)) ∧ (L 14 = false → Blk W4 (N1) 64 23 (rp (apN p NN S a y j))) ∧ (L 14 = true → Blk W4 (N1) 64 23 (rp (apN p NN S a y (j + 1)))) ∧ VF L v [some (.pointer (some ⟨w.heap.size, 0, none⟩)), some (.int .i64 (p : Int)), some (.pointer (some ⟨w.heap.size, 2, none⟩)), some (.func (.func 171) #[.agg (mxC (p : Int) n S).toArray] #[]), some (.agg (zb 64 (rp (apN p NN S a y j)))), some (.agg (zb 64 (rp (ldN p S (rp (apN p NN S a y j)))))), some (.pointer (some ⟨w.heap.size, 0, none⟩)), some (.int .i64 (p : Int)), some (.agg (zb 64 (rp y))), some (.int .i64 (q : Int)), some (.pointer (some ⟨w.heap.size + 1, q, none⟩)), some (.int .u8 (C : Int)), some (.agg (zb 64 (sclP p (rp y) C))), some (.agg (zb 64 (rp (apN p NN S a y (j + 1))))), none]) ?_ ?_ ?_
    · intro v hv0
      exact ⟨hb.drew, Kx.start _ _, ⟨_, B4.drew⟩, (fun _ => B4.drew), (fun h => by cases h), VF.start⟩
    · refine (.cons rfl ?_ (.cons rfl ?_ (.cons rfl ?_ (.cons rfl ?_ (.cons rfl ?_ (.cons rfl ?_ (.cons rfl ?_ (.cons rfl ?_ (.cons rfl ?_ (.cons rfl ?_ (.cons rfl ?_ (.cons rfl ?_ (.cons rfl ?_ (.cons rfl ?_ (.cons rfl ?_ (.nil _))))))))))))))))
      all_goals intro L v W4 hd hn ⟨hB, hX, x4, q4, n4, V⟩ K hK
      · go_wp2_with fail
        exact hK _ (.pointer (some ⟨w.heap.size, 0, none⟩)) _ (by simp only [Act.put, pA, pB, pC ]) ⟨hB, hX, x4, q4, n4, V.step 0 rfl⟩
      · have e0 := V.at (zdq hd 0 rfl) rfl
        refine wp_load_rowc 2 _ rfl _ 0 e0 133 _ (B0.kx hX (by simp <;> omega)) (.int .i64 (p : Int)) (moC_at _ _ _) _ Try.underlying2 rfl ?_
        exact hK _ _ _ rfl ⟨hB, hX, x4, q4, n4, V.step 1 rfl⟩
      · go_wp2_with fail
        exact hK _ (.pointer (some ⟨w.heap.size, 2, none⟩)) _ (by simp only [Act.put, pA, pB, pC ]) ⟨hB, hX, x4, q4, n4, V.step 2 rfl⟩
      · have e2 := V.at (zdq hd 2 rfl) rfl
        refine wp_load_rowc 121 _ rfl _ 2 e2 133 _ (B0.kx hX (by simp <;> omega)) (.func (.func 171) #[.agg (mxC (p : Int) n S).toArray] #[]) (moC_at2 _ _ _) _ Try.underlying121 rfl ?_
        exact hK _ _ _ rfl ⟨hB, hX, x4, q4, n4, V.step 3 rfl⟩
      · have s4 := q4 (by
         cases hL : L 14 with
         | false => rfl
         | true => exact absurd rfl (hn 14 _ rfl hL ⟨4, .phase⟩ (by simp) rfl))
        refine zlc s4 Try.underlying23 Try.size23 ?_
        exact hK _ _ _ rfl ⟨hB, hX, x4, q4, n4, V.step 4 rfl⟩
      · have e3 := V.at (zdq hd 3 rfl) rfl
        have e4 := V.at (zdq hd 4 rfl) rfl
        go_wp2_with (go_at_call 171; refine (HS1.out _).mono ?_; rintro e wy ⟨rfl, hy⟩)
        exact hK _ (.agg (zb 64 (rp (ldN p S (rp (apN p NN S a y j)))))) _ (by simp only [Act.put, pA, pB, pC, e3, e4]) ⟨hB.trans (hy.mono hB.size), hX.below hy, (let ⟨g, h⟩ := x4; ⟨g, h.zw hy⟩), (fun h => (q4 h).below hy (q4 h).lt), (fun h => (n4 h).below hy (n4 h).lt), V.step 5 rfl⟩
      · go_wp2_with fail
        exact hK _ (.pointer (some ⟨w.heap.size, 0, none⟩)) _ (by simp only [Act.put, pA, pB, pC ]) ⟨hB, hX, x4, q4, n4, V.step 6 rfl⟩
      · have e6 := V.at (zdq hd 6 rfl) rfl
        refine wp_load_rowc 2 _ rfl _ 0 e6 133 _ (B0.kx hX (by simp <;> omega)) (.int .i64 (p : Int)) (moC_at _ _ _) _ Try.underlying2 rfl ?_
        exact hK _ _ _ rfl ⟨hB, hX, x4, q4, n4, V.step 7 rfl⟩
      · refine wp_load_any 23 _ rfl _ rfl 64 23 _ (B2.kx hX (by simp <;> omega)) _ Try.underlying23 rfl Try.size23 ?_
        exact hK _ _ _ rfl ⟨hB, hX, x4, q4, n4, V.step 8 rfl⟩
      · go_wp2_with fail
        exact hK _ (.int .i64 (q : Int)) _ (by simp only [Act.put, pA, pB, pC ]) ⟨hB, hX, x4, q4, n4, V.step 9 rfl⟩
      · have e9 := V.at (zdq hd 9 rfl) rfl
        go_wp2_with fail
        exact hK _ (.pointer (some ⟨w.heap.size + 1, q, none⟩)) _ (by simp only [Act.put, pA, pB, pC, e9]) ⟨hB, hX, x4, q4, n4, V.step 10 rfl⟩
      · have e10 := V.at (zdq hd 10 rfl) rfl
        have cc := (B1.kx hX (by simp <;> omega)).cell (i := q) hq6
        rw [← HC.out] at cc
        go_wp2_with fail
        exact hK _ (.int .u8 (C : Int)) _ (by simp only [Act.put, pA, pB, pC, e10]) ⟨hB, hX, x4, q4, n4, V.step 11 rfl⟩
      · have e7 := V.at (zdq hd 7 rfl) rfl
        have e8 := V.at (zdq hd 8 rfl) rfl
        have e11 := V.at (zdq hd 11 rfl) rfl
        go_wp2_with (go_at_call 172; refine (HSC1.out _).mono ?_; rintro e wy ⟨rfl, hy⟩)
        exact hK _ (.agg (zb 64 (sclP p (rp y) C))) _ (by simp only [Act.put, pA, pB, pC, e7, e8, e11]) ⟨hB.trans (hy.mono hB.size), hX.below hy, (let ⟨g, h⟩ := x4; ⟨g, h.zw hy⟩), (fun h => (q4 h).below hy (q4 h).lt), (fun h => (n4 h).below hy (n4 h).lt), V.step 12 rfl⟩
      · have e1 := V.at (zdq hd 1 rfl) rfl
        have e5 := V.at (zdq hd 5 rfl) rfl
        have e12 := V.at (zdq hd 12 rfl) rfl
        go_wp2_with (go_at_call 138; refine (HSU1.out _).mono ?_; rintro e wy ⟨rfl, hy⟩)
        exact hK _ (.agg (zb 64 (rp (apN p NN S a y (j + 1))))) _ (by simp only [Act.put, pA, pB, pC, e1, e5, e12]) ⟨hB.trans (hy.mono hB.size), hX.below hy, (let ⟨g, h⟩ := x4; ⟨g, h.zw hy⟩), (fun h => (q4 h).below hy (q4 h).lt), (fun h => (n4 h).below hy (n4 h).lt), V.step 13 rfl⟩
      · have e13 := V.at (zdq hd 13 rfl) rfl
        obtain ⟨gz, hk⟩ := x4
        refine zsb 23 _ _ rfl _ 64 (rp (apN p NN S a y (j + 1))) rfl e13 23 gz hk Try.size23 ?_
        exact hK _ undef _ rfl ⟨zr hB (by omega) _, hX.row (by simp) _, ⟨_, hk.row _⟩, (fun h => absurd h (by simp [setL])), (fun _ => hk.row _), V.skip 14 rfl⟩
    · intro L v W4 hL ⟨hB, hX, x4, q4, n4, V⟩
      have r4 := n4 (hL 14 (by decide))
      have e0 := V.at (hL 0 (by decide)) rfl
      have e1 := V.at (hL 1 (by decide)) rfl
      have e2 := V.at (hL 2 (by decide)) rfl
      have e3 := V.at (hL 3 (by decide)) rfl
      have e4 := V.at (hL 4 (by decide)) rfl
      have e5 := V.at (hL 5 (by decide)) rfl
      have e6 := V.at (hL 6 (by decide)) rfl
      have e7 := V.at (hL 7 (by decide)) rfl
      have e8 := V.at (hL 8 (by decide)) rfl
      have e9 := V.at (hL 9 (by decide)) rfl
      have e10 := V.at (hL 10 (by decide)) rfl
      have e11 := V.at (hL 11 (by decide)) rfl
      have e12 := V.at (hL 12 (by decide)) rfl
      have e13 := V.at (hL 13 (by decide)) rfl
      clear hL x4 q4 n4 V
      replace B0 := B0.kx hX (by simp <;> omega)
      replace B1 := B1.kx hX (by simp <;> omega)
      replace B2 := B2.kx hX (by simp <;> omega)
      replace B3 := B3.kx hX (by simp <;> omega)
      clear hX
      simp only [Exit.then, e0, e1, e2, e3, e4, e5, e6, e7, e8, e9, e10, e11, e12, e13]
      clear e0 e1 e2 e3 e4 e5 e6 e7 e8 e9 e10 e11 e12 e13
      replace B4 := r4
      clear r4
      replace hb := hB
      clear hB
      clear hbase lt_B0 lt_B1 lt_B2 lt_B3 lt_B4
      go_wp2_with fail
      go_roundw
      case rel => exact ⟨q, j + 1, Lib.hid (by have := hqj.out; omega), rfl, hb, B0, B1, B2, B3, B4⟩
      case measure => simp [intOf] <;> omega
theorem sqB_get {p n : Int} {S : Nat → Nat → Nat} (h : sqB p n S = true) : (∀ i, i < 6 → sc p n S i) ∧ okP p = true ∧ 1 ≤ n ∧ n ≤ 6 := by
 unfold sqB at h; simp only [decide_eq_true_eq] at h; exact h
theorem vB_get {p n : Int} {v : Nat → Nat} (h : vB p n v = true) : ∀ i, i < 6 → vc p n v i := by
 unfold vB at h; simp only [decide_eq_true_eq] at h; exact h
theorem sq_lt {p : Nat} {n : Int} {S : Nat → Nat → Nat} (h : sqB (p : Int) n S = true) : ∀ i, i < 6 → ∀ j, j < 6 → S i j < p := fun i hi j hj => by
 have := (vB_get ((sqB_get h).1 i hi).1 j hj).1; omega
theorem sq_col {p : Int} {n : Nat} {S : Nat → Nat → Nat} (h : sqB p (n : Int) S = true) : ∀ i, i < 6 → ∀ j, n ≤ j → j < 6 → S i j = 0 := fun i hi j h1 hj => by
 rcases (vB_get ((sqB_get h).1 i hi).1 j hj).2 with a | a
 · omega
 · exact a
theorem vec_lt {p : Nat} {n : Int} {v : Nat → Nat} (h : vB (p : Int) n v = true) : ∀ i, i < 6 → v i < p := fun i hi => by
 have := (vB_get h i hi).1; omega
theorem vec_up {p : Int} {n : Nat} {v : Nat → Nat} (h : vB p (n : Int) v = true) : ∀ j, n ≤ j → j < 6 → v j = 0 := fun j h1 hj => by
 rcases (vB_get h j hj).2 with a | a
 · omega
 · exact a
/-- both answers: what a polynomial makes of a vector -/
noncomputable def aqV (p n : Int) (S : Nat → Nat → Nat) (a v : Nat → Nat) : (Nat → Nat) × Int :=
 if (sqB p n S && okA p a && vB p n v) = true then (apN p.toNat (deg a + 1).toNat S a v (deg a + 1).toNat, 0) else (fun _ => 0, 1)
theorem aqV_yes {p : Nat} {n : Int} {S : Nat → Nat → Nat} {a v : Nat → Nat} (h : (sqB (p : Int) n S && okA (p : Int) a && vB (p : Int) n v) = true) : aqV (p : Int) n S a v = (apN p (deg a + 1).toNat S a v (deg a + 1).toNat, 0) := by
 unfold aqV; rw [if_pos h, Int.toNat_natCast]
theorem aqV_no {p n : Int} {S : Nat → Nat → Nat} {a v : Nat → Nat} (h : (sqB p n S && okA p a && vB p n v) = false) : aqV p n S a v = (fun _ => 0, 1) := by
 unfold aqV; rw [h]; rfl
attribute [local irreducible] aqV mxC moC
set_option maxRecDepth 100000 in
set_option maxHeartbeats 1600000 in
theorem ApplyC_ok (p : Nat) (n : Int) (S : Nat → Nat → Nat) (a y : Nat → Nat) (d1 d2 d3 d4 d5 : Nat) (w : World) (hS : ∀ i, byte (S i)) (ha : byte a) (hy : byte y) (hs : sqB (p : Int) n S = true) (hok : okA (p : Int) a = true) (hvv : vB (p : Int) n y = true) (B0 : One w d1 2 (.int .i64 (p : Int))) (B1 : One w d2 2 (.int .i64 n)) (B2 : Blk w d3 36 66 (fl 6 S)) (B3 : Blk w d4 64 23 a) (B4 : Blk w d5 6 64 y) :
 Calls Try.prog 123 #[.pointer (some ⟨d1, 0, none⟩), .pointer (some ⟨d2, 0, none⟩), .pointer (some ⟨d3, 0, none⟩), .pointer (some ⟨d4, 0, none⟩), .pointer (some ⟨d5, 0, none⟩)] w fun e w' => e = .returned (.agg (zb 6 (apN p (deg a + 1).toNat S a y (deg a + 1).toNat))) ∧ Below w.heap.size w w' := by
 have HIP := Lib.hid (fun W => IsPoly_any (p : Int) a ha W)
 have HIV := Lib.hid (fun W => isVector_any (p : Int) n y hy W)
 obtain ⟨p2, p7⟩ : 2 ≤ p ∧ p ≤ 7 := by
  obtain ⟨q, e, c, d⟩ := okP_nat (okA_p hok)
  omega
 have la : ∀ k, k < 64 → a k < p := fun k hk => by have := okA_lt hok hk; omega
 have HMO := Lib.hid (fun W => matrixOf_ok (p : Int) n S hS W hs)
 have HMD := Lib.hid (fun W => mmodule_any p n S W)
 have HPR := Lib.hid (fun W => polyOfRow_any y W)
 have HAC := Lib.hid (fun W => sact_any p n S a y W p2 p7 (sq_lt hs) la (vec_lt hvv))
 have HRP := Lib.hid (fun W => show Calls Try.prog 126 #[.agg (zb 64 (rp (apN p (deg a + 1).toNat S a y (deg a + 1).toNat)))] W fun e w' => e = .returned (.agg (zb 6 (apN p (deg a + 1).toNat S a y (deg a + 1).toNat))) ∧ Below W.heap.size W w' from by
  have h := rowOfPoly_any (rp (apN p (deg a + 1).toNat S a y (deg a + 1).toNat)) W
  have e := zbc (n := 6) (f := rp (apN p (deg a + 1).toNat S a y (deg a + 1).toNat)) (g := apN p (deg a + 1).toNat S a y (deg a + 1).toNat) (fun k hk => rp_in hk)
  rw [e] at h
  exact h)
 clear p2 p7 la hs
 have zx_0 := B0.lt
 have zx_1 := B1.lt
 have zx_2 := B2.lt
 have zx_3 := B3.lt
 have zx_4 := B4.lt
 go_enter Try.func123, Try.ntmps123
 go_upto_region 1 with (fail)
 rw [← zero6]
 obtain ⟨W1, hwo⟩ : ∃ v : World, v = (w.alloc (.cells (zb 6 (fun _ => 0)) 64)) := ⟨_, rfl⟩
 have B5 : Blk W1 (w.heap.size) 6 64 (fun _ => 0) := by subst hwo; have := (Blk.new w 6 64 (fun _ => 0)); simpa using this
 replace B0 : One W1 (d1) 2 (.int .i64 (p : Int)) := by subst hwo; exact (B0.alloc (.cells (zb 6 (fun _ => 0)) 64))
 replace B1 : One W1 (d2) 2 (.int .i64 n) := by subst hwo; exact (B1.alloc (.cells (zb 6 (fun _ => 0)) 64))
 replace B2 : Blk W1 (d3) 36 66 (fl 6 S) := by subst hwo; exact (B2.alloc (.cells (zb 6 (fun _ => 0)) 64))
 replace B3 : Blk W1 (d4) 64 23 (a) := by subst hwo; exact (B3.alloc (.cells (zb 6 (fun _ => 0)) 64))
 replace B4 : Blk W1 (d5) 6 64 (y) := by subst hwo; exact (B4.alloc (.cells (zb 6 (fun _ => 0)) 64))
 have hb : Below w.heap.size w W1 := by subst hwo; exact ((Below.refl _ _).alloc (Nat.le_refl _) _)
 rw [← hwo]
 clear hwo
 have lt_B0 := B0.lt
 have lt_B1 := B1.lt
 have lt_B2 := B2.lt
 have lt_B3 := B3.lt
 have lt_B4 := B4.lt
 have lt_B5 := B5.lt
 go_upto_region 2 with (first | rw [← z64] | rw [← mxC_zero] | (refine zlo rfl 2 (.tmp 0) rfl _ rfl 2 ((.int .i64 (p : Int))) (B0) _ Try.underlying2 rfl ?_) | (refine zlo rfl 2 (.tmp 1) rfl _ rfl 2 ((.int .i64 n)) (B1) _ Try.underlying2 rfl ?_) | (refine zla (.tmp 2) B2 Try.underlying66 Try.size66 ?_) | (go_at_call 124; refine (HMO.out _).mono ?_; rintro e W2 ⟨rfl, hW2⟩; replace B0 := B0.zw hW2; replace B1 := B1.zw hW2; replace B2 := B2.zw hW2; replace B3 := B3.zw hW2; replace B4 := B4.zw hW2; replace B5 := B5.zw hW2; replace hb := (hb).trans (hW2.mono (hb).size)) | (refine wpList_store_rowv rfl 129 (.tmp 6) (.tmp 10) rfl _ rfl (mxC (p : Int) n S).toArray rfl 129 _ ((Row.new W2 129 (mxC 0 0 (fun _ _ => 0)).toArray)) 38 Try.size129 (by simp [mxC_len]) (by simp [mxC_len]) (mxC_all _ _ _) ?_; try simp only [Act.put]))
 have lt_B0 := B0.lt
 have lt_B1 := B1.lt
 have lt_B2 := B2.lt
 have lt_B3 := B3.lt
 have lt_B4 := B4.lt
 have lt_B5 := B5.lt
 have lhb := hb.size
 obtain ⟨W3, hwo, hzQ⟩ : ∃ v : World, v = ((W2.alloc (.cells (mxC 0 0 (fun _ _ => 0)).toArray 129)).setRow (W2.heap.size) (mxC (p : Int) n S).toArray) ∧ One v (d1) 2 (.int .i64 (p : Int)) ∧ One v (d2) 2 (.int .i64 n) ∧ Blk v (d3) 36 66 (fl 6 S) ∧ Blk v (d4) 64 23 (a) ∧ Blk v (d5) 6 64 (y) ∧ Blk v (w.heap.size) 6 64 (fun _ => 0) ∧ Row v (W2.heap.size) 129 (mxC (p : Int) n S).toArray ∧ Below w.heap.size w v := ⟨_, rfl, ((B0.alloc (.cells (mxC 0 0 (fun _ _ => 0)).toArray 129)).rowOther (by omega)), ((B1.alloc (.cells (mxC 0 0 (fun _ _ => 0)).toArray 129)).rowOther (by omega)), ((B2.alloc (.cells (mxC 0 0 (fun _ _ => 0)).toArray 129)).rowOther (by omega)), ((B3.alloc (.cells (mxC 0 0 (fun _ _ => 0)).toArray 129)).rowOther (by omega)), ((B4.alloc (.cells (mxC 0 0 (fun _ _ => 0)).toArray 129)).rowOther (by omega)), ((B5.alloc (.cells (mxC 0 0 (fun _ _ => 0)).toArray 129)).rowOther (by omega)), ((Row.new W2 129 (mxC 0 0 (fun _ _ => 0)).toArray).row (mxC (p : Int) n S).toArray), (zr (hb.alloc (by have := hb.size; simp; omega) (.cells (mxC 0 0 (fun _ _ => 0)).toArray 129)) (by omega) _)⟩
 rw [← hwo]
 clear hwo B0 B1 B2 B3 B4 B5 hb
 obtain ⟨B0, B1, B2, B3, B4, B5, B6, hb⟩ := hzQ
 obtain ⟨N1, hNN⟩ : ∃ n : Nat, n = W2.heap.size := ⟨_, rfl⟩
 rw [← hNN] at lt_B0 lt_B1 lt_B2 lt_B3 lt_B4 lt_B5 lhb B6 ⊢
 clear hNN
 have zN1_0 := lt_B0
 have zN1_1 := lt_B1
 have zN1_2 := lt_B2
 have zN1_3 := lt_B3
 have zN1_4 := lt_B4
 have zN1_5 := lt_B5
 have zN1 := lhb
 clear lt_B0 lt_B1 lt_B2 lt_B3 lt_B4 lt_B5 lhb
 try simp only [Act.put, pA, pB, pC]
 go_upto_region 3 with (first | (refine zlo rfl 2 (.tmp 0) rfl _ rfl 2 ((.int .i64 (p : Int))) (B0) _ Try.underlying2 rfl ?_) | (refine zla (.tmp 3) B3 Try.underlying23 Try.size23 ?_) | (go_at_call 113; refine (HIP.out _).mono ?_; rintro e W4 ⟨rfl, hW4⟩; replace B0 := B0.zw hW4; replace B1 := B1.zw hW4; replace B2 := B2.zw hW4; replace B3 := B3.zw hW4; replace B4 := B4.zw hW4; replace B5 := B5.zw hW4; replace B6 := B6.zw hW4; replace hb := (hb).trans (hW4.mono (hb).size); rw [hok]) | (refine wpList_load_one_g rfl 2 (.tmp 0) rfl _ rfl 2 ((.int .i64 (p : Int))) (B0) _ Try.underlying2 rfl ?_) | (refine wpList_load_one_g rfl 2 (.tmp 1) rfl _ rfl 2 ((.int .i64 n)) (B1) _ Try.underlying2 rfl ?_) | (refine zlg rfl 64 (.tmp 4) rfl _ rfl 6 64 _ (B4) _ Try.underlying64 rfl Try.size64 ?_) | (go_at_call 125; refine (HIV.out _).mono ?_; rintro e W5 ⟨rfl, hW5⟩; replace B0 := B0.zw hW5; replace B1 := B1.zw hW5; replace B2 := B2.zw hW5; replace B3 := B3.zw hW5; replace B4 := B4.zw hW5; replace B5 := B5.zw hW5; replace B6 := B6.zw hW5; replace hb := (hb).trans (hW5.mono (hb).size); rw [hvv]) | (go_at_call 112; refine (refuseUnless_ok _).mono ?_; rintro e wS ⟨rfl, rfl⟩))
 clear hok hvv
 have lt_B0 : (d1) < W5.heap.size := B0.lt
 have lt_B1 : (d2) < W5.heap.size := B1.lt
 have lt_B2 : (d3) < W5.heap.size := B2.lt
 have lt_B3 : (d4) < W5.heap.size := B3.lt
 have lt_B4 : (d5) < W5.heap.size := B4.lt
 have lt_B5 : (w.heap.size) < W5.heap.size := B5.lt
 have lt_B6 : (N1) < W5.heap.size := B6.lt
 have hbase : w.heap.size ≤ W5.heap.size := hb.size
 refine zq Try.mixed (by kernel_rfl) (by kernel_rfl) (fun v => by (simp only [frL, Act.put, pA, pB, pC, Nat.reduceAdd, Nat.zero_add]; exact rfl))
  (fun L v W6 => Below w.heap.size w W6 ∧ Kx [w.heap.size] W5 W6 ∧ (∃ g, Blk W6 (w.heap.size) 6 64 (g)) ∧ (L 7 = false → Blk W6 (w.heap.size) 6 64 (fun _ => 0)) ∧ (L 7 = true → Blk W6 (w.heap.size) 6 64 (apN p (deg a + 1).toNat S a y (deg a + 1).toNat)) ∧ VF L v [some (.agg (mxC (p : Int) n S).toArray), some (.agg (moC (p : Int) n (.func (.func 171) #[.agg (mxC (p : Int) n S).toArray] #[])).toArray), some (.agg (zb 64 (a))), some (.agg (zb 6 (y))), some (.agg (zb 64 (rp y))), some (.agg (zb 64 (rp (apN p (deg a + 1).toNat S a y (deg a + 1).toNat)))), some (.agg (zb 6 (apN p (deg a + 1).toNat S a y (deg a + 1).toNat))), none]) ?_ ?_ ?_
 · intro v hv0
   exact ⟨hb.drew, Kx.start _ _, ⟨_, B5.drew⟩, (fun _ => B5.drew), (fun h => by cases h), VF.start⟩
 · refine (.cons rfl ?_ (.cons rfl ?_ (.cons rfl ?_ (.cons rfl ?_ (.cons rfl ?_ (.cons rfl ?_ (.cons rfl ?_ (.cons rfl ?_ (.nil _)))))))))
   all_goals intro L v W6 hd hn ⟨hB, hX, x5, q5, n5, V⟩ K hK
   · refine wp_load_rowv 129 _ rfl _ rfl 129 _ (B6.kx hX (by simp <;> omega)) _ Try.underlying129 rfl 38 Try.size129 (by simp [mxC_len]) ?_
     exact hK _ _ _ rfl ⟨hB, hX, x5, q5, n5, V.step 0 rfl⟩
   · have e0 := V.at (zdq hd 0 rfl) rfl
     go_wp2_with (go_at_call 127; refine (HMD.out _).mono ?_; rintro e wy ⟨rfl, hy⟩)
     exact hK _ (.agg (moC (p : Int) n (.func (.func 171) #[.agg (mxC (p : Int) n S).toArray] #[])).toArray) _ (by simp only [Act.put, pA, pB, pC, e0]) ⟨hB.trans (hy.mono hB.size), hX.below hy, (let ⟨g, h⟩ := x5; ⟨g, h.zw hy⟩), (fun h => (q5 h).below hy (q5 h).lt), (fun h => (n5 h).below hy (n5 h).lt), V.step 1 rfl⟩
   · refine wp_load_any 23 _ rfl _ rfl 64 23 _ (B3.kx hX (by simp <;> omega)) _ Try.underlying23 rfl Try.size23 ?_
     exact hK _ _ _ rfl ⟨hB, hX, x5, q5, n5, V.step 2 rfl⟩
   · refine wp_load_any 64 _ rfl _ rfl 6 64 _ (B4.kx hX (by simp <;> omega)) _ Try.underlying64 rfl Try.size64 ?_
     exact hK _ _ _ rfl ⟨hB, hX, x5, q5, n5, V.step 3 rfl⟩
   · have e3 := V.at (zdq hd 3 rfl) rfl
     go_wp2_with (go_at_call 129; refine (HPR.out _).mono ?_; rintro e wy ⟨rfl, hy⟩)
     exact hK _ (.agg (zb 64 (rp y))) _ (by simp only [Act.put, pA, pB, pC, e3]) ⟨hB.trans (hy.mono hB.size), hX.below hy, (let ⟨g, h⟩ := x5; ⟨g, h.zw hy⟩), (fun h => (q5 h).below hy (q5 h).lt), (fun h => (n5 h).below hy (n5 h).lt), V.step 4 rfl⟩
   · have e1 := V.at (zdq hd 1 rfl) rfl
     have e2 := V.at (zdq hd 2 rfl) rfl
     have e4 := V.at (zdq hd 4 rfl) rfl
     go_wp2_with (go_at_call 128; refine (HAC.out _).mono ?_; rintro e wy ⟨rfl, hy⟩)
     exact hK _ (.agg (zb 64 (rp (apN p (deg a + 1).toNat S a y (deg a + 1).toNat)))) _ (by simp only [Act.put, pA, pB, pC, e1, e2, e4]) ⟨hB.trans (hy.mono hB.size), hX.below hy, (let ⟨g, h⟩ := x5; ⟨g, h.zw hy⟩), (fun h => (q5 h).below hy (q5 h).lt), (fun h => (n5 h).below hy (n5 h).lt), V.step 5 rfl⟩
   · have e5 := V.at (zdq hd 5 rfl) rfl
     go_wp2_with (go_at_call 126; refine (HRP.out _).mono ?_; rintro e wy ⟨rfl, hy⟩)
     exact hK _ (.agg (zb 6 (apN p (deg a + 1).toNat S a y (deg a + 1).toNat))) _ (by simp only [Act.put, pA, pB, pC, e5]) ⟨hB.trans (hy.mono hB.size), hX.below hy, (let ⟨g, h⟩ := x5; ⟨g, h.zw hy⟩), (fun h => (q5 h).below hy (q5 h).lt), (fun h => (n5 h).below hy (n5 h).lt), V.step 6 rfl⟩
   · have e6 := V.at (zdq hd 6 rfl) rfl
     obtain ⟨gz, hk⟩ := x5
     refine zsb 64 _ _ rfl _ 6 (apN p (deg a + 1).toNat S a y (deg a + 1).toNat) rfl e6 64 gz hk Try.size64 ?_
     exact hK _ undef _ rfl ⟨zr hB (by omega) _, hX.row (by simp) _, ⟨_, hk.row _⟩, (fun h => absurd h (by simp [setL])), (fun _ => hk.row _), V.skip 7 rfl⟩
 · intro L v W6 hL ⟨hB, hX, x5, q5, n5, V⟩
   have r5 := n5 (hL 7 (by decide))
   have e0 := V.at (hL 0 (by decide)) rfl
   have e1 := V.at (hL 1 (by decide)) rfl
   have e2 := V.at (hL 2 (by decide)) rfl
   have e3 := V.at (hL 3 (by decide)) rfl
   have e4 := V.at (hL 4 (by decide)) rfl
   have e5 := V.at (hL 5 (by decide)) rfl
   have e6 := V.at (hL 6 (by decide)) rfl
   clear hL x5 q5 n5 V
   replace B0 := B0.kx hX (by simp <;> omega)
   replace B1 := B1.kx hX (by simp <;> omega)
   replace B2 := B2.kx hX (by simp <;> omega)
   replace B3 := B3.kx hX (by simp <;> omega)
   replace B4 := B4.kx hX (by simp <;> omega)
   replace B6 := B6.kx hX (by simp <;> omega)
   clear hX
   simp only [Exit.then, e0, e1, e2, e3, e4, e5, e6]
   clear e0 e1 e2 e3 e4 e5 e6
   replace B5 := r5
   clear r5
   replace hb := hB
   clear hB
   clear hbase lt_B0 lt_B1 lt_B2 lt_B3 lt_B4 lt_B5 lt_B6
   go_wp2_with fail
   refine bodyPost_ret (results_any rfl _ _ _ 6 _ _ rfl B5 _ Try.underlying64 rfl Try.size64) rfl ⟨rfl, hb⟩
set_option maxRecDepth 100000 in
set_option maxHeartbeats 1600000 in
theorem ApplyC_no (p : Int) (n : Int) (S : Nat → Nat → Nat) (a y : Nat → Nat) (d1 d2 d3 d4 d5 : Nat) (w : World) (hS : ∀ i, byte (S i)) (ha : byte a) (hy : byte y) (hno : (sqB p n S && okA p a && vB p n y) = false) (B0 : One w d1 2 (.int .i64 p)) (B1 : One w d2 2 (.int .i64 n)) (B2 : Blk w d3 36 66 (fl 6 S)) (B3 : Blk w d4 64 23 a) (B4 : Blk w d5 6 64 y) :
 Calls Try.prog 123 #[.pointer (some ⟨d1, 0, none⟩), .pointer (some ⟨d2, 0, none⟩), .pointer (some ⟨d3, 0, none⟩), .pointer (some ⟨d4, 0, none⟩), .pointer (some ⟨d5, 0, none⟩)] w fun e w' => e = .panicked [{ v := .iface 174 (.int .i64 1), recovered := false }] ∧ Below w.heap.size w w' := by
 have HIP := Lib.hid (fun W => IsPoly_any p a ha W)
 have HIV := Lib.hid (fun W => isVector_any p n y hy W)
 have zx_0 := B0.lt
 have zx_1 := B1.lt
 have zx_2 := B2.lt
 have zx_3 := B3.lt
 have zx_4 := B4.lt
 go_enter Try.func123, Try.ntmps123
 go_upto_region 1 with (fail)
 rw [← zero6]
 obtain ⟨W1, hwo⟩ : ∃ v : World, v = (w.alloc (.cells (zb 6 (fun _ => 0)) 64)) := ⟨_, rfl⟩
 have B5 : Blk W1 (w.heap.size) 6 64 (fun _ => 0) := by subst hwo; have := (Blk.new w 6 64 (fun _ => 0)); simpa using this
 replace B0 : One W1 (d1) 2 (.int .i64 p) := by subst hwo; exact (B0.alloc (.cells (zb 6 (fun _ => 0)) 64))
 replace B1 : One W1 (d2) 2 (.int .i64 n) := by subst hwo; exact (B1.alloc (.cells (zb 6 (fun _ => 0)) 64))
 replace B2 : Blk W1 (d3) 36 66 (fl 6 S) := by subst hwo; exact (B2.alloc (.cells (zb 6 (fun _ => 0)) 64))
 replace B3 : Blk W1 (d4) 64 23 (a) := by subst hwo; exact (B3.alloc (.cells (zb 6 (fun _ => 0)) 64))
 replace B4 : Blk W1 (d5) 6 64 (y) := by subst hwo; exact (B4.alloc (.cells (zb 6 (fun _ => 0)) 64))
 have hb : Below w.heap.size w W1 := by subst hwo; exact ((Below.refl _ _).alloc (Nat.le_refl _) _)
 rw [← hwo]
 clear hwo
 cases hs : sqB p n S with
 | false =>
  have HMN := Lib.hid (fun W => matrixOf_no p n S hS W hs)
  go_wp2_with (first | rw [← z64] | rw [← mxC_zero] | (refine zlo rfl 2 (.tmp 0) rfl _ rfl 2 ((.int .i64 p)) (B0) _ Try.underlying2 rfl ?_) | (refine zlo rfl 2 (.tmp 1) rfl _ rfl 2 ((.int .i64 n)) (B1) _ Try.underlying2 rfl ?_) | (refine zla (.tmp 2) B2 Try.underlying66 Try.size66 ?_) | (go_at_call 124; refine (HMN.out _).mono ?_; rintro e W2 ⟨rfl, hW2⟩; replace B0 := B0.zw hW2; replace B1 := B1.zw hW2; replace B2 := B2.zw hW2; replace B3 := B3.zw hW2; replace B4 := B4.zw hW2; replace B5 := B5.zw hW2; replace hb := (hb).trans (hW2.mono (hb).size)))
  exact ⟨rfl, rfl, hb⟩
 | true =>
  have HMO := Lib.hid (fun W => matrixOf_ok p n S hS W hs)
  have lt_B0 := B0.lt
  have lt_B1 := B1.lt
  have lt_B2 := B2.lt
  have lt_B3 := B3.lt
  have lt_B4 := B4.lt
  have lt_B5 := B5.lt
  go_upto_region 2 with (first | rw [← z64] | rw [← mxC_zero] | (refine zlo rfl 2 (.tmp 0) rfl _ rfl 2 ((.int .i64 p)) (B0) _ Try.underlying2 rfl ?_) | (refine zlo rfl 2 (.tmp 1) rfl _ rfl 2 ((.int .i64 n)) (B1) _ Try.underlying2 rfl ?_) | (refine zla (.tmp 2) B2 Try.underlying66 Try.size66 ?_) | (go_at_call 124; refine (HMO.out _).mono ?_; rintro e W2 ⟨rfl, hW2⟩; replace B0 := B0.zw hW2; replace B1 := B1.zw hW2; replace B2 := B2.zw hW2; replace B3 := B3.zw hW2; replace B4 := B4.zw hW2; replace B5 := B5.zw hW2; replace hb := (hb).trans (hW2.mono (hb).size)) | (refine wpList_store_rowv rfl 129 (.tmp 6) (.tmp 10) rfl _ rfl (mxC p n S).toArray rfl 129 _ ((Row.new W2 129 (mxC 0 0 (fun _ _ => 0)).toArray)) 38 Try.size129 (by simp [mxC_len]) (by simp [mxC_len]) (mxC_all _ _ _) ?_; try simp only [Act.put]))
  have lt_B0 := B0.lt
  have lt_B1 := B1.lt
  have lt_B2 := B2.lt
  have lt_B3 := B3.lt
  have lt_B4 := B4.lt
  have lt_B5 := B5.lt
  have lhb := hb.size
  obtain ⟨W3, hwo, hzQ⟩ : ∃ v : World, v = ((W2.alloc (.cells (mxC 0 0 (fun _ _ => 0)).toArray 129)).setRow (W2.heap.size) (mxC p n S).toArray) ∧ One v (d1) 2 (.int .i64 p) ∧ One v (d2) 2 (.int .i64 n) ∧ Blk v (d3) 36 66 (fl 6 S) ∧ Blk v (d4) 64 23 (a) ∧ Blk v (d5) 6 64 (y) ∧ Blk v (w.heap.size) 6 64 (fun _ => 0) ∧ Row v (W2.heap.size) 129 (mxC p n S).toArray ∧ Below w.heap.size w v := ⟨_, rfl, ((B0.alloc (.cells (mxC 0 0 (fun _ _ => 0)).toArray 129)).rowOther (by omega)), ((B1.alloc (.cells (mxC 0 0 (fun _ _ => 0)).toArray 129)).rowOther (by omega)), ((B2.alloc (.cells (mxC 0 0 (fun _ _ => 0)).toArray 129)).rowOther (by omega)), ((B3.alloc (.cells (mxC 0 0 (fun _ _ => 0)).toArray 129)).rowOther (by omega)), ((B4.alloc (.cells (mxC 0 0 (fun _ _ => 0)).toArray 129)).rowOther (by omega)), ((B5.alloc (.cells (mxC 0 0 (fun _ _ => 0)).toArray 129)).rowOther (by omega)), ((Row.new W2 129 (mxC 0 0 (fun _ _ => 0)).toArray).row (mxC p n S).toArray), (zr (hb.alloc (by have := hb.size; simp; omega) (.cells (mxC 0 0 (fun _ _ => 0)).toArray 129)) (by omega) _)⟩
  rw [← hwo]
  clear hwo B0 B1 B2 B3 B4 B5 hb
  obtain ⟨B0, B1, B2, B3, B4, B5, B6, hb⟩ := hzQ
  obtain ⟨N1, hNN⟩ : ∃ n : Nat, n = W2.heap.size := ⟨_, rfl⟩
  rw [← hNN] at lt_B0 lt_B1 lt_B2 lt_B3 lt_B4 lt_B5 lhb B6 ⊢
  clear hNN
  have zN1_0 := lt_B0
  have zN1_1 := lt_B1
  have zN1_2 := lt_B2
  have zN1_3 := lt_B3
  have zN1_4 := lt_B4
  have zN1_5 := lt_B5
  have zN1 := lhb
  clear lt_B0 lt_B1 lt_B2 lt_B3 lt_B4 lt_B5 lhb
  try simp only [Act.put, pA, pB, pC]
  cases hok : okA p a with
  | false =>
   go_wp2_with (first | (refine zlo rfl 2 (.tmp 0) rfl _ rfl 2 ((.int .i64 p)) (B0) _ Try.underlying2 rfl ?_) | (refine zla (.tmp 3) B3 Try.underlying23 Try.size23 ?_) | (go_at_call 113; refine (HIP.out _).mono ?_; rintro e W4 ⟨rfl, hW4⟩; replace B0 := B0.zw hW4; replace B1 := B1.zw hW4; replace B2 := B2.zw hW4; replace B3 := B3.zw hW4; replace B4 := B4.zw hW4; replace B5 := B5.zw hW4; replace B6 := B6.zw hW4; replace hb := (hb).trans (hW4.mono (hb).size); rw [hok]) | (go_at_call 112; refine (refuseUnless_no _).mono ?_; rintro e wS ⟨rfl, rfl⟩))
   exact ⟨rfl, rfl, hb⟩
  | true =>
   have hvv : vB p n y = false := by rw [hs, hok] at hno; simpa using hno
   go_wp2_with (first | (refine zlo rfl 2 (.tmp 0) rfl _ rfl 2 ((.int .i64 p)) (B0) _ Try.underlying2 rfl ?_) | (refine zla (.tmp 3) B3 Try.underlying23 Try.size23 ?_) | (go_at_call 113; refine (HIP.out _).mono ?_; rintro e W4 ⟨rfl, hW4⟩; replace B0 := B0.zw hW4; replace B1 := B1.zw hW4; replace B2 := B2.zw hW4; replace B3 := B3.zw hW4; replace B4 := B4.zw hW4; replace B5 := B5.zw hW4; replace B6 := B6.zw hW4; replace hb := (hb).trans (hW4.mono (hb).size); rw [hok]) | (refine wpList_load_one_g rfl 2 (.tmp 0) rfl _ rfl 2 ((.int .i64 p)) (B0) _ Try.underlying2 rfl ?_) | (refine wpList_load_one_g rfl 2 (.tmp 1) rfl _ rfl 2 ((.int .i64 n)) (B1) _ Try.underlying2 rfl ?_) | (refine zlg rfl 64 (.tmp 4) rfl _ rfl 6 64 _ (B4) _ Try.underlying64 rfl Try.size64 ?_) | (go_at_call 125; refine (HIV.out _).mono ?_; rintro e W5 ⟨rfl, hW5⟩; replace B0 := B0.zw hW5; replace B1 := B1.zw hW5; replace B2 := B2.zw hW5; replace B3 := B3.zw hW5; replace B4 := B4.zw hW5; replace B5 := B5.zw hW5; replace B6 := B6.zw hW5; replace hb := (hb).trans (hW5.mono (hb).size); rw [hvv]) | (go_at_call 112; refine (refuseUnless_no _).mono ?_; rintro e wS ⟨rfl, rfl⟩))
   exact ⟨rfl, rfl, hb⟩
set_option maxRecDepth 100000 in
set_option maxHeartbeats 1600000 in
theorem door_caughtR (b : Nat) (x : Int) (w : World) (hb : One w b 2 (.int .i64 x)) :
 CallsD Try.prog 169 #[.pointer (some ⟨b, 0, none⟩)] (.panicking ({ v := Value.iface 174 (.int .i64 1), recovered := false } :: [])) w fun e u' w' =>
  e = .returned (.tuple #[]) ∧ u' = .panicking ({ v := Value.iface 174 (.int .i64 1), recovered := true } :: []) ∧ w' = w.setCell ⟨b, 0, none⟩ (.int .i64 1) := by
 have hta : ∀ w : World, (Instr.typeAssert (.iface 174 (.int .i64 1)) 20 174 false).run Try.prog w = .ok (.int .i64 1) w := fun _ => by kernel_rfl
 have hc := hb.cell
 have hz := hb.frozen 0
 refine callsD_of_wpS Try.func169 rfl fun c₀ cs hu => ?_
 apply wpS_seq
 apply wpS_region
 simp [wpOpsS, go_sem, recoverD, hu, Try.ntmps169, Exit.thenS]
 refine wpS_of_wp ?_
 show Code.wp _ _ _ { tmps := #[.pointer (some ⟨b, 0, none⟩), Value.iface 174 (.int .i64 1), Value.iface 174 (.int .i64 1), undef, undef, undef, undef], defers := [] } _
 go_wp2_with fail
 cases c₀
 simp_all [bodyPostS, results, Try.results169]
set_option maxRecDepth 100000 in
set_option maxHeartbeats 1600000 in
theorem door_idleR (b : Nat) (w : World) :
 CallsD Try.prog 169 #[.pointer (some ⟨b, 0, none⟩)] .returning w fun e u' w' => e = .returned (.tuple #[]) ∧ u' = .returning ∧ w' = w := by
 refine callsD_of_wpS Try.func169 rfl fun c₀ cs hu => ?_
 apply wpS_seq
 apply wpS_region
 simp [wpOpsS, go_sem, recoverD, hu, Try.ntmps169, Exit.thenS]
 refine wpS_of_wp ?_
 show Code.wp _ _ _ { tmps := #[.pointer (some ⟨b, 0, none⟩), .nilIface, .nilIface, undef, undef, undef, undef], defers := [] } _
 go_wp2_with fail
 cases c₀
 simp_all [bodyPostS, results, Try.results169]
set_option maxRecDepth 100000 in
set_option maxHeartbeats 1600000 in
theorem door_ApplySquare (c1 c2 c3 c4 c5 : Value) (f : Nat → Nat) (w : World) (H : ∀ W, Below w.heap.size w W → Calls Try.prog 123 #[c1, c2, c3, c4, c5] W fun e w' => e = .returned (.agg (zb 6 f)) ∧ Below W.heap.size W w') :
 Calls Try.prog 122 #[.func (.func 123) #[] #[c1, c2, c3, c4, c5]] w fun e w' => e = .returned (.tuple #[.agg (zb 6 f), .int .i64 0]) ∧ Below w.heap.size w w' := by
 have HH := Lib.hid H
 clear H
 have hmf : ∀ (fn : Fn) (first cap : Array Value) (w : World), (Instr.makeFunc fn first cap).run Try.prog w = .ok (.func fn first cap) w := fun _ _ _ _ => rfl
 go_enter_defers Try.func122, Try.ntmps122
 go_upto_region 1 with (fail)
 rw [← zero6]
 obtain ⟨W1, hwo⟩ : ∃ v : World, v = ((w.alloc (.cells (zb 6 fun _ => 0) 64)).alloc (.cells #[.int .i64 0] 2)) := ⟨_, rfl⟩
 have B0 : Blk W1 (w.heap.size) 6 64 (fun _ => 0) := by subst hwo; exact ((Blk.new w 6 64 (fun _ => 0)).alloc _)
 have B1 : One W1 (w.heap.size + 1) 2 (.int .i64 0) := by subst hwo; have := One.new (w.alloc (.cells (zb 6 fun _ => 0) 64)) 2 (.int .i64 0); simpa using this
 have hb : Below w.heap.size w W1 := by subst hwo; exact (((Below.refl _ _).alloc (Nat.le_refl _) _).alloc (by simp) _)
 rw [← hwo]
 clear hwo
 go_upto_region 2 with (fail)
 clear hmf
 have lt0 := B0.lt
 have lt1 := B1.lt
 go_wp2_with (first | (go_at_call 123; refine (HH.out _ hb).mono ?_; rintro e W2 ⟨rfl, hW2⟩; replace B0 := B0.zw hW2; replace B1 := B1.zw hW2; replace hb := hb.trans (hW2.mono hb.size)) | (refine zsr (.tmp 2) (.tmp 6) (f) B0 Try.size64 ?_; have C0 := B0.row f; have C1 := B1.rowOther (cs := zb 6 f) (show w.heap.size + 1 ≠ w.heap.size by omega); have cc1 := C1.cell; have z1 := C1.frozen 0; try simp only [Act.put]; go_wp2_with fail))
 have D0 : Blk ((W2.setRow w.heap.size (zb 6 f)).setCell ⟨w.heap.size + 1, 0, none⟩ (.int .i64 0)) (w.heap.size) 6 64 f := C0.setOther (by dsimp only; omega)
 have D1 : One ((W2.setRow w.heap.size (zb 6 f)).setCell ⟨w.heap.size + 1, 0, none⟩ (.int .i64 0)) (w.heap.size + 1) 2 (.int .i64 0) := C1.setc
 have hb2 : Below w.heap.size w ((W2.setRow w.heap.size (zb 6 f)).setCell ⟨w.heap.size + 1, 0, none⟩ (.int .i64 0)) := (zr hb (by omega) _).setCell (by dsimp only; omega) _
 refine leaves_cons (f := 169) (args := #[.pointer (some ⟨w.heap.size + 1, 0, none⟩)]) (by simp) (by simp [go_sem]) ?_
 refine (door_idleR (w.heap.size + 1) _).mono ?_
 rintro e u' w'' ⟨rfl, rfl, rfl⟩
 exact ⟨_, results_bc rfl _ _ _ 6 64 5 f _ 2 (.int .i64 0) rfl D0 Try.underlying64 Try.size64 rfl D1 .i64 Try.underlying2, rfl, hb2⟩
set_option maxRecDepth 100000 in
set_option maxHeartbeats 1600000 in
theorem door_ApplySquareN (c1 c2 c3 c4 c5 : Value) (f : Nat → Nat) (w : World) (H : ∀ W, Below w.heap.size w W → Calls Try.prog 123 #[c1, c2, c3, c4, c5] W fun e w' => e = .panicked [{ v := .iface 174 (.int .i64 1), recovered := false }] ∧ Below W.heap.size W w') :
 Calls Try.prog 122 #[.func (.func 123) #[] #[c1, c2, c3, c4, c5]] w fun e w' => e = .returned (.tuple #[.agg (zb 6 fun _ => 0), .int .i64 1]) ∧ Below w.heap.size w w' := by
 have HH := Lib.hid H
 clear H
 have hmf : ∀ (fn : Fn) (first cap : Array Value) (w : World), (Instr.makeFunc fn first cap).run Try.prog w = .ok (.func fn first cap) w := fun _ _ _ _ => rfl
 go_enter_defers Try.func122, Try.ntmps122
 go_upto_region 1 with (fail)
 rw [← zero6]
 obtain ⟨W1, hwo⟩ : ∃ v : World, v = ((w.alloc (.cells (zb 6 fun _ => 0) 64)).alloc (.cells #[.int .i64 0] 2)) := ⟨_, rfl⟩
 have B0 : Blk W1 (w.heap.size) 6 64 (fun _ => 0) := by subst hwo; exact ((Blk.new w 6 64 (fun _ => 0)).alloc _)
 have B1 : One W1 (w.heap.size + 1) 2 (.int .i64 0) := by subst hwo; have := One.new (w.alloc (.cells (zb 6 fun _ => 0) 64)) 2 (.int .i64 0); simpa using this
 have hb : Below w.heap.size w W1 := by subst hwo; exact (((Below.refl _ _).alloc (Nat.le_refl _) _).alloc (by simp) _)
 rw [← hwo]
 clear hwo
 go_upto_region 2 with (fail)
 clear hmf
 have lt0 := B0.lt
 have lt1 := B1.lt
 go_wp2_with (first | (go_at_call 123; refine (HH.out _ hb).mono ?_; rintro e W2 ⟨rfl, hW2⟩; replace B0 := B0.zw hW2; replace B1 := B1.zw hW2; replace hb := hb.trans (hW2.mono hb.size)))
 have D0 : Blk (W2.setCell ⟨w.heap.size + 1, 0, none⟩ (.int .i64 1)) (w.heap.size) 6 64 (fun _ => 0) := B0.setOther (by dsimp only; omega)
 have D1 : One (W2.setCell ⟨w.heap.size + 1, 0, none⟩ (.int .i64 1)) (w.heap.size + 1) 2 (.int .i64 1) := B1.setc
 have hb2 : Below w.heap.size w (W2.setCell ⟨w.heap.size + 1, 0, none⟩ (.int .i64 1)) := hb.setCell (by dsimp only; omega) _
 refine leaves_cons (f := 169) (args := #[.pointer (some ⟨w.heap.size + 1, 0, none⟩)]) (by simp) (by simp [go_sem]) ?_
 refine (door_caughtR (w.heap.size + 1) 0 _ B1).mono ?_
 rintro e u' w'' ⟨rfl, rfl, rfl⟩
 exact ⟨_, results_bc rfl _ _ _ 6 64 5 (fun _ => 0) _ 2 (.int .i64 1) rfl D0 Try.underlying64 Try.size64 rfl D1 .i64 Try.underlying2, rfl, hb2⟩
set_option maxRecDepth 100000 in
set_option maxHeartbeats 1600000 in
theorem impl_ApplySquare_any (p n : Int) (S : Nat → Nat → Nat) (a y : Nat → Nat) (hS : ∀ i, byte (S i)) (ha : byte a) (hy : byte y) (w : World) :
 Calls Try.prog 60 #[.int .i64 p, .int .i64 n, .agg (zb 36 (fl 6 S)), .agg (zb 64 a), .agg (zb 6 y)] w fun e w' => e = .returned (.tuple #[.agg (zb 6 (aqV p n S a y).1), .int .i64 (aqV p n S a y).2]) ∧ Below w.heap.size w w' := by
 go_enter Try.func60, Try.ntmps60
 go_upto_region 1 with (fail)
 rw [← zero6]
 obtain ⟨W1, hwo⟩ : ∃ v : World, v = ((((((w.alloc (.cells #[(.int .i64 p)] 2)).alloc (.cells #[(.int .i64 n)] 2)).alloc (.cells (zb 36 (fl 6 S)) 66)).alloc (.cells (zb 64 (a)) 23)).alloc (.cells (zb 6 (y)) 64)).alloc (.cells (zb 6 (fun _ => 0)) 64)) := ⟨_, rfl⟩
 have B0 : One W1 (w.heap.size) 2 (.int .i64 p) := by subst hwo; have := ((((((One.new w 2 (.int .i64 p)).alloc (.cells #[(.int .i64 n)] 2)).alloc (.cells (zb 36 (fl 6 S)) 66)).alloc (.cells (zb 64 (a)) 23)).alloc (.cells (zb 6 (y)) 64)).alloc (.cells (zb 6 (fun _ => 0)) 64)); simpa using this
 have B1 : One W1 (w.heap.size + 1) 2 (.int .i64 n) := by subst hwo; have := (((((One.new (w.alloc (.cells #[(.int .i64 p)] 2)) 2 (.int .i64 n)).alloc (.cells (zb 36 (fl 6 S)) 66)).alloc (.cells (zb 64 (a)) 23)).alloc (.cells (zb 6 (y)) 64)).alloc (.cells (zb 6 (fun _ => 0)) 64)); simpa using this
 have B2 : Blk W1 (w.heap.size + 1 + 1) 36 66 (fl 6 S) := by subst hwo; have := ((((Blk.new ((w.alloc (.cells #[(.int .i64 p)] 2)).alloc (.cells #[(.int .i64 n)] 2)) 36 66 (fl 6 S)).alloc (.cells (zb 64 (a)) 23)).alloc (.cells (zb 6 (y)) 64)).alloc (.cells (zb 6 (fun _ => 0)) 64)); simpa using this
 have B3 : Blk W1 (w.heap.size + 1 + 1 + 1) 64 23 (a) := by subst hwo; have := (((Blk.new (((w.alloc (.cells #[(.int .i64 p)] 2)).alloc (.cells #[(.int .i64 n)] 2)).alloc (.cells (zb 36 (fl 6 S)) 66)) 64 23 (a)).alloc (.cells (zb 6 (y)) 64)).alloc (.cells (zb 6 (fun _ => 0)) 64)); simpa using this
 have B4 : Blk W1 (w.heap.size + 1 + 1 + 1 + 1) 6 64 (y) := by subst hwo; have := ((Blk.new ((((w.alloc (.cells #[(.int .i64 p)] 2)).alloc (.cells #[(.int .i64 n)] 2)).alloc (.cells (zb 36 (fl 6 S)) 66)).alloc (.cells (zb 64 (a)) 23)) 6 64 (y)).alloc (.cells (zb 6 (fun _ => 0)) 64)); simpa using this
 have B5 : Blk W1 (w.heap.size + 1 + 1 + 1 + 1 + 1) 6 64 (fun _ => 0) := by subst hwo; have := (Blk.new (((((w.alloc (.cells #[(.int .i64 p)] 2)).alloc (.cells #[(.int .i64 n)] 2)).alloc (.cells (zb 36 (fl 6 S)) 66)).alloc (.cells (zb 64 (a)) 23)).alloc (.cells (zb 6 (y)) 64)) 6 64 (fun _ => 0)); simpa using this
 have hb : Below w.heap.size w W1 := by subst hwo; exact (((((((Below.refl _ _).alloc (Nat.le_refl _) _).alloc (by simp) _).alloc (by simp; omega) _).alloc (by simp; omega) _).alloc (by simp; omega) _).alloc (by simp; omega) _)
 rw [← hwo]
 clear hwo
 have hmf : ∀ (fn : Fn) (first cap : Array Value) (w : World), (Instr.makeFunc fn first cap).run Try.prog w = .ok (.func fn first cap) w := fun _ _ _ _ => rfl
 cases hv : (sqB p n S && okA p a && vB p n y) with
 | false =>
  have HV := Lib.hid (aqV_no hv)
  have HDO := Lib.hid (fun (d1 d2 d3 d4 d5 : Nat) (W : World) (h1 : One W d1 2 (.int .i64 p)) (h2 : One W d2 2 (.int .i64 n)) (h3 : Blk W d3 36 66 (fl 6 S)) (h4 : Blk W d4 64 23 a) (h5 : Blk W d5 6 64 y) => door_ApplySquareN (.pointer (some ⟨d1, 0, none⟩)) (.pointer (some ⟨d2, 0, none⟩)) (.pointer (some ⟨d3, 0, none⟩)) (.pointer (some ⟨d4, 0, none⟩)) (.pointer (some ⟨d5, 0, none⟩)) (fun _ => 0) W (fun W' hW => ApplyC_no p n S a y d1 d2 d3 d4 d5 W' hS ha hy hv (h1.zw hW) (h2.zw hW) (h3.zw hW) (h4.zw hW) (h5.zw hW)))
  clear hv
  have lt_B0 := B0.lt
  have lt_B1 := B1.lt
  have lt_B2 := B2.lt
  have lt_B3 := B3.lt
  have lt_B4 := B4.lt
  have lt_B5 := B5.lt
  go_wp2_with (first | rw [← z64] | rw [← zero6] | (go_at_call 122; refine (HDO.out _ _ _ _ _ _ B0 B1 B2 B3 B4).mono ?_; rintro e W2 ⟨rfl, hW2⟩; replace B0 := B0.zw hW2; replace B1 := B1.zw hW2; replace B2 := B2.zw hW2; replace B3 := B3.zw hW2; replace B4 := B4.zw hW2; replace B5 := B5.zw hW2; replace hb := (hb).trans (hW2.mono (hb).size)) | (refine zsr (.tmp 10) (.tmp 14) (fun _ => 0) B5 Try.size64 ?_; try simp only [Act.put]; go_wp2_with fail))
  obtain ⟨W3, hwo, hzQ⟩ : ∃ v : World, v = (W2.setRow (w.heap.size + 1 + 1 + 1 + 1 + 1) (zb 6 (fun _ => 0))) ∧ One v (w.heap.size) 2 (.int .i64 p) ∧ One v (w.heap.size + 1) 2 (.int .i64 n) ∧ Blk v (w.heap.size + 1 + 1) 36 66 (fl 6 S) ∧ Blk v (w.heap.size + 1 + 1 + 1) 64 23 (a) ∧ Blk v (w.heap.size + 1 + 1 + 1 + 1) 6 64 (y) ∧ Blk v (w.heap.size + 1 + 1 + 1 + 1 + 1) 6 64 (fun _ => 0) ∧ Below w.heap.size w v := ⟨_, rfl, (B0.rowOther (by omega)), (B1.rowOther (by omega)), (B2.rowOther (by omega)), (B3.rowOther (by omega)), (B4.rowOther (by omega)), (B5.row (fun _ => 0)), (zr hb (by omega) _)⟩
  rw [← hwo]
  clear hwo B0 B1 B2 B3 B4 B5 hb
  obtain ⟨B0, B1, B2, B3, B4, B5, hb⟩ := hzQ
  try simp only [Act.put, pA, pB, pC]
  refine bodyPost_ret (zrt rfl _ _ _ 6 _ _ rfl B5 _ Try.underlying64 rfl Try.size64) rfl ⟨by first | (rw [HV.out]; rfl) | rw [HV.out], hb⟩
 | true =>
  have hs : sqB p n S = true := by simp only [Bool.and_eq_true] at hv; exact hv.1.1
  have hok : okA p a = true := by simp only [Bool.and_eq_true] at hv; exact hv.1.2
  have hvv : vB p n y = true := by simp only [Bool.and_eq_true] at hv; exact hv.2
  obtain ⟨q, hq, n2, n7⟩ := okP_nat (okA_p hok)
  obtain ⟨p, rfl⟩ : ∃ q : Nat, p = (q : Int) := ⟨q, hq⟩
  clear hq n2 n7
  have HV := Lib.hid (aqV_yes hv)
  have HDO := Lib.hid (fun (d1 d2 d3 d4 d5 : Nat) (W : World) (h1 : One W d1 2 (.int .i64 (p : Int))) (h2 : One W d2 2 (.int .i64 n)) (h3 : Blk W d3 36 66 (fl 6 S)) (h4 : Blk W d4 64 23 a) (h5 : Blk W d5 6 64 y) => door_ApplySquare (.pointer (some ⟨d1, 0, none⟩)) (.pointer (some ⟨d2, 0, none⟩)) (.pointer (some ⟨d3, 0, none⟩)) (.pointer (some ⟨d4, 0, none⟩)) (.pointer (some ⟨d5, 0, none⟩)) (apN p (deg a + 1).toNat S a y (deg a + 1).toNat) W (fun W' hW => ApplyC_ok p n S a y d1 d2 d3 d4 d5 W' hS ha hy hs hok hvv (h1.zw hW) (h2.zw hW) (h3.zw hW) (h4.zw hW) (h5.zw hW)))
  clear hv hok hs hvv
  have lt_B0 := B0.lt
  have lt_B1 := B1.lt
  have lt_B2 := B2.lt
  have lt_B3 := B3.lt
  have lt_B4 := B4.lt
  have lt_B5 := B5.lt
  go_wp2_with (first | rw [← z64] | rw [← zero6] | (go_at_call 122; refine (HDO.out _ _ _ _ _ _ B0 B1 B2 B3 B4).mono ?_; rintro e W2 ⟨rfl, hW2⟩; replace B0 := B0.zw hW2; replace B1 := B1.zw hW2; replace B2 := B2.zw hW2; replace B3 := B3.zw hW2; replace B4 := B4.zw hW2; replace B5 := B5.zw hW2; replace hb := (hb).trans (hW2.mono (hb).size)) | (refine zsr (.tmp 10) (.tmp 14) (apN p (deg a + 1).toNat S a y (deg a + 1).toNat) B5 Try.size64 ?_; try simp only [Act.put]; go_wp2_with fail))
  obtain ⟨W3, hwo, hzQ⟩ : ∃ v : World, v = (W2.setRow (w.heap.size + 1 + 1 + 1 + 1 + 1) (zb 6 (apN p (deg a + 1).toNat S a y (deg a + 1).toNat))) ∧ One v (w.heap.size) 2 (.int .i64 (p : Int)) ∧ One v (w.heap.size + 1) 2 (.int .i64 n) ∧ Blk v (w.heap.size + 1 + 1) 36 66 (fl 6 S) ∧ Blk v (w.heap.size + 1 + 1 + 1) 64 23 (a) ∧ Blk v (w.heap.size + 1 + 1 + 1 + 1) 6 64 (y) ∧ Blk v (w.heap.size + 1 + 1 + 1 + 1 + 1) 6 64 (apN p (deg a + 1).toNat S a y (deg a + 1).toNat) ∧ Below w.heap.size w v := ⟨_, rfl, (B0.rowOther (by omega)), (B1.rowOther (by omega)), (B2.rowOther (by omega)), (B3.rowOther (by omega)), (B4.rowOther (by omega)), (B5.row (apN p (deg a + 1).toNat S a y (deg a + 1).toNat)), (zr hb (by omega) _)⟩
  rw [← hwo]
  clear hwo B0 B1 B2 B3 B4 B5 hb
  obtain ⟨B0, B1, B2, B3, B4, B5, hb⟩ := hzQ
  try simp only [Act.put, pA, pB, pC]
  refine bodyPost_ret (zrt rfl _ _ _ 6 _ _ rfl B5 _ Try.underlying64 rfl Try.size64) rfl ⟨by first | (rw [HV.out]; rfl) | rw [HV.out], hb⟩
end Go.Proofs.Ytobcdekochenfaa
end
section
namespace Go.Proofs.Ytobcdekochenfaa
open Go Go.RowKit
set_option linter.unusedVariables false
set_option linter.unusedSimpArgs false
attribute [local irreducible] deg okA ldS ldN apN rp aqV
set_option maxRecDepth 100000 in
set_option maxHeartbeats 1600000 in
theorem l05Add_any (p c : Nat) (x y : Nat → Nat) (w : World) (p2 : 2 ≤ p) (p7 : p ≤ 7) (lx : ∀ i, i < 6 → x i < p) (ly : ∀ i, i < 6 → y i < p) (hc : c < p) :
 Calls Try.prog 167 #[.int .i64 (p : Int), .agg (zb 6 x), .agg (zb 6 y), .int .i64 (c : Int)] w fun e w' => e = .returned (.agg (zb 6 (fun i => (x i + c * y i) % p))) ∧ Below w.heap.size w w' := by
 have HLX := Lib.hid lx
 have HLY := Lib.hid ly
 have HV := Lib.hid (fun (g : Nat → Nat) (hg : ∀ i, i < 6 → g i = if i < 6 then (x i + c * y i) % p else x i) => zbc (n := 6) (f := g) (g := fun i => (x i + c * y i) % p) (fun i hi => by rw [hg i hi, if_pos hi]))
 clear lx ly
 go_enter Try.func167, Try.ntmps167
 go_upto_region 1 with (fail)
 rw [← zero6]
 obtain ⟨W1, hwo⟩ : ∃ v : World, v = (((w.alloc (.cells (zb 6 (x)) 64)).alloc (.cells (zb 6 (y)) 64)).alloc (.cells (zb 6 (fun _ => 0)) 64)) := ⟨_, rfl⟩
 have B0 : Blk W1 (w.heap.size) 6 64 (x) := by subst hwo; have := (((Blk.new w 6 64 (x)).alloc (.cells (zb 6 (y)) 64)).alloc (.cells (zb 6 (fun _ => 0)) 64)); simpa using this
 have B1 : Blk W1 (w.heap.size + 1) 6 64 (y) := by subst hwo; have := ((Blk.new (w.alloc (.cells (zb 6 (x)) 64)) 6 64 (y)).alloc (.cells (zb 6 (fun _ => 0)) 64)); simpa using this
 have B2 : Blk W1 (w.heap.size + 1 + 1) 6 64 (fun _ => 0) := by subst hwo; have := (Blk.new ((w.alloc (.cells (zb 6 (x)) 64)).alloc (.cells (zb 6 (y)) 64)) 6 64 (fun _ => 0)); simpa using this
 have hb : Below w.heap.size w W1 := by subst hwo; exact ((((Below.refl _ _).alloc (Nat.le_refl _) _).alloc (by simp) _).alloc (by simp; omega) _)
 rw [← hwo]
 clear hwo
 go_wp2_with fail
 go_loopw [9] (fun q wr => ∃ (j : Nat) (f : Nat → Nat), q = .int .i64 (j : Int) ∧ j ≤ 6 ∧ Hid (∀ i, i < 6 → f i = if i < j then (x i + c * y i) % p else x i) ∧ Below w.heap.size w wr ∧ Blk wr (w.heap.size) 6 64 f ∧ Blk wr (w.heap.size + 1) 6 64 y ∧ Blk wr (w.heap.size + 1 + 1) 6 64 (fun _ => 0)) (fun q _ => 6 - (intOf q).toNat)
 case atStart => exact ⟨0, _, rfl, by omega, Lib.hid (fun i hi => by rw [if_neg (Nat.not_lt_zero i)]), hb, B0, B1, B2⟩
 case round =>
  clear hb B0 B1 B2
  obtain ⟨j, f, rfl, hj6, hf, hb, B0, B1, B2⟩ := hrel
  by_cases hj : j < 6
  · have hjI : (j : Int) < 6 := by omega
    obtain ⟨X, hX⟩ : ∃ X, X = f j := ⟨_, rfl⟩
    have hX1 : X = x j := by rw [hX, hf.out j hj, if_neg (by omega)]
    have hXp : X < p := by rw [hX1]; exact HLX.out j hj
    have HX := Lib.hid hX
    obtain ⟨Y, hY⟩ : ∃ Y, Y = y j := ⟨_, rfl⟩
    have hYp : Y < p := by rw [hY]; exact HLY.out j hj
    have HY := Lib.hid hY
    have mb := mul36 p7 hc hYp
    have mb0 : (0 : Int) ≤ (c : Int) * (Y : Int) := Int.mul_nonneg (by omega) (by omega)
    have mb1 : (c : Int) * (Y : Int) ≤ 36 := by exact_mod_cast mb
    obtain ⟨Z, hZ⟩ : ∃ Z, Z = (X + c * Y) % p := ⟨_, rfl⟩
    have hZp : Z < p := by rw [hZ]; exact Nat.mod_lt _ (by omega)
    have tq : ((X : Int) + (c : Int) * (Y : Int)).tmod (p : Int) = (Z : Int) := by
     rw [Int.tmod_eq_emod_of_nonneg (by omega), hZ]
     push_cast
     rfl
    have tr : ((Z : Int) + (p : Int)).tmod (p : Int) = (Z : Int) := by
     rw [Int.tmod_eq_emod_of_nonneg (by omega), Int.add_emod_right, Int.emod_eq_of_lt (by omega) (by omega)]
    have hpz : ¬ (p : Int) = 0 := by omega
    have HN := Lib.hid (show ∀ i, i < 6 → upd f j Z i = if i < j + 1 then (x i + c * y i) % p else x i from fun i hi => by
     unfold upd
     by_cases e : i = j
     · subst e; rw [if_pos rfl, if_pos (by omega), hZ, hX1, hY]
     · rw [if_neg e, hf.out i hi]
       by_cases e2 : i < j
       · rw [if_pos e2, if_pos (by omega)]
       · rw [if_neg e2, if_neg (by omega)])
    clear hX hX1 hY hZ mb
    go_upto_region 4 with (fail)
    have lt_B0 : (w.heap.size) < wr.heap.size := B0.lt
    have lt_B1 : (w.heap.size + 1) < wr.heap.size := B1.lt
    have lt_B2 : (w.heap.size + 1 + 1) < wr.heap.size := B2.lt
    have hbase : w.heap.size ≤ wr.heap.size := hb.size
    refine zq Try.mixed (by kernel_rfl) (by kernel_rfl) (fun v => by (simp only [frL, Act.put, pA, pB, pC, Nat.reduceAdd, Nat.zero_add]; exact rfl))
     (fun L v W2 => Below w.heap.size w W2 ∧ wr.heap.size ≤ W2.heap.size ∧ (∃ g, Blk W2 (w.heap.size) 6 64 (g)) ∧ (L 20 = false → Blk W2 (w.heap.size) 6 64 (f)) ∧ (L 20 = true → Blk W2 (w.heap.size) 6 64 (upd f j Z)) ∧ Blk W2 (w.heap.size + 1) 6 64 (y) ∧ Blk W2 (w.heap.size + 1 + 1) 6 64 (fun _ => 0) ∧ VF L v [some (.int .i64 (j : Int)), some (.int .i64 (j : Int)), some (.pointer (some ⟨w.heap.size, j, none⟩)), some (.int .u8 (X : Int)), some (.int .i64 (X : Int)), some (.int .i64 (c : Int)), some (.int .i64 (j : Int)), some (.pointer (some ⟨w.heap.size + 1, j, none⟩)), some (.int .u8 (Y : Int)), some (.int .i64 (Y : Int)), some (.int .i64 ((c : Int) * (Y : Int))), some (.int .i64 ((X : Int) + (c : Int) * (Y : Int))), some (.int .i64 (p : Int)), some (.int .i64 (Z : Int)), some (.int .i64 (p : Int)), some (.int .i64 ((Z : Int) + (p : Int))), some (.int .i64 (p : Int)), some (.int .i64 (Z : Int)), some (.int .u8 (Z : Int)), some (.pointer (some ⟨w.heap.size, j, none⟩)), none]) ?_ ?_ ?_
    · intro v hv0
      exact ⟨hb.drew, Nat.le_refl _, ⟨_, B0.drew⟩, (fun _ => B0.drew), (fun h => by cases h), B1.drew, B2.drew, VF.start⟩
    · refine (.cons rfl ?_ (.cons rfl ?_ (.cons rfl ?_ (.cons rfl ?_ (.cons rfl ?_ (.cons rfl ?_ (.cons rfl ?_ (.cons rfl ?_ (.cons rfl ?_ (.cons rfl ?_ (.cons rfl ?_ (.cons rfl ?_ (.cons rfl ?_ (.cons rfl ?_ (.cons rfl ?_ (.cons rfl ?_ (.cons rfl ?_ (.cons rfl ?_ (.cons rfl ?_ (.cons rfl ?_ (.cons rfl ?_ (.nil _))))))))))))))))))))))
      all_goals intro L v W2 hd hn ⟨hB, hz, x0, q0, n0, s1, s2, V⟩ K hK
      · go_wp2_with fail
        exact hK _ (.int .i64 (j : Int)) _ (by simp only [Act.put, pA, pB, pC ]) ⟨hB, hz, x0, q0, n0, s1, s2, V.step 0 rfl⟩
      · go_wp2_with fail
        exact hK _ (.int .i64 (j : Int)) _ (by simp only [Act.put, pA, pB, pC ]) ⟨hB, hz, x0, q0, n0, s1, s2, V.step 1 rfl⟩
      · have e1 := V.at (zdq hd 1 rfl) rfl
        go_wp2_with fail
        exact hK _ (.pointer (some ⟨w.heap.size, j, none⟩)) _ (by simp only [Act.put, pA, pB, pC, e1]) ⟨hB, hz, x0, q0, n0, s1, s2, V.step 2 rfl⟩
      · have e2 := V.at (zdq hd 2 rfl) rfl
        have s0 := q0 (by
         cases hL : L 20 with
         | false => rfl
         | true => exact absurd rfl (hn 20 _ rfl hL ⟨3, .phase⟩ (by simp) rfl))
        have cc := s0.cell (i := j) hj
        rw [← HX.out] at cc
        go_wp2_with fail
        exact hK _ (.int .u8 (X : Int)) _ (by simp only [Act.put, pA, pB, pC, e2]) ⟨hB, hz, x0, q0, n0, s1, s2, V.step 3 rfl⟩
      · have e3 := V.at (zdq hd 3 rfl) rfl
        go_wp2_with fail
        exact hK _ (.int .i64 (X : Int)) _ (by simp only [Act.put, pA, pB, pC, e3]) ⟨hB, hz, x0, q0, n0, s1, s2, V.step 4 rfl⟩
      · go_wp2_with fail
        exact hK _ (.int .i64 (c : Int)) _ (by simp only [Act.put, pA, pB, pC ]) ⟨hB, hz, x0, q0, n0, s1, s2, V.step 5 rfl⟩
      · go_wp2_with fail
        exact hK _ (.int .i64 (j : Int)) _ (by simp only [Act.put, pA, pB, pC ]) ⟨hB, hz, x0, q0, n0, s1, s2, V.step 6 rfl⟩
      · have e6 := V.at (zdq hd 6 rfl) rfl
        go_wp2_with fail
        exact hK _ (.pointer (some ⟨w.heap.size + 1, j, none⟩)) _ (by simp only [Act.put, pA, pB, pC, e6]) ⟨hB, hz, x0, q0, n0, s1, s2, V.step 7 rfl⟩
      · have e7 := V.at (zdq hd 7 rfl) rfl
        have cc := s1.cell (i := j) hj
        rw [← HY.out] at cc
        go_wp2_with fail
        exact hK _ (.int .u8 (Y : Int)) _ (by simp only [Act.put, pA, pB, pC, e7]) ⟨hB, hz, x0, q0, n0, s1, s2, V.step 8 rfl⟩
      · have e8 := V.at (zdq hd 8 rfl) rfl
        go_wp2_with fail
        exact hK _ (.int .i64 (Y : Int)) _ (by simp only [Act.put, pA, pB, pC, e8]) ⟨hB, hz, x0, q0, n0, s1, s2, V.step 9 rfl⟩
      · have e5 := V.at (zdq hd 5 rfl) rfl
        have e9 := V.at (zdq hd 9 rfl) rfl
        go_wp2_with fail
        exact hK _ (.int .i64 ((c : Int) * (Y : Int))) _ (by simp only [Act.put, pA, pB, pC, e5, e9]) ⟨hB, hz, x0, q0, n0, s1, s2, V.step 10 rfl⟩
      · have e4 := V.at (zdq hd 4 rfl) rfl
        have e10 := V.at (zdq hd 10 rfl) rfl
        go_wp2_with fail
        exact hK _ (.int .i64 ((X : Int) + (c : Int) * (Y : Int))) _ (by simp only [Act.put, pA, pB, pC, e4, e10]) ⟨hB, hz, x0, q0, n0, s1, s2, V.step 11 rfl⟩
      · go_wp2_with fail
        exact hK _ (.int .i64 (p : Int)) _ (by simp only [Act.put, pA, pB, pC ]) ⟨hB, hz, x0, q0, n0, s1, s2, V.step 12 rfl⟩
      · have e11 := V.at (zdq hd 11 rfl) rfl
        have e12 := V.at (zdq hd 12 rfl) rfl
        go_wp2_with fail
        exact hK _ (.int .i64 (Z : Int)) _ (by simp only [Act.put, pA, pB, pC, e11, e12]) ⟨hB, hz, x0, q0, n0, s1, s2, V.step 13 rfl⟩
      · go_wp2_with fail
        exact hK _ (.int .i64 (p : Int)) _ (by simp only [Act.put, pA, pB, pC ]) ⟨hB, hz, x0, q0, n0, s1, s2, V.step 14 rfl⟩
      · have e13 := V.at (zdq hd 13 rfl) rfl
        have e14 := V.at (zdq hd 14 rfl) rfl
        go_wp2_with fail
        exact hK _ (.int .i64 ((Z : Int) + (p : Int))) _ (by simp only [Act.put, pA, pB, pC, e13, e14]) ⟨hB, hz, x0, q0, n0, s1, s2, V.step 15 rfl⟩
      · go_wp2_with fail
        exact hK _ (.int .i64 (p : Int)) _ (by simp only [Act.put, pA, pB, pC ]) ⟨hB, hz, x0, q0, n0, s1, s2, V.step 16 rfl⟩
      · have e15 := V.at (zdq hd 15 rfl) rfl
        have e16 := V.at (zdq hd 16 rfl) rfl
        go_wp2_with fail
        exact hK _ (.int .i64 (Z : Int)) _ (by simp only [Act.put, pA, pB, pC, e15, e16]) ⟨hB, hz, x0, q0, n0, s1, s2, V.step 17 rfl⟩
      · have e17 := V.at (zdq hd 17 rfl) rfl
        go_wp2_with fail
        exact hK _ (.int .u8 (Z : Int)) _ (by simp only [Act.put, pA, pB, pC, e17]) ⟨hB, hz, x0, q0, n0, s1, s2, V.step 18 rfl⟩
      · have e0 := V.at (zdq hd 0 rfl) rfl
        go_wp2_with fail
        exact hK _ (.pointer (some ⟨w.heap.size, j, none⟩)) _ (by simp only [Act.put, pA, pB, pC, e0]) ⟨hB, hz, x0, q0, n0, s1, s2, V.step 19 rfl⟩
      · have e19 := V.at (zdq hd 19 rfl) rfl
        have e18 := V.at (zdq hd 18 rfl) rfl
        obtain ⟨gz, hk⟩ := x0
        have zz := hk.frozen (j)
        have cc := hk.cell (i := j) (by omega)
        go_wp2_with fail
        exact hK _ undef _ (by simp only [Act.put, pA, pB, pC, e19, e18]) ⟨hB.setCell (by simp <;> omega) _, (by simpa using hz), ⟨_, hk.set (v := Z) rfl⟩, (fun h => absurd h (by simp [setL])), (fun _ => by cases hL : L 20 with | false => exact ((q0 hL).set (v := Z) rfl) | true => exact (((n0 hL).set (v := Z) rfl).congr (fun k _ => by unfold upd; split <;> rfl))), (s1).setOther (by simp <;> omega), (s2).setOther (by simp <;> omega), V.skip 20 rfl⟩
    · intro L v W2 hL ⟨hB, hz, x0, q0, n0, s1, s2, V⟩
      have r0 := n0 (hL 20 (by decide))
      have e0 := V.at (hL 0 (by decide)) rfl
      have e1 := V.at (hL 1 (by decide)) rfl
      have e2 := V.at (hL 2 (by decide)) rfl
      have e3 := V.at (hL 3 (by decide)) rfl
      have e4 := V.at (hL 4 (by decide)) rfl
      have e5 := V.at (hL 5 (by decide)) rfl
      have e6 := V.at (hL 6 (by decide)) rfl
      have e7 := V.at (hL 7 (by decide)) rfl
      have e8 := V.at (hL 8 (by decide)) rfl
      have e9 := V.at (hL 9 (by decide)) rfl
      have e10 := V.at (hL 10 (by decide)) rfl
      have e11 := V.at (hL 11 (by decide)) rfl
      have e12 := V.at (hL 12 (by decide)) rfl
      have e13 := V.at (hL 13 (by decide)) rfl
      have e14 := V.at (hL 14 (by decide)) rfl
      have e15 := V.at (hL 15 (by decide)) rfl
      have e16 := V.at (hL 16 (by decide)) rfl
      have e17 := V.at (hL 17 (by decide)) rfl
      have e18 := V.at (hL 18 (by decide)) rfl
      have e19 := V.at (hL 19 (by decide)) rfl
      clear hL x0 q0 n0 V
      simp only [Exit.then, e0, e1, e2, e3, e4, e5, e6, e7, e8, e9, e10, e11, e12, e13, e14, e15, e16, e17, e18, e19]
      clear e0 e1 e2 e3 e4 e5 e6 e7 e8 e9 e10 e11 e12 e13 e14 e15 e16 e17 e18 e19
      replace B0 := r0
      clear r0
      replace B1 := s1
      clear s1
      replace B2 := s2
      clear s2
      replace hb := hB
      clear hB
      clear hbase hz lt_B0 lt_B1 lt_B2
      go_wp2_with fail
      go_roundw
      case rel => exact ⟨j + 1, _, by go_num, by omega, HN, hb, B0, B1, B2⟩
      case measure => simp [intOf] <;> omega
  · have hjI : ¬ (j : Int) < 6 := by omega
    obtain rfl : j = 6 := by omega
    have HE := Lib.hid (HV.out f hf.out)
    go_upto_region 5 with (fail)
    have lt_B0 := B0.lt
    have lt_B1 := B1.lt
    have lt_B2 := B2.lt
    go_wp2_with (first | rw [← z64] | rw [← zero6] | (refine zla (.tmp 5) B0 Try.underlying64 Try.size64 ?_) | (refine zsr (.tmp 8) (.tmp 34) (f) B2 Try.size64 ?_; try simp only [Act.put]))
    obtain ⟨W2, hwo, hzQ⟩ : ∃ v : World, v = (wr.setRow (w.heap.size + 1 + 1) (zb 6 (f))) ∧ Blk v (w.heap.size) 6 64 (f) ∧ Blk v (w.heap.size + 1) 6 64 (y) ∧ Blk v (w.heap.size + 1 + 1) 6 64 (f) ∧ Below w.heap.size w v := ⟨_, rfl, (B0.rowOther (by omega)), (B1.rowOther (by omega)), (B2.row (f)), (zr hb (by omega) _)⟩
    rw [← hwo]
    clear hwo B0 B1 B2 hb
    obtain ⟨B0, B1, B2, hb⟩ := hzQ
    try simp only [Act.put, pA, pB, pC]
    refine bodyPost_ret (results_any rfl _ _ _ 6 _ _ rfl B2 _ Try.underlying64 rfl Try.size64) rfl ⟨by rw [HE.out], hb⟩
set_option maxRecDepth 100000 in
set_option maxHeartbeats 1600000 in
theorem l05Led_any (p n : Nat) (S : Nat → Nat → Nat) (x : Nat → Nat) (w : World) (p2 : 2 ≤ p) (p7 : p ≤ 7) (lS : ∀ i, i < 6 → ∀ j, j < 6 → S i j < p) (lx : ∀ i, i < 6 → x i < p) (n6 : n ≤ 6) (hz : ∀ i, n ≤ i → i < 6 → x i = 0) :
 Calls Try.prog 168 #[.int .i64 (p : Int), .int .i64 (n : Int), .agg (zb 36 (fl 6 S)), .agg (zb 6 x)] w fun e w' => e = .returned (.agg (zb 6 (ldN p S x))) ∧ Below w.heap.size w w' := by
 have HLS := Lib.hid lS
 have HLX := Lib.hid lx
 have p0 : 0 < p := by omega
 have HRO := Lib.hid (fun i j => led_round (p := p) S x i j)
 have HZ := Lib.hid (fun j => ldS_z S x j)
 have HV := Lib.hid (fun (g : Nat → Nat) (hg : ∀ j, j < 6 → g j = ldS S x n j % p) => zbc (n := 6) (f := g) (g := ldN p S x) (fun j hj => by
  rw [hg j hj, ← ldS_stop (S := S) (j := j) hz (6 - n) (by omega), show n + (6 - n) = 6 by omega]; unfold ldN; rfl))
 clear lS lx hz
 go_enter Try.func168, Try.ntmps168
 go_upto_region 1 with (fail)
 rw [← zero6]
 obtain ⟨W1, hwo⟩ : ∃ v : World, v = (((w.alloc (.cells (zb 36 (fl 6 S)) 66)).alloc (.cells (zb 6 (x)) 64)).alloc (.cells (zb 6 (fun _ => 0)) 64)) := ⟨_, rfl⟩
 have B0 : Blk W1 (w.heap.size) 36 66 (fl 6 S) := by subst hwo; have := (((Blk.new w 36 66 (fl 6 S)).alloc (.cells (zb 6 (x)) 64)).alloc (.cells (zb 6 (fun _ => 0)) 64)); simpa using this
 have B1 : Blk W1 (w.heap.size + 1) 6 64 (x) := by subst hwo; have := ((Blk.new (w.alloc (.cells (zb 36 (fl 6 S)) 66)) 6 64 (x)).alloc (.cells (zb 6 (fun _ => 0)) 64)); simpa using this
 have B2 : Blk W1 (w.heap.size + 1 + 1) 6 64 (fun _ => 0) := by subst hwo; have := (Blk.new ((w.alloc (.cells (zb 36 (fl 6 S)) 66)).alloc (.cells (zb 6 (x)) 64)) 6 64 (fun _ => 0)); simpa using this
 have hb : Below w.heap.size w W1 := by subst hwo; exact ((((Below.refl _ _).alloc (Nat.le_refl _) _).alloc (by simp) _).alloc (by simp; omega) _)
 rw [← hwo]
 clear hwo
 have lt_B0 := B0.lt
 have lt_B1 := B1.lt
 have lt_B2 := B2.lt
 go_upto_region 2 with (first | rw [← z64] | rw [← zero6] | (refine wpList_store_blk rfl 64 (.tmp 9) (.tmp 11) rfl _ 6 (fun _ => 0) rfl rfl 64 _ ((Blk.new W1 6 64 (fun _ => 0))) Try.size64 ?_; try simp only [Act.put]))
 have lt_B0 := B0.lt
 have lt_B1 := B1.lt
 have lt_B2 := B2.lt
 have lhb := hb.size
 obtain ⟨W2, hwo, hzQ⟩ : ∃ v : World, v = ((W1.alloc (.cells (zb 6 (fun _ => 0)) 64)).setRow (W1.heap.size) (zb 6 (fun _ => 0))) ∧ Blk v (w.heap.size) 36 66 (fl 6 S) ∧ Blk v (w.heap.size + 1) 6 64 (x) ∧ Blk v (w.heap.size + 1 + 1) 6 64 (fun _ => 0) ∧ Blk v (W1.heap.size) 6 64 (fun _ => 0) ∧ Below w.heap.size w v := ⟨_, rfl, ((B0.alloc (.cells (zb 6 (fun _ => 0)) 64)).rowOther (by omega)), ((B1.alloc (.cells (zb 6 (fun _ => 0)) 64)).rowOther (by omega)), ((B2.alloc (.cells (zb 6 (fun _ => 0)) 64)).rowOther (by omega)), ((Blk.new W1 6 64 (fun _ => 0)).row (fun _ => 0)), (zr (hb.alloc (by have := hb.size; simp; omega) (.cells (zb 6 (fun _ => 0)) 64)) (by omega) _)⟩
 rw [← hwo]
 clear hwo B0 B1 B2 hb
 obtain ⟨B0, B1, B2, B3, hb⟩ := hzQ
 obtain ⟨N1, hNN⟩ : ∃ n : Nat, n = W1.heap.size := ⟨_, rfl⟩
 rw [← hNN] at lt_B0 lt_B1 lt_B2 lhb B3 ⊢
 clear hNN
 have zN1_0 := lt_B0
 have zN1_1 := lt_B1
 have zN1_2 := lt_B2
 have zN1 := lhb
 clear lt_B0 lt_B1 lt_B2 lhb
 try simp only [Act.put, pA, pB, pC]
 go_wp2_with fail
 go_loopw [10] (fun q wr => ∃ (i : Nat) (f : Nat → Nat), q = .int .i64 (i : Int) ∧ i ≤ n ∧ Hid (∀ j, j < 6 → f j = ldS S x i j % p) ∧ Below w.heap.size w wr ∧ Blk wr (w.heap.size) 36 66 (fl 6 S) ∧ Blk wr (w.heap.size + 1) 6 64 x ∧ Blk wr (w.heap.size + 1 + 1) 6 64 (fun _ => 0) ∧ Blk wr (N1) 6 64 f) (fun q _ => n - (intOf q).toNat)
 case atStart => exact ⟨0, _, rfl, by omega, Lib.hid (fun j hj => by rw [HZ.out, Nat.zero_mod]), hb, B0, B1, B2, B3⟩
 case round =>
  clear hb B0 B1 B2 B3
  obtain ⟨i, f, rfl, hin, hf, hb, B0, B1, B2, B3⟩ := hrel
  by_cases hi : i < n
  · have hiI : (i : Int) < (n : Int) := by omega
    have hi6 : i < 6 := by omega
    have hi6I : (i : Int) < 6 := by omega
    obtain ⟨C, hC⟩ : ∃ C, C = x i := ⟨_, rfl⟩
    have hCp : C < p := by rw [hC]; exact HLX.out i hi6
    have HC := Lib.hid hC
    have cc := B1.cell hi6
    rw [← hC] at cc
    clear hC
    by_cases h0 : C = 0
    · have hne : ((C : Int) != 0) = false := by simp [h0]
      have HN := Lib.hid (show ∀ j, j < 6 → f j = ldS S x (i + 1) j % p from fun j hj => by rw [hf.out j hj, ← HRO.out, ← HC.out, h0, Nat.zero_mul, Nat.add_zero, Nat.mod_mod])
      clear h0
      go_wp2_with fail
      go_roundw
      case rel => exact ⟨i + 1, f, by go_num, by omega, HN, hb, B0, B1, B2, B3⟩
      case measure => simp [intOf] <;> omega
    · have hne : ((C : Int) != 0) = true := by simp; exact h0
      have HAD := Lib.hid (fun W => l05Add_any p C f (S i) W p2 p7 (fun k hk => by rw [hf.out k hk]; exact Nat.mod_lt _ p0) (fun k hk => HLS.out i hi6 k hk) hCp)
      have HN := Lib.hid (show ∀ j, j < 6 → (fun k => (f k + C * S i k) % p) j = ldS S x (i + 1) j % p from fun j hj => by
       show (f j + C * S i j) % p = _
       rw [hf.out j hj, HC.out, HRO.out])
      clear h0
      go_upto_region 6 with (fail)
      clear cc
      have lt_B0 : (w.heap.size) < wr.heap.size := B0.lt
      have lt_B1 : (w.heap.size + 1) < wr.heap.size := B1.lt
      have lt_B2 : (w.heap.size + 1 + 1) < wr.heap.size := B2.lt
      have lt_B3 : (N1) < wr.heap.size := B3.lt
      have hbase : w.heap.size ≤ wr.heap.size := hb.size
      refine zq Try.mixed (by kernel_rfl) (by kernel_rfl) (fun v => by (simp only [frL, Act.put, pA, pB, pC, Nat.reduceAdd, Nat.zero_add]; exact rfl))
       (fun L v W3 => Below w.heap.size w W3 ∧ Kx [N1] wr W3 ∧ (∃ g, Blk W3 (N1) 6 64 (g)) ∧ (L 10 = false → Blk W3 (N1) 6 64 (f)) ∧ (L 10 = true → Blk W3 (N1) 6 64 (fun k => (f k + C * S i k) % p)) ∧ VF L v [some (.int .i64 (p : Int)), some (.agg (zb 6 (f))), some (.int .i64 (i : Int)), some (.pointer (some ⟨w.heap.size, i * 6, none⟩)), some (.agg (zb 6 (S i))), some (.int .i64 (i : Int)), some (.pointer (some ⟨w.heap.size + 1, i, none⟩)), some (.int .u8 (C : Int)), some (.int .i64 (C : Int)), some (.agg (zb 6 (fun k => (f k + C * S i k) % p))), none]) ?_ ?_ ?_
      · intro v hv0
        exact ⟨hb.drew, Kx.start _ _, ⟨_, B3.drew⟩, (fun _ => B3.drew), (fun h => by cases h), VF.start⟩
      · refine (.cons rfl ?_ (.cons rfl ?_ (.cons rfl ?_ (.cons rfl ?_ (.cons rfl ?_ (.cons rfl ?_ (.cons rfl ?_ (.cons rfl ?_ (.cons rfl ?_ (.cons rfl ?_ (.cons rfl ?_ (.nil _))))))))))))
        all_goals intro L v W3 hd hn ⟨hB, hX, x3, q3, n3, V⟩ K hK
        · go_wp2_with fail
          exact hK _ (.int .i64 (p : Int)) _ (by simp only [Act.put, pA, pB, pC ]) ⟨hB, hX, x3, q3, n3, V.step 0 rfl⟩
        · have s3 := q3 (by
           cases hL : L 10 with
           | false => rfl
           | true => exact absurd rfl (hn 10 _ rfl hL ⟨1, .phase⟩ (by simp) rfl))
          refine zlc s3 Try.underlying64 Try.size64 ?_
          exact hK _ _ _ rfl ⟨hB, hX, x3, q3, n3, V.step 1 rfl⟩
        · go_wp2_with fail
          exact hK _ (.int .i64 (i : Int)) _ (by simp only [Act.put, pA, pB, pC ]) ⟨hB, hX, x3, q3, n3, V.step 2 rfl⟩
        · have e2 := V.at (zdq hd 2 rfl) rfl
          go_wp2_with fail
          exact hK _ (.pointer (some ⟨w.heap.size, i * 6, none⟩)) _ (by simp only [Act.put, pA, pB, pC, e2]) ⟨hB, hX, x3, q3, n3, V.step 3 rfl⟩
        · have e3 := V.at (zdq hd 3 rfl) rfl
          refine wp_load_mid 64 _ rfl _ (i * 6) e3 _ _ (((B0.kx hX (by simp <;> omega))).sq (i := i) hi6) Try.underlying64 rfl (by rw [zl]; exact Try.size64) ?_
          exact hK _ _ _ rfl ⟨hB, hX, x3, q3, n3, V.step 4 rfl⟩
        · go_wp2_with fail
          exact hK _ (.int .i64 (i : Int)) _ (by simp only [Act.put, pA, pB, pC ]) ⟨hB, hX, x3, q3, n3, V.step 5 rfl⟩
        · have e5 := V.at (zdq hd 5 rfl) rfl
          go_wp2_with fail
          exact hK _ (.pointer (some ⟨w.heap.size + 1, i, none⟩)) _ (by simp only [Act.put, pA, pB, pC, e5]) ⟨hB, hX, x3, q3, n3, V.step 6 rfl⟩
        · have e6 := V.at (zdq hd 6 rfl) rfl
          have cc := (B1.kx hX (by simp <;> omega)).cell (i := i) hi6
          rw [← HC.out] at cc
          go_wp2_with fail
          exact hK _ (.int .u8 (C : Int)) _ (by simp only [Act.put, pA, pB, pC, e6]) ⟨hB, hX, x3, q3, n3, V.step 7 rfl⟩
        · have e7 := V.at (zdq hd 7 rfl) rfl
          go_wp2_with fail
          exact hK _ (.int .i64 (C : Int)) _ (by simp only [Act.put, pA, pB, pC, e7]) ⟨hB, hX, x3, q3, n3, V.step 8 rfl⟩
        · have e0 := V.at (zdq hd 0 rfl) rfl
          have e1 := V.at (zdq hd 1 rfl) rfl
          have e4 := V.at (zdq hd 4 rfl) rfl
          have e8 := V.at (zdq hd 8 rfl) rfl
          go_wp2_with (go_at_call 167; refine (HAD.out _).mono ?_; rintro e wy ⟨rfl, hy⟩)
          exact hK _ (.agg (zb 6 (fun k => (f k + C * S i k) % p))) _ (by simp only [Act.put, pA, pB, pC, e0, e1, e4, e8]) ⟨hB.trans (hy.mono hB.size), hX.below hy, (let ⟨g, h⟩ := x3; ⟨g, h.zw hy⟩), (fun h => (q3 h).below hy (q3 h).lt), (fun h => (n3 h).below hy (n3 h).lt), V.step 9 rfl⟩
        · have e9 := V.at (zdq hd 9 rfl) rfl
          obtain ⟨gz, hk⟩ := x3
          refine zsb 64 _ _ rfl _ 6 (fun k => (f k + C * S i k) % p) rfl e9 64 gz hk Try.size64 ?_
          exact hK _ undef _ rfl ⟨zr hB (by omega) _, hX.row (by simp) _, ⟨_, hk.row _⟩, (fun h => absurd h (by simp [setL])), (fun _ => hk.row _), V.skip 10 rfl⟩
      · intro L v W3 hL ⟨hB, hX, x3, q3, n3, V⟩
        have r3 := n3 (hL 10 (by decide))
        have e0 := V.at (hL 0 (by decide)) rfl
        have e1 := V.at (hL 1 (by decide)) rfl
        have e2 := V.at (hL 2 (by decide)) rfl
        have e3 := V.at (hL 3 (by decide)) rfl
        have e4 := V.at (hL 4 (by decide)) rfl
        have e5 := V.at (hL 5 (by decide)) rfl
        have e6 := V.at (hL 6 (by decide)) rfl
        have e7 := V.at (hL 7 (by decide)) rfl
        have e8 := V.at (hL 8 (by decide)) rfl
        have e9 := V.at (hL 9 (by decide)) rfl
        clear hL x3 q3 n3 V
        replace B0 := B0.kx hX (by simp <;> omega)
        replace B1 := B1.kx hX (by simp <;> omega)
        replace B2 := B2.kx hX (by simp <;> omega)
        clear hX
        simp only [Exit.then, e0, e1, e2, e3, e4, e5, e6, e7, e8, e9]
        clear e0 e1 e2 e3 e4 e5 e6 e7 e8 e9
        replace B3 := r3
        clear r3
        replace hb := hB
        clear hB
        clear hbase lt_B0 lt_B1 lt_B2 lt_B3
        go_wp2_with fail
        go_roundw
        case rel => exact ⟨i + 1, _, by go_num, by omega, HN, hb, B0, B1, B2, B3⟩
        case measure => simp [intOf] <;> omega
  · have hiI : ¬ (i : Int) < (n : Int) := by omega
    obtain rfl : i = n := by omega
    have HE := Lib.hid (HV.out f hf.out)
    go_upto_region 7 with (fail)
    have lt_B0 := B0.lt
    have lt_B1 := B1.lt
    have lt_B2 := B2.lt
    have lt_B3 := B3.lt
    go_wp2_with (first | rw [← z64] | rw [← zero6] | (refine zla (.tmp 9) B3 Try.underlying64 Try.size64 ?_) | (refine zsr (.tmp 8) (.tmp 31) (f) B2 Try.size64 ?_; try simp only [Act.put]))
    obtain ⟨W3, hwo, hzQ⟩ : ∃ v : World, v = (wr.setRow (w.heap.size + 1 + 1) (zb 6 (f))) ∧ Blk v (w.heap.size) 36 66 (fl 6 S) ∧ Blk v (w.heap.size + 1) 6 64 (x) ∧ Blk v (w.heap.size + 1 + 1) 6 64 (f) ∧ Blk v (N1) 6 64 (f) ∧ Below w.heap.size w v := ⟨_, rfl, (B0.rowOther (by omega)), (B1.rowOther (by omega)), (B2.row (f)), (B3.rowOther (by omega)), (zr hb (by omega) _)⟩
    rw [← hwo]
    clear hwo B0 B1 B2 B3 hb
    obtain ⟨B0, B1, B2, B3, hb⟩ := hzQ
    try simp only [Act.put, pA, pB, pC]
    refine bodyPost_ret (results_any rfl _ _ _ 6 _ _ rfl B2 _ Try.underlying64 rfl Try.size64) rfl ⟨by rw [HE.out], hb⟩
set_option maxRecDepth 100000 in
set_option maxHeartbeats 1600000 in
theorem l05Apply_any (p n : Nat) (S : Nat → Nat → Nat) (a y : Nat → Nat) (w : World) (p2 : 2 ≤ p) (p7 : p ≤ 7) (lS : ∀ i, i < 6 → ∀ j, j < 6 → S i j < p) (la : ∀ k, k < 64 → a k < p) (ly : ∀ k, k < 6 → y k < p) (n6 : n ≤ 6) (hcol : ∀ i, i < 6 → ∀ j, n ≤ j → j < 6 → S i j = 0) (hyz : ∀ j, n ≤ j → j < 6 → y j = 0) :
 Calls Try.prog 121 #[.int .i64 (p : Int), .int .i64 (n : Int), .agg (zb 36 (fl 6 S)), .agg (zb 64 a), .agg (zb 6 y)] w fun e w' => e = .returned (.agg (zb 6 (apN p (deg a + 1).toNat S a y (deg a + 1).toNat))) ∧ Below w.heap.size w w' := by
 have p0 : 0 < p := by omega
 obtain ⟨gb1, gb2⟩ := zdb a
 obtain ⟨NN, hNN⟩ : ∃ NN : Nat, deg a = (NN : Int) - 1 := ⟨(deg a + 1).toNat, by omega⟩
 have HD := Lib.hid hNN
 have hN6 : NN ≤ 64 := by omega
 have HT := Lib.hid (show (deg a + 1).toNat = NN by omega)
 have HLD := Lib.hid (fun j W => l05Led_any p n S (apN p NN S a y j) W p2 p7 lS (fun i _ => apN_lt p0 S a y j i) n6 (fun i h1 h2 => apN_zero hcol hyz j i h1 h2))
 have HAD := Lib.hid (fun q j (hq : NN - 1 - j = q) (laq : a q < p) W => show Calls Try.prog 167 #[.int .i64 (p : Int), .agg (zb 6 (ldN p S (apN p NN S a y j))), .agg (zb 6 y), .int .i64 (a q : Int)] W fun e w' => e = .returned (.agg (zb 6 (apN p NN S a y (j + 1)))) ∧ Below W.heap.size W w' from by
  have h := l05Add_any p (a q) (ldN p S (apN p NN S a y j)) y W p2 p7 (fun i _ => ldN_lt p0 _ _ i) ly laq
  rw [apN_s, hq]
  exact h)
 have HZ := Lib.hid (apN_z p NN S a y)
 have HLA := Lib.hid la
 clear hNN lS la ly hcol hyz
 go_enter Try.func121, Try.ntmps121
 go_upto_region 1 with (fail)
 rw [← zero6]
 obtain ⟨W1, hwo⟩ : ∃ v : World, v = ((((w.alloc (.cells (zb 36 (fl 6 S)) 66)).alloc (.cells (zb 64 (a)) 23)).alloc (.cells (zb 6 (y)) 64)).alloc (.cells (zb 6 (fun _ => 0)) 64)) := ⟨_, rfl⟩
 have B0 : Blk W1 (w.heap.size) 36 66 (fl 6 S) := by subst hwo; have := ((((Blk.new w 36 66 (fl 6 S)).alloc (.cells (zb 64 (a)) 23)).alloc (.cells (zb 6 (y)) 64)).alloc (.cells (zb 6 (fun _ => 0)) 64)); simpa using this
 have B1 : Blk W1 (w.heap.size + 1) 64 23 (a) := by subst hwo; have := (((Blk.new (w.alloc (.cells (zb 36 (fl 6 S)) 66)) 64 23 (a)).alloc (.cells (zb 6 (y)) 64)).alloc (.cells (zb 6 (fun _ => 0)) 64)); simpa using this
 have B2 : Blk W1 (w.heap.size + 1 + 1) 6 64 (y) := by subst hwo; have := ((Blk.new ((w.alloc (.cells (zb 36 (fl 6 S)) 66)).alloc (.cells (zb 64 (a)) 23)) 6 64 (y)).alloc (.cells (zb 6 (fun _ => 0)) 64)); simpa using this
 have B3 : Blk W1 (w.heap.size + 1 + 1 + 1) 6 64 (fun _ => 0) := by subst hwo; have := (Blk.new (((w.alloc (.cells (zb 36 (fl 6 S)) 66)).alloc (.cells (zb 64 (a)) 23)).alloc (.cells (zb 6 (y)) 64)) 6 64 (fun _ => 0)); simpa using this
 have hb : Below w.heap.size w W1 := by subst hwo; exact (((((Below.refl _ _).alloc (Nat.le_refl _) _).alloc (by simp) _).alloc (by simp; omega) _).alloc (by simp; omega) _)
 rw [← hwo]
 clear hwo
 have lt_B0 := B0.lt
 have lt_B1 := B1.lt
 have lt_B2 := B2.lt
 have lt_B3 := B3.lt
 go_upto_region 2 with (first | rw [← z64] | rw [← zero6] | (refine wpList_store_blk rfl 64 (.tmp 11) (.tmp 13) rfl _ 6 (fun _ => 0) rfl rfl 64 _ ((Blk.new W1 6 64 (fun _ => 0))) Try.size64 ?_; try simp only [Act.put]))
 have lt_B0 := B0.lt
 have lt_B1 := B1.lt
 have lt_B2 := B2.lt
 have lt_B3 := B3.lt
 have lhb := hb.size
 obtain ⟨W2, hwo, hzQ⟩ : ∃ v : World, v = ((W1.alloc (.cells (zb 6 (fun _ => 0)) 64)).setRow (W1.heap.size) (zb 6 (fun _ => 0))) ∧ Blk v (w.heap.size) 36 66 (fl 6 S) ∧ Blk v (w.heap.size + 1) 64 23 (a) ∧ Blk v (w.heap.size + 1 + 1) 6 64 (y) ∧ Blk v (w.heap.size + 1 + 1 + 1) 6 64 (fun _ => 0) ∧ Blk v (W1.heap.size) 6 64 (fun _ => 0) ∧ Below w.heap.size w v := ⟨_, rfl, ((B0.alloc (.cells (zb 6 (fun _ => 0)) 64)).rowOther (by omega)), ((B1.alloc (.cells (zb 6 (fun _ => 0)) 64)).rowOther (by omega)), ((B2.alloc (.cells (zb 6 (fun _ => 0)) 64)).rowOther (by omega)), ((B3.alloc (.cells (zb 6 (fun _ => 0)) 64)).rowOther (by omega)), ((Blk.new W1 6 64 (fun _ => 0)).row (fun _ => 0)), (zr (hb.alloc (by have := hb.size; simp; omega) (.cells (zb 6 (fun _ => 0)) 64)) (by omega) _)⟩
 rw [← hwo]
 clear hwo B0 B1 B2 B3 hb
 obtain ⟨B0, B1, B2, B3, B4, hb⟩ := hzQ
 obtain ⟨N1, hNN⟩ : ∃ n : Nat, n = W1.heap.size := ⟨_, rfl⟩
 rw [← hNN] at lt_B0 lt_B1 lt_B2 lt_B3 lhb B4 ⊢
 clear hNN
 have zN1_0 := lt_B0
 have zN1_1 := lt_B1
 have zN1_2 := lt_B2
 have zN1_3 := lt_B3
 have zN1 := lhb
 clear lt_B0 lt_B1 lt_B2 lt_B3 lhb
 try simp only [Act.put, pA, pB, pC]
 go_upto_region 99 with (first | (refine zla (.tmp 8) B1 Try.underlying23 Try.size23 ?_) | (go_at_call 74; refine (l01Deg_any a _).mono ?_; rintro e W3 ⟨rfl, hW3⟩; replace B0 := B0.zw hW3; replace B1 := B1.zw hW3; replace B2 := B2.zw hW3; replace B3 := B3.zw hW3; replace B4 := B4.zw hW3; replace hb := (hb).trans (hW3.mono (hb).size); rw [HD.out]))
 go_loopw [12] (fun i wr => ∃ q j : Nat, Hid (q + j = NN) ∧ i = .int .i64 ((q : Int) - 1) ∧ Below w.heap.size w wr ∧ Blk wr (w.heap.size) 36 66 (fl 6 S) ∧ Blk wr (w.heap.size + 1) 64 23 a ∧ Blk wr (w.heap.size + 1 + 1) 6 64 y ∧ Blk wr (w.heap.size + 1 + 1 + 1) 6 64 (fun _ => 0) ∧ Blk wr (N1) 6 64 (apN p NN S a y j)) (fun i _ => (intOf i + 1).toNat)
 case atStart => exact ⟨NN, 0, Lib.hid (by omega), rfl, hb, B0, B1, B2, B3, by rw [HZ.out]; exact B4⟩
 case round =>
  clear hb B0 B1 B2 B3 B4
  obtain ⟨q, j, hqj, rfl, hb, B0, B1, B2, B3, B4⟩ := hrel
  by_cases hq0 : q = 0
  · subst hq0
    have ej : j = NN := by have := hqj.out; omega
    rw [ej] at B4
    clear hqj ej
    go_upto_region 6 with (fail)
    have lt_B0 := B0.lt
    have lt_B1 := B1.lt
    have lt_B2 := B2.lt
    have lt_B3 := B3.lt
    have lt_B4 := B4.lt
    go_wp2_with (first | rw [← z64] | rw [← zero6] | (refine zla (.tmp 11) B4 Try.underlying64 Try.size64 ?_) | (refine zsr (.tmp 10) (.tmp 32) (apN p NN S a y NN) B3 Try.size64 ?_; try simp only [Act.put]))
    obtain ⟨W4, hwo, hzQ⟩ : ∃ v : World, v = (wr.setRow (w.heap.size + 1 + 1 + 1) (zb 6 (apN p NN S a y NN))) ∧ Blk v (w.heap.size) 36 66 (fl 6 S) ∧ Blk v (w.heap.size + 1) 64 23 (a) ∧ Blk v (w.heap.size + 1 + 1) 6 64 (y) ∧ Blk v (w.heap.size + 1 + 1 + 1) 6 64 (apN p NN S a y NN) ∧ Blk v (N1) 6 64 (apN p NN S a y NN) ∧ Below w.heap.size w v := ⟨_, rfl, (B0.rowOther (by omega)), (B1.rowOther (by omega)), (B2.rowOther (by omega)), (B3.row (apN p NN S a y NN)), (B4.rowOther (by omega)), (zr hb (by omega) _)⟩
    rw [← hwo]
    clear hwo B0 B1 B2 B3 B4 hb
    obtain ⟨B0, B1, B2, B3, B4, hb⟩ := hzQ
    try simp only [Act.put, pA, pB, pC]
    refine bodyPost_ret (results_any rfl _ _ _ 6 _ _ rfl B3 _ Try.underlying64 rfl Try.size64) rfl ⟨by rw [HT.out], hb⟩
  · obtain ⟨q, rfl⟩ : ∃ t, q = t + 1 := ⟨q - 1, by omega⟩
    rw [show ((q + 1 : Nat) : Int) - 1 = (q : Int) by omega]
    have hq6 : q < 64 := by have := hqj.out; omega
    have laq := HLA.out q hq6
    have HS1 := Lib.hid (fun W => HLD.out j W)
    have HSU1 := Lib.hid (fun W => HAD.out q j (by have := hqj.out; omega) laq W)
    obtain ⟨C, hC⟩ : ∃ C, C = a q := ⟨_, rfl⟩
    rw [← hC] at laq HSU1
    have HC := Lib.hid hC
    clear hC
    go_upto_region 5 with (fail)
    have lt_B0 : (w.heap.size) < wr.heap.size := B0.lt
    have lt_B1 : (w.heap.size + 1) < wr.heap.size := B1.lt
    have lt_B2 : (w.heap.size + 1 + 1) < wr.heap.size := B2.lt
    have lt_B3 : (w.heap.size + 1 + 1 + 1) < wr.heap.size := B3.lt
    have lt_B4 : (N1) < wr.heap.size := B4.lt
    have hbase : w.heap.size ≤ wr.heap.size := hb.size
    refine zq Try.mixed (by kernel_rfl) (by kernel_rfl) (fun v => by (simp only [frL, Act.put, pA, pB, pC, Nat.reduceAdd, Nat.zero_add]; exact rfl))
     (fun L v W4 => Below w.heap.size w W4 ∧ Kx [N1] wr W4 ∧ (∃ g, Blk W4 (N1) 6 64 (g)) ∧ (L 12 = false → Blk W4 (N1) 6 64 (apN p NN S a y j)) ∧ (L 12 = true → Blk W4 (N1) 6 64 (apN p NN S a y (j + 1))) ∧ VF L v [some (.int .i64 (p : Int)), some (.int .i64 (p : Int)), some (.int .i64 (n : Int)), some (.agg (zb 36 (fl 6 S))), some (.agg (zb 6 (apN p NN S a y j))), some (.agg (zb 6 (ldN p S (apN p NN S a y j)))), some (.agg (zb 6 (y))), some (.int .i64 (q : Int)), some (.pointer (some ⟨w.heap.size + 1, q, none⟩)), some (.int .u8 (C : Int)), some (.int .i64 (C : Int)), some (.agg (zb 6 (apN p NN S a y (j + 1)))), none]) ?_ ?_ ?_
    · intro v hv0
      exact ⟨hb.drew, Kx.start _ _, ⟨_, B4.drew⟩, (fun _ => B4.drew), (fun h => by cases h), VF.start⟩
    · refine (.cons rfl ?_ (.cons rfl ?_ (.cons rfl ?_ (.cons rfl ?_ (.cons rfl ?_ (.cons rfl ?_ (.cons rfl ?_ (.cons rfl ?_ (.cons rfl ?_ (.cons rfl ?_ (.cons rfl ?_ (.cons rfl ?_ (.cons rfl ?_ (.nil _))))))))))))))
      all_goals intro L v W4 hd hn ⟨hB, hX, x4, q4, n4, V⟩ K hK
      · go_wp2_with fail
        exact hK _ (.int .i64 (p : Int)) _ (by simp only [Act.put, pA, pB, pC ]) ⟨hB, hX, x4, q4, n4, V.step 0 rfl⟩
      · go_wp2_with fail
        exact hK _ (.int .i64 (p : Int)) _ (by simp only [Act.put, pA, pB, pC ]) ⟨hB, hX, x4, q4, n4, V.step 1 rfl⟩
      · go_wp2_with fail
        exact hK _ (.int .i64 (n : Int)) _ (by simp only [Act.put, pA, pB, pC ]) ⟨hB, hX, x4, q4, n4, V.step 2 rfl⟩
      · refine wp_load_any 66 _ rfl _ rfl 36 66 _ (B0.kx hX (by simp <;> omega)) _ Try.underlying66 rfl Try.size66 ?_
        exact hK _ _ _ rfl ⟨hB, hX, x4, q4, n4, V.step 3 rfl⟩
      · have s4 := q4 (by
         cases hL : L 12 with
         | false => rfl
         | true => exact absurd rfl (hn 12 _ rfl hL ⟨4, .phase⟩ (by simp) rfl))
        refine zlc s4 Try.underlying64 Try.size64 ?_
        exact hK _ _ _ rfl ⟨hB, hX, x4, q4, n4, V.step 4 rfl⟩
      · have e1 := V.at (zdq hd 1 rfl) rfl
        have e2 := V.at (zdq hd 2 rfl) rfl
        have e3 := V.at (zdq hd 3 rfl) rfl
        have e4 := V.at (zdq hd 4 rfl) rfl
        go_wp2_with (go_at_call 168; refine (HS1.out _).mono ?_; rintro e wy ⟨rfl, hy⟩)
        exact hK _ (.agg (zb 6 (ldN p S (apN p NN S a y j)))) _ (by simp only [Act.put, pA, pB, pC, e1, e2, e3, e4]) ⟨hB.trans (hy.mono hB.size), hX.below hy, (let ⟨g, h⟩ := x4; ⟨g, h.zw hy⟩), (fun h => (q4 h).below hy (q4 h).lt), (fun h => (n4 h).below hy (n4 h).lt), V.step 5 rfl⟩
      · refine wp_load_any 64 _ rfl _ rfl 6 64 _ (B2.kx hX (by simp <;> omega)) _ Try.underlying64 rfl Try.size64 ?_
        exact hK _ _ _ rfl ⟨hB, hX, x4, q4, n4, V.step 6 rfl⟩
      · go_wp2_with fail
        exact hK _ (.int .i64 (q : Int)) _ (by simp only [Act.put, pA, pB, pC ]) ⟨hB, hX, x4, q4, n4, V.step 7 rfl⟩
      · have e7 := V.at (zdq hd 7 rfl) rfl
        go_wp2_with fail
        exact hK _ (.pointer (some ⟨w.heap.size + 1, q, none⟩)) _ (by simp only [Act.put, pA, pB, pC, e7]) ⟨hB, hX, x4, q4, n4, V.step 8 rfl⟩
      · have e8 := V.at (zdq hd 8 rfl) rfl
        have cc := (B1.kx hX (by simp <;> omega)).cell (i := q) hq6
        rw [← HC.out] at cc
        go_wp2_with fail
        exact hK _ (.int .u8 (C : Int)) _ (by simp only [Act.put, pA, pB, pC, e8]) ⟨hB, hX, x4, q4, n4, V.step 9 rfl⟩
      · have e9 := V.at (zdq hd 9 rfl) rfl
        go_wp2_with fail
        exact hK _ (.int .i64 (C : Int)) _ (by simp only [Act.put, pA, pB, pC, e9]) ⟨hB, hX, x4, q4, n4, V.step 10 rfl⟩
      · have e0 := V.at (zdq hd 0 rfl) rfl
        have e5 := V.at (zdq hd 5 rfl) rfl
        have e6 := V.at (zdq hd 6 rfl) rfl
        have e10 := V.at (zdq hd 10 rfl) rfl
        go_wp2_with (go_at_call 167; refine (HSU1.out _).mono ?_; rintro e wy ⟨rfl, hy⟩)
        exact hK _ (.agg (zb 6 (apN p NN S a y (j + 1)))) _ (by simp only [Act.put, pA, pB, pC, e0, e5, e6, e10]) ⟨hB.trans (hy.mono hB.size), hX.below hy, (let ⟨g, h⟩ := x4; ⟨g, h.zw hy⟩), (fun h => (q4 h).below hy (q4 h).lt), (fun h => (n4 h).below hy (n4 h).lt), V.step 11 rfl⟩
      · have e11 := V.at (zdq hd 11 rfl) rfl
        obtain ⟨gz, hk⟩ := x4
        refine zsb 64 _ _ rfl _ 6 (apN p NN S a y (j + 1)) rfl e11 64 gz hk Try.size64 ?_
        exact hK _ undef _ rfl ⟨zr hB (by omega) _, hX.row (by simp) _, ⟨_, hk.row _⟩, (fun h => absurd h (by simp [setL])), (fun _ => hk.row _), V.skip 12 rfl⟩
    · intro L v W4 hL ⟨hB, hX, x4, q4, n4, V⟩
      have r4 := n4 (hL 12 (by decide))
      have e0 := V.at (hL 0 (by decide)) rfl
      have e1 := V.at (hL 1 (by decide)) rfl
      have e2 := V.at (hL 2 (by decide)) rfl
      have e3 := V.at (hL 3 (by decide)) rfl
      have e4 := V.at (hL 4 (by decide)) rfl
      have e5 := V.at (hL 5 (by decide)) rfl
      have e6 := V.at (hL 6 (by decide)) rfl
      have e7 := V.at (hL 7 (by decide)) rfl
      have e8 := V.at (hL 8 (by decide)) rfl
      have e9 := V.at (hL 9 (by decide)) rfl
      have e10 := V.at (hL 10 (by decide)) rfl
      have e11 := V.at (hL 11 (by decide)) rfl
      clear hL x4 q4 n4 V
      replace B0 := B0.kx hX (by simp <;> omega)
      replace B1 := B1.kx hX (by simp <;> omega)
      replace B2 := B2.kx hX (by simp <;> omega)
      replace B3 := B3.kx hX (by simp <;> omega)
      clear hX
      simp only [Exit.then, e0, e1, e2, e3, e4, e5, e6, e7, e8, e9, e10, e11]
      clear e0 e1 e2 e3 e4 e5 e6 e7 e8 e9 e10 e11
      replace B4 := r4
      clear r4
      replace hb := hB
      clear hB
      clear hbase lt_B0 lt_B1 lt_B2 lt_B3 lt_B4
      go_wp2_with fail
      go_roundw
      case rel => exact ⟨q, j + 1, Lib.hid (by have := hqj.out; omega), rfl, hb, B0, B1, B2, B3, B4⟩
      case measure => simp [intOf] <;> omega
set_option maxRecDepth 100000 in
set_option maxHeartbeats 1600000 in
theorem spec_ApplySquare_any (p n : Int) (S : Nat → Nat → Nat) (a y : Nat → Nat) (hS : ∀ i, byte (S i)) (ha : byte a) (hy : byte y) (w : World) :
 Calls Try.prog 57 #[.int .i64 p, .int .i64 n, .agg (zb 36 (fl 6 S)), .agg (zb 64 a), .agg (zb 6 y)] w fun e w' => e = .returned (.tuple #[.agg (zb 6 (aqV p n S a y).1), .int .i64 (aqV p n S a y).2]) ∧ Below w.heap.size w w' := by
 go_enter Try.func57, Try.ntmps57
 go_upto_region 1 with (fail)
 rw [← zero6]
 obtain ⟨W1, hwo⟩ : ∃ v : World, v = ((((w.alloc (.cells (zb 36 (fl 6 S)) 66)).alloc (.cells (zb 64 (a)) 23)).alloc (.cells (zb 6 (y)) 64)).alloc (.cells (zb 6 (fun _ => 0)) 64)) := ⟨_, rfl⟩
 have B0 : Blk W1 (w.heap.size) 36 66 (fl 6 S) := by subst hwo; have := ((((Blk.new w 36 66 (fl 6 S)).alloc (.cells (zb 64 (a)) 23)).alloc (.cells (zb 6 (y)) 64)).alloc (.cells (zb 6 (fun _ => 0)) 64)); simpa using this
 have B1 : Blk W1 (w.heap.size + 1) 64 23 (a) := by subst hwo; have := (((Blk.new (w.alloc (.cells (zb 36 (fl 6 S)) 66)) 64 23 (a)).alloc (.cells (zb 6 (y)) 64)).alloc (.cells (zb 6 (fun _ => 0)) 64)); simpa using this
 have B2 : Blk W1 (w.heap.size + 1 + 1) 6 64 (y) := by subst hwo; have := ((Blk.new ((w.alloc (.cells (zb 36 (fl 6 S)) 66)).alloc (.cells (zb 64 (a)) 23)) 6 64 (y)).alloc (.cells (zb 6 (fun _ => 0)) 64)); simpa using this
 have B3 : Blk W1 (w.heap.size + 1 + 1 + 1) 6 64 (fun _ => 0) := by subst hwo; have := (Blk.new (((w.alloc (.cells (zb 36 (fl 6 S)) 66)).alloc (.cells (zb 64 (a)) 23)).alloc (.cells (zb 6 (y)) 64)) 6 64 (fun _ => 0)); simpa using this
 have hb : Below w.heap.size w W1 := by subst hwo; exact (((((Below.refl _ _).alloc (Nat.le_refl _) _).alloc (by simp) _).alloc (by simp; omega) _).alloc (by simp; omega) _)
 rw [← hwo]
 clear hwo
 cases hs : sqB p n S with
 | false =>
  have HV := Lib.hid (aqV_no (p := p) (n := n) (S := S) (a := a) (v := y) (by rw [hs]; rfl))
  go_upto_region 2 with (first | (refine zla (.tmp 7) B0 Try.underlying66 Try.size66 ?_) | (go_at_call 119; refine (l05Is_any _ _ S hS _).mono ?_; rintro e W2 ⟨rfl, hW2⟩; replace B0 := B0.zw hW2; replace B1 := B1.zw hW2; replace B2 := B2.zw hW2; replace B3 := B3.zw hW2; replace hb := (hb).trans (hW2.mono (hb).size); rw [hs]))
  have lt_B0 := B0.lt
  have lt_B1 := B1.lt
  have lt_B2 := B2.lt
  have lt_B3 := B3.lt
  go_wp2_with (first | rw [← z64] | rw [← zero6] | (refine zsr (.tmp 10) (.tmp 30) (fun _ => 0) B3 Try.size64 ?_; try simp only [Act.put]; go_wp2_with fail))
  obtain ⟨W3, hwo, hzQ⟩ : ∃ v : World, v = (W2.setRow (w.heap.size + 1 + 1 + 1) (zb 6 (fun _ => 0))) ∧ Blk v (w.heap.size) 36 66 (fl 6 S) ∧ Blk v (w.heap.size + 1) 64 23 (a) ∧ Blk v (w.heap.size + 1 + 1) 6 64 (y) ∧ Blk v (w.heap.size + 1 + 1 + 1) 6 64 (fun _ => 0) ∧ Below w.heap.size w v := ⟨_, rfl, (B0.rowOther (by omega)), (B1.rowOther (by omega)), (B2.rowOther (by omega)), (B3.row (fun _ => 0)), (zr hb (by omega) _)⟩
  rw [← hwo]
  clear hwo B0 B1 B2 B3 hb
  obtain ⟨B0, B1, B2, B3, hb⟩ := hzQ
  try simp only [Act.put, pA, pB, pC]
  refine bodyPost_ret (zrt rfl _ _ _ 6 _ _ rfl B3 _ Try.underlying64 rfl Try.size64) rfl ⟨by first | (rw [HV.out]; rfl) | rw [HV.out], hb⟩
 | true =>
  cases hok : okA p a with
  | false =>
   have HV := Lib.hid (aqV_no (p := p) (n := n) (S := S) (a := a) (v := y) (by rw [hs, hok]; rfl))
   go_upto_region 2 with (first | (refine zla (.tmp 7) B0 Try.underlying66 Try.size66 ?_) | (go_at_call 119; refine (l05Is_any _ _ S hS _).mono ?_; rintro e W2 ⟨rfl, hW2⟩; replace B0 := B0.zw hW2; replace B1 := B1.zw hW2; replace B2 := B2.zw hW2; replace B3 := B3.zw hW2; replace hb := (hb).trans (hW2.mono (hb).size); rw [hs]) | (refine zlg rfl 23 (.tmp 8) rfl _ rfl 64 23 _ (B1) _ Try.underlying23 rfl Try.size23 ?_) | (go_at_call 107; refine (l01Is_any _ a ha _).mono ?_; rintro e W3 ⟨rfl, hW3⟩; replace B0 := B0.zw hW3; replace B1 := B1.zw hW3; replace B2 := B2.zw hW3; replace B3 := B3.zw hW3; replace hb := (hb).trans (hW3.mono (hb).size); rw [hok]))
   have lt_B0 := B0.lt
   have lt_B1 := B1.lt
   have lt_B2 := B2.lt
   have lt_B3 := B3.lt
   go_wp2_with (first | rw [← z64] | rw [← zero6] | (refine zsr (.tmp 10) (.tmp 30) (fun _ => 0) B3 Try.size64 ?_; try simp only [Act.put]; go_wp2_with fail))
   obtain ⟨W4, hwo, hzQ⟩ : ∃ v : World, v = (W3.setRow (w.heap.size + 1 + 1 + 1) (zb 6 (fun _ => 0))) ∧ Blk v (w.heap.size) 36 66 (fl 6 S) ∧ Blk v (w.heap.size + 1) 64 23 (a) ∧ Blk v (w.heap.size + 1 + 1) 6 64 (y) ∧ Blk v (w.heap.size + 1 + 1 + 1) 6 64 (fun _ => 0) ∧ Below w.heap.size w v := ⟨_, rfl, (B0.rowOther (by omega)), (B1.rowOther (by omega)), (B2.rowOther (by omega)), (B3.row (fun _ => 0)), (zr hb (by omega) _)⟩
   rw [← hwo]
   clear hwo B0 B1 B2 B3 hb
   obtain ⟨B0, B1, B2, B3, hb⟩ := hzQ
   try simp only [Act.put, pA, pB, pC]
   refine bodyPost_ret (zrt rfl _ _ _ 6 _ _ rfl B3 _ Try.underlying64 rfl Try.size64) rfl ⟨by first | (rw [HV.out]; rfl) | rw [HV.out], hb⟩
  | true =>
   cases hvv : vB p n y with
   | false =>
    have HV := Lib.hid (aqV_no (p := p) (n := n) (S := S) (a := a) (v := y) (by rw [hs, hok, hvv]; rfl))
    go_upto_region 2 with (first | (refine zla (.tmp 7) B0 Try.underlying66 Try.size66 ?_) | (go_at_call 119; refine (l05Is_any _ _ S hS _).mono ?_; rintro e W2 ⟨rfl, hW2⟩; replace B0 := B0.zw hW2; replace B1 := B1.zw hW2; replace B2 := B2.zw hW2; replace B3 := B3.zw hW2; replace hb := (hb).trans (hW2.mono (hb).size); rw [hs]) | (refine zlg rfl 23 (.tmp 8) rfl _ rfl 64 23 _ (B1) _ Try.underlying23 rfl Try.size23 ?_) | (go_at_call 107; refine (l01Is_any _ a ha _).mono ?_; rintro e W3 ⟨rfl, hW3⟩; replace B0 := B0.zw hW3; replace B1 := B1.zw hW3; replace B2 := B2.zw hW3; replace B3 := B3.zw hW3; replace hb := (hb).trans (hW3.mono (hb).size); rw [hok]) | (refine zlg rfl 64 (.tmp 9) rfl _ rfl 6 64 _ (B2) _ Try.underlying64 rfl Try.size64 ?_) | (go_at_call 120; refine (l05Row_any _ _ y hy _).mono ?_; rintro e W4 ⟨rfl, hW4⟩; replace B0 := B0.zw hW4; replace B1 := B1.zw hW4; replace B2 := B2.zw hW4; replace B3 := B3.zw hW4; replace hb := (hb).trans (hW4.mono (hb).size); rw [hvv]))
    have lt_B0 := B0.lt
    have lt_B1 := B1.lt
    have lt_B2 := B2.lt
    have lt_B3 := B3.lt
    go_wp2_with (first | rw [← z64] | rw [← zero6] | (refine zsr (.tmp 10) (.tmp 30) (fun _ => 0) B3 Try.size64 ?_; try simp only [Act.put]; go_wp2_with fail))
    obtain ⟨W5, hwo, hzQ⟩ : ∃ v : World, v = (W4.setRow (w.heap.size + 1 + 1 + 1) (zb 6 (fun _ => 0))) ∧ Blk v (w.heap.size) 36 66 (fl 6 S) ∧ Blk v (w.heap.size + 1) 64 23 (a) ∧ Blk v (w.heap.size + 1 + 1) 6 64 (y) ∧ Blk v (w.heap.size + 1 + 1 + 1) 6 64 (fun _ => 0) ∧ Below w.heap.size w v := ⟨_, rfl, (B0.rowOther (by omega)), (B1.rowOther (by omega)), (B2.rowOther (by omega)), (B3.row (fun _ => 0)), (zr hb (by omega) _)⟩
    rw [← hwo]
    clear hwo B0 B1 B2 B3 hb
    obtain ⟨B0, B1, B2, B3, hb⟩ := hzQ
    try simp only [Act.put, pA, pB, pC]
    refine bodyPost_ret (zrt rfl _ _ _ 6 _ _ rfl B3 _ Try.underlying64 rfl Try.size64) rfl ⟨by first | (rw [HV.out]; rfl) | rw [HV.out], hb⟩
   | true =>
    have hsg := sqB_get hs
    obtain ⟨n, rfl⟩ : ∃ m : Nat, n = (m : Int) := ⟨n.toNat, by omega⟩
    obtain ⟨q, hq, n2, n7⟩ := okP_nat (okA_p hok)
    subst hq
    have HV := Lib.hid (aqV_yes (p := q) (n := (n : Int)) (S := S) (a := a) (v := y) (by rw [hs, hok, hvv]; rfl))
    have HAP := Lib.hid (fun W => l05Apply_any q n S a y W n2 n7 (sq_lt hs) (fun k hk => by have := okA_lt hok hk; omega) (vec_lt hvv) (by omega) (sq_col hs) (vec_up hvv))
    clear hsg
    go_upto_region 3 with (first | (refine zla (.tmp 7) B0 Try.underlying66 Try.size66 ?_) | (go_at_call 119; refine (l05Is_any _ _ S hS _).mono ?_; rintro e W2 ⟨rfl, hW2⟩; replace B0 := B0.zw hW2; replace B1 := B1.zw hW2; replace B2 := B2.zw hW2; replace B3 := B3.zw hW2; replace hb := (hb).trans (hW2.mono (hb).size); rw [hs]) | (refine zlg rfl 23 (.tmp 8) rfl _ rfl 64 23 _ (B1) _ Try.underlying23 rfl Try.size23 ?_) | (go_at_call 107; refine (l01Is_any _ a ha _).mono ?_; rintro e W3 ⟨rfl, hW3⟩; replace B0 := B0.zw hW3; replace B1 := B1.zw hW3; replace B2 := B2.zw hW3; replace B3 := B3.zw hW3; replace hb := (hb).trans (hW3.mono (hb).size); rw [hok]) | (refine zlg rfl 64 (.tmp 9) rfl _ rfl 6 64 _ (B2) _ Try.underlying64 rfl Try.size64 ?_) | (go_at_call 120; refine (l05Row_any _ _ y hy _).mono ?_; rintro e W4 ⟨rfl, hW4⟩; replace B0 := B0.zw hW4; replace B1 := B1.zw hW4; replace B2 := B2.zw hW4; replace B3 := B3.zw hW4; replace hb := (hb).trans (hW4.mono (hb).size); rw [hvv]))
    have lt_B0 := B0.lt
    have lt_B1 := B1.lt
    have lt_B2 := B2.lt
    have lt_B3 := B3.lt
    go_wp2_with (first | rw [← z64] | rw [← zero6] | (refine zla (.tmp 7) B0 Try.underlying66 Try.size66 ?_) | (refine zla (.tmp 8) B1 Try.underlying23 Try.size23 ?_) | (refine zla (.tmp 9) B2 Try.underlying64 Try.size64 ?_) | (go_at_call 121; refine (HAP.out _).mono ?_; rintro e W5 ⟨rfl, hW5⟩; replace B0 := B0.zw hW5; replace B1 := B1.zw hW5; replace B2 := B2.zw hW5; replace B3 := B3.zw hW5; replace hb := (hb).trans (hW5.mono (hb).size)) | (refine zsr (.tmp 10) (.tmp 36) (apN q (deg a + 1).toNat S a y (deg a + 1).toNat) B3 Try.size64 ?_; try simp only [Act.put]; go_wp2_with fail))
    obtain ⟨W6, hwo, hzQ⟩ : ∃ v : World, v = (W5.setRow (w.heap.size + 1 + 1 + 1) (zb 6 (apN q (deg a + 1).toNat S a y (deg a + 1).toNat))) ∧ Blk v (w.heap.size) 36 66 (fl 6 S) ∧ Blk v (w.heap.size + 1) 64 23 (a) ∧ Blk v (w.heap.size + 1 + 1) 6 64 (y) ∧ Blk v (w.heap.size + 1 + 1 + 1) 6 64 (apN q (deg a + 1).toNat S a y (deg a + 1).toNat) ∧ Below w.heap.size w v := ⟨_, rfl, (B0.rowOther (by omega)), (B1.rowOther (by omega)), (B2.rowOther (by omega)), (B3.row (apN q (deg a + 1).toNat S a y (deg a + 1).toNat)), (zr hb (by omega) _)⟩
    rw [← hwo]
    clear hwo B0 B1 B2 B3 hb
    obtain ⟨B0, B1, B2, B3, hb⟩ := hzQ
    try simp only [Act.put, pA, pB, pC]
    refine bodyPost_ret (zrt rfl _ _ _ 6 _ _ rfl B3 _ Try.underlying64 rfl Try.size64) rfl ⟨by first | (rw [HV.out]; rfl) | rw [HV.out], hb⟩
end Go.Proofs.Ytobcdekochenfaa
end
section
namespace Go.Proofs.Ytobcdekochenfaa
open Go Go.RowKit
set_option linter.unusedVariables false
set_option linter.unusedSimpArgs false
set_option maxRecDepth 100000 in
set_option maxHeartbeats 1600000 in
theorem FnExactApplySquare_walk (p : Int) (n : Int) (S : Nat → Nat → Nat) (f : Nat → Nat) (y : Nat → Nat) (hS : ∀ i, byte (S i)) (hf : byte f) (hy : byte y) (w : World) :
 Calls Try.prog 17 #[.int .i64 p, .int .i64 n, .agg (zb 36 (fl 6 S)), .agg (zb 64 f), .agg (zb 6 y)] w fun e w' => e = .returned (.bool true) ∧ Below w.heap.size w w' := by
 go_enter Try.func17, Try.ntmps17
 go_upto_region 1 with (fail)
 obtain ⟨W1, hwo⟩ : ∃ v : World, v = (((w.alloc (.cells (zb 36 (fl 6 S)) 70)).alloc (.cells (zb 64 (f)) 22)).alloc (.cells (zb 6 (y)) 63)) := ⟨_, rfl⟩
 have B0 : Blk W1 (w.heap.size) 36 70 (fl 6 S) := by subst hwo; have := (((Blk.new w 36 70 (fl 6 S)).alloc (.cells (zb 64 (f)) 22)).alloc (.cells (zb 6 (y)) 63)); simpa using this
 have B1 : Blk W1 (w.heap.size + 1) 64 22 (f) := by subst hwo; have := ((Blk.new (w.alloc (.cells (zb 36 (fl 6 S)) 70)) 64 22 (f)).alloc (.cells (zb 6 (y)) 63)); simpa using this
 have B2 : Blk W1 (w.heap.size + 1 + 1) 6 63 (y) := by subst hwo; have := (Blk.new ((w.alloc (.cells (zb 36 (fl 6 S)) 70)).alloc (.cells (zb 64 (f)) 22)) 6 63 (y)); simpa using this
 have hb : Below w.heap.size w W1 := by subst hwo; exact ((((Below.refl _ _).alloc (Nat.le_refl _) _).alloc (by simp) _).alloc (by simp; omega) _)
 rw [← hwo]
 clear hwo
 have hne1 : (((aqV p n S f y).2) != ((aqV p n S f y).2)) = false := by simp
 have lt_B0 : (w.heap.size) < W1.heap.size := B0.lt
 have lt_B1 : (w.heap.size + 1) < W1.heap.size := B1.lt
 have lt_B2 : (w.heap.size + 1 + 1) < W1.heap.size := B2.lt
 refine zq Try.mixed (by kernel_rfl) (by kernel_rfl) (fun v => by (simp only [frL, Act.put, pA, pB, pC, Nat.reduceAdd, Nat.zero_add]; exact rfl))
  (fun L v W2 => Below W1.heap.size W1 W2 ∧ (L 12 = true → AF (v 12) W2 W1.heap.size 6 64) ∧ (L 13 = true → PF (v 12) W2 W1.heap.size 6 64 ((aqV p n S f y).1)) ∧ VF L v [some (.int .i64 p), some (.int .i64 n), some (.agg (zb 36 (fl 6 S))), some (.agg (zb 36 (fl 6 S))), some (.agg (zb 64 (f))), some (.agg (zb 64 (f))), some (.agg (zb 6 (y))), some (.agg (zb 6 (y))), some (.tuple #[(.agg (zb 6 ((aqV p n S f y).1))), (.int .i64 ((aqV p n S f y).2))]), some (.tuple #[(.agg (zb 6 ((aqV p n S f y).1))), (.int .i64 ((aqV p n S f y).2))]), some (.agg (zb 6 ((aqV p n S f y).1))), some (.int .i64 ((aqV p n S f y).2)), none, none, some (.int .i64 ((aqV p n S f y).2))]) ?_ ?_ ?_
 · intro v hv0
   exact ⟨(Below.refl _ W1).drew, (fun h => by cases h), (fun h => by cases h), VF.start⟩
 · refine (.cons rfl ?_ (.cons rfl ?_ (.cons rfl ?_ (.cons rfl ?_ (.cons rfl ?_ (.cons rfl ?_ (.cons rfl ?_ (.cons rfl ?_ (.cons rfl ?_ (.cons rfl ?_ (.cons rfl ?_ (.cons rfl ?_ (.cons rfl ?_ (.cons rfl ?_ (.cons rfl ?_ (.nil _))))))))))))))))
   all_goals intro L v W2 hd hn ⟨hY, h12, h13, V⟩ K hK
   · go_wp2_with fail
     exact hK _ (.int .i64 p) _ (by simp only [Act.put, pA, pB, pC ]) ⟨hY, h12, h13, V.step 0 rfl⟩
   · go_wp2_with fail
     exact hK _ (.int .i64 n) _ (by simp only [Act.put, pA, pB, pC ]) ⟨hY, h12, h13, V.step 1 rfl⟩
   · refine zlc (B0.zw hY) Try.underlying70 Try.size70 ?_
     exact hK _ _ _ rfl ⟨hY, h12, h13, V.step 2 rfl⟩
   · have e2 := V.at (zdq hd 2 rfl) rfl
     go_wp2_with (go_at_call 58; refine (toSquare_any S hS _).mono ?_; rintro e wy ⟨rfl, hy⟩)
     exact hK _ (.agg (zb 36 (fl 6 S))) _ (by simp only [Act.put, pA, pB, pC, e2]) ⟨hY.trans (hy.mono hY.size), (fun h => (h12 h).below hy), (fun h => (h13 h).below hy), V.step 3 rfl⟩
   · refine zlc (B1.zw hY) Try.underlying22 Try.size22 ?_
     exact hK _ _ _ rfl ⟨hY, h12, h13, V.step 4 rfl⟩
   · have e4 := V.at (zdq hd 4 rfl) rfl
     go_wp2_with (go_at_call 25; refine (toPoly_any f hf _).mono ?_; rintro e wy ⟨rfl, hy⟩)
     exact hK _ (.agg (zb 64 (f))) _ (by simp only [Act.put, pA, pB, pC, e4]) ⟨hY.trans (hy.mono hY.size), (fun h => (h12 h).below hy), (fun h => (h13 h).below hy), V.step 5 rfl⟩
   · refine zlc (B2.zw hY) Try.underlying63 Try.size63 ?_
     exact hK _ _ _ rfl ⟨hY, h12, h13, V.step 6 rfl⟩
   · have e6 := V.at (zdq hd 6 rfl) rfl
     go_wp2_with (go_at_call 59; refine (toRow_any y hy _).mono ?_; rintro e wy ⟨rfl, hy⟩)
     exact hK _ (.agg (zb 6 (y))) _ (by simp only [Act.put, pA, pB, pC, e6]) ⟨hY.trans (hy.mono hY.size), (fun h => (h12 h).below hy), (fun h => (h13 h).below hy), V.step 7 rfl⟩
   · have e0 := V.at (zdq hd 0 rfl) rfl
     have e1 := V.at (zdq hd 1 rfl) rfl
     have e3 := V.at (zdq hd 3 rfl) rfl
     have e5 := V.at (zdq hd 5 rfl) rfl
     have e7 := V.at (zdq hd 7 rfl) rfl
     go_wp2_with (go_at_call 57; refine (spec_ApplySquare_any p n S f y hS hf hy _).mono ?_; rintro e wy ⟨rfl, hy⟩)
     exact hK _ (.tuple #[(.agg (zb 6 ((aqV p n S f y).1))), (.int .i64 ((aqV p n S f y).2))]) _ (by simp only [Act.put, pA, pB, pC, e0, e1, e3, e5, e7]) ⟨hY.trans (hy.mono hY.size), (fun h => (h12 h).below hy), (fun h => (h13 h).below hy), V.step 8 rfl⟩
   · have e8 := V.at (zdq hd 8 rfl) rfl
     go_wp2_with fail
     exact hK _ (.tuple #[(.agg (zb 6 ((aqV p n S f y).1))), (.int .i64 ((aqV p n S f y).2))]) _ (by simp only [Act.put, pA, pB, pC, e8]) ⟨hY, h12, h13, V.step 9 rfl⟩
   · have e9 := V.at (zdq hd 9 rfl) rfl
     go_wp2_with fail
     exact hK _ (.agg (zb 6 ((aqV p n S f y).1))) _ (by simp only [Act.put, pA, pB, pC, e9]) ⟨hY, h12, h13, V.step 10 rfl⟩
   · have e9 := V.at (zdq hd 9 rfl) rfl
     go_wp2_with fail
     exact hK _ (.int .i64 ((aqV p n S f y).2)) _ (by simp only [Act.put, pA, pB, pC, e9]) ⟨hY, h12, h13, V.step 11 rfl⟩
   · go_wp2_with fail
     rw [← zero6]
     exact hK _ (.pointer (some ⟨W2.heap.size, 0, none⟩)) _ (by simp only [Act.put, pA, pB, pC ]) ⟨hY.alloc hY.size _, (fun _ => (PF.new W2 6 64 _ hY.size).af), (fun h => absurd rfl (hn 13 _ rfl h ⟨12, .data⟩ (by simp) rfl)), V.skip 12 rfl⟩
   · have e10 := V.at (zdq hd 10 rfl) rfl
     obtain ⟨gz, b, ea, hN, hk⟩ := (h12 (zdq hd 12 rfl)).out
     refine zsb 64 _ _ rfl b 6 ((aqV p n S f y).1) ea e10 64 gz hk Try.size64 ?_
     exact hK _ undef _ rfl ⟨zr hY hN _, (fun h => (h12 h).row hk), (fun _ => by rw [show updV v 13 undef 12 = v 12 from rfl, ea]; exact PF.row hk hN _), V.skip 13 rfl⟩
   · have e11 := V.at (zdq hd 11 rfl) rfl
     go_wp2_with fail
     exact hK _ (.int .i64 ((aqV p n S f y).2)) _ (by simp only [Act.put, pA, pB, pC, e11]) ⟨hY, h12, h13, V.step 14 rfl⟩
 · intro L v W2 hL ⟨hY, h12, h13, V⟩
   obtain ⟨k1_12, e12, hNk1_12, hk1_12⟩ := (h13 (hL 13 (by decide))).out
   have e0 := V.at (hL 0 (by decide)) rfl
   have e1 := V.at (hL 1 (by decide)) rfl
   have e2 := V.at (hL 2 (by decide)) rfl
   have e3 := V.at (hL 3 (by decide)) rfl
   have e4 := V.at (hL 4 (by decide)) rfl
   have e5 := V.at (hL 5 (by decide)) rfl
   have e6 := V.at (hL 6 (by decide)) rfl
   have e7 := V.at (hL 7 (by decide)) rfl
   have e8 := V.at (hL 8 (by decide)) rfl
   have e9 := V.at (hL 9 (by decide)) rfl
   have e10 := V.at (hL 10 (by decide)) rfl
   have e11 := V.at (hL 11 (by decide)) rfl
   have e14 := V.at (hL 14 (by decide)) rfl
   clear hL h12 h13 V
   replace B0 := B0.zw hY
   replace B1 := B1.zw hY
   replace B2 := B2.zw hY
   replace hb := hb.trans (hY.mono hb.size)
   clear hY
   simp only [Exit.then, e12, e0, e1, e2, e3, e4, e5, e6, e7, e8, e9, e10, e11, e14]
   clear e12 e0 e1 e2 e3 e4 e5 e6 e7 e8 e9 e10 e11 e14
   have B3 := hk1_12
   clear hk1_12
   have zk1_12_0 : w.heap.size < k1_12 := by omega
   have zk1_12_1 : w.heap.size + 1 < k1_12 := by omega
   have zk1_12_2 : w.heap.size + 1 + 1 < k1_12 := by omega
   clear lt_B0 lt_B1 lt_B2
   go_upto_region 2 with (fail)
   have lt_B0 : (w.heap.size) < W2.heap.size := B0.lt
   have lt_B1 : (w.heap.size + 1) < W2.heap.size := B1.lt
   have lt_B2 : (w.heap.size + 1 + 1) < W2.heap.size := B2.lt
   have lt_B3 : (k1_12) < W2.heap.size := B3.lt
   refine zq Try.mixed (by kernel_rfl) (by kernel_rfl) (fun v => by (simp only [frL, Act.put, pA, pB, pC, Nat.reduceAdd, Nat.zero_add]; exact rfl))
    (fun L v W3 => Below W2.heap.size W2 W3 ∧ (L 12 = true → AF (v 12) W3 W2.heap.size 6 64) ∧ (L 13 = true → PF (v 12) W3 W2.heap.size 6 64 ((aqV p n S f y).1)) ∧ VF L v [some (.int .i64 p), some (.int .i64 n), some (.agg (zb 36 (fl 6 S))), some (.agg (zb 36 (fl 6 S))), some (.agg (zb 64 (f))), some (.agg (zb 64 (f))), some (.agg (zb 6 (y))), some (.agg (zb 6 (y))), some (.tuple #[(.agg (zb 6 ((aqV p n S f y).1))), (.int .i64 ((aqV p n S f y).2))]), some (.tuple #[(.agg (zb 6 ((aqV p n S f y).1))), (.int .i64 ((aqV p n S f y).2))]), some (.agg (zb 6 ((aqV p n S f y).1))), some (.int .i64 ((aqV p n S f y).2)), none, none, some (.int .i64 ((aqV p n S f y).2))]) ?_ ?_ ?_
   · intro v hv0
     exact ⟨(Below.refl _ W2).drew, (fun h => by cases h), (fun h => by cases h), VF.start⟩
   · refine (.cons rfl ?_ (.cons rfl ?_ (.cons rfl ?_ (.cons rfl ?_ (.cons rfl ?_ (.cons rfl ?_ (.cons rfl ?_ (.cons rfl ?_ (.cons rfl ?_ (.cons rfl ?_ (.cons rfl ?_ (.cons rfl ?_ (.cons rfl ?_ (.cons rfl ?_ (.cons rfl ?_ (.nil _))))))))))))))))
     all_goals intro L v W3 hd hn ⟨hY, h12, h13, V⟩ K hK
     · go_wp2_with fail
       exact hK _ (.int .i64 p) _ (by simp only [Act.put, pA, pB, pC ]) ⟨hY, h12, h13, V.step 0 rfl⟩
     · go_wp2_with fail
       exact hK _ (.int .i64 n) _ (by simp only [Act.put, pA, pB, pC ]) ⟨hY, h12, h13, V.step 1 rfl⟩
     · refine zlc (B0.zw hY) Try.underlying70 Try.size70 ?_
       exact hK _ _ _ rfl ⟨hY, h12, h13, V.step 2 rfl⟩
     · have e2 := V.at (zdq hd 2 rfl) rfl
       go_wp2_with (go_at_call 58; refine (toSquare_any S hS _).mono ?_; rintro e wy ⟨rfl, hy⟩)
       exact hK _ (.agg (zb 36 (fl 6 S))) _ (by simp only [Act.put, pA, pB, pC, e2]) ⟨hY.trans (hy.mono hY.size), (fun h => (h12 h).below hy), (fun h => (h13 h).below hy), V.step 3 rfl⟩
     · refine zlc (B1.zw hY) Try.underlying22 Try.size22 ?_
       exact hK _ _ _ rfl ⟨hY, h12, h13, V.step 4 rfl⟩
     · have e4 := V.at (zdq hd 4 rfl) rfl
       go_wp2_with (go_at_call 25; refine (toPoly_any f hf _).mono ?_; rintro e wy ⟨rfl, hy⟩)
       exact hK _ (.agg (zb 64 (f))) _ (by simp only [Act.put, pA, pB, pC, e4]) ⟨hY.trans (hy.mono hY.size), (fun h => (h12 h).below hy), (fun h => (h13 h).below hy), V.step 5 rfl⟩
     · refine zlc (B2.zw hY) Try.underlying63 Try.size63 ?_
       exact hK _ _ _ rfl ⟨hY, h12, h13, V.step 6 rfl⟩
     · have e6 := V.at (zdq hd 6 rfl) rfl
       go_wp2_with (go_at_call 59; refine (toRow_any y hy _).mono ?_; rintro e wy ⟨rfl, hy⟩)
       exact hK _ (.agg (zb 6 (y))) _ (by simp only [Act.put, pA, pB, pC, e6]) ⟨hY.trans (hy.mono hY.size), (fun h => (h12 h).below hy), (fun h => (h13 h).below hy), V.step 7 rfl⟩
     · have e0 := V.at (zdq hd 0 rfl) rfl
       have e1 := V.at (zdq hd 1 rfl) rfl
       have e3 := V.at (zdq hd 3 rfl) rfl
       have e5 := V.at (zdq hd 5 rfl) rfl
       have e7 := V.at (zdq hd 7 rfl) rfl
       go_wp2_with (go_at_call 60; refine (impl_ApplySquare_any p n S f y hS hf hy _).mono ?_; rintro e wy ⟨rfl, hy⟩)
       exact hK _ (.tuple #[(.agg (zb 6 ((aqV p n S f y).1))), (.int .i64 ((aqV p n S f y).2))]) _ (by simp only [Act.put, pA, pB, pC, e0, e1, e3, e5, e7]) ⟨hY.trans (hy.mono hY.size), (fun h => (h12 h).below hy), (fun h => (h13 h).below hy), V.step 8 rfl⟩
     · have e8 := V.at (zdq hd 8 rfl) rfl
       go_wp2_with fail
       exact hK _ (.tuple #[(.agg (zb 6 ((aqV p n S f y).1))), (.int .i64 ((aqV p n S f y).2))]) _ (by simp only [Act.put, pA, pB, pC, e8]) ⟨hY, h12, h13, V.step 9 rfl⟩
     · have e9 := V.at (zdq hd 9 rfl) rfl
       go_wp2_with fail
       exact hK _ (.agg (zb 6 ((aqV p n S f y).1))) _ (by simp only [Act.put, pA, pB, pC, e9]) ⟨hY, h12, h13, V.step 10 rfl⟩
     · have e9 := V.at (zdq hd 9 rfl) rfl
       go_wp2_with fail
       exact hK _ (.int .i64 ((aqV p n S f y).2)) _ (by simp only [Act.put, pA, pB, pC, e9]) ⟨hY, h12, h13, V.step 11 rfl⟩
     · go_wp2_with fail
       rw [← zero6]
       exact hK _ (.pointer (some ⟨W3.heap.size, 0, none⟩)) _ (by simp only [Act.put, pA, pB, pC ]) ⟨hY.alloc hY.size _, (fun _ => (PF.new W3 6 64 _ hY.size).af), (fun h => absurd rfl (hn 13 _ rfl h ⟨12, .data⟩ (by simp) rfl)), V.skip 12 rfl⟩
     · have e10 := V.at (zdq hd 10 rfl) rfl
       obtain ⟨gz, b, ea, hN, hk⟩ := (h12 (zdq hd 12 rfl)).out
       refine zsb 64 _ _ rfl b 6 ((aqV p n S f y).1) ea e10 64 gz hk Try.size64 ?_
       exact hK _ undef _ rfl ⟨zr hY hN _, (fun h => (h12 h).row hk), (fun _ => by rw [show updV v 13 undef 12 = v 12 from rfl, ea]; exact PF.row hk hN _), V.skip 13 rfl⟩
     · have e11 := V.at (zdq hd 11 rfl) rfl
       go_wp2_with fail
       exact hK _ (.int .i64 ((aqV p n S f y).2)) _ (by simp only [Act.put, pA, pB, pC, e11]) ⟨hY, h12, h13, V.step 14 rfl⟩
   · intro L v W3 hL ⟨hY, h12, h13, V⟩
     obtain ⟨k2_12, e12, hNk2_12, hk2_12⟩ := (h13 (hL 13 (by decide))).out
     have e0 := V.at (hL 0 (by decide)) rfl
     have e1 := V.at (hL 1 (by decide)) rfl
     have e2 := V.at (hL 2 (by decide)) rfl
     have e3 := V.at (hL 3 (by decide)) rfl
     have e4 := V.at (hL 4 (by decide)) rfl
     have e5 := V.at (hL 5 (by decide)) rfl
     have e6 := V.at (hL 6 (by decide)) rfl
     have e7 := V.at (hL 7 (by decide)) rfl
     have e8 := V.at (hL 8 (by decide)) rfl
     have e9 := V.at (hL 9 (by decide)) rfl
     have e10 := V.at (hL 10 (by decide)) rfl
     have e11 := V.at (hL 11 (by decide)) rfl
     have e14 := V.at (hL 14 (by decide)) rfl
     clear hL h12 h13 V
     replace B0 := B0.zw hY
     replace B1 := B1.zw hY
     replace B2 := B2.zw hY
     replace B3 := B3.zw hY
     replace hb := hb.trans (hY.mono hb.size)
     clear hY
     simp only [Exit.then, e12, e0, e1, e2, e3, e4, e5, e6, e7, e8, e9, e10, e11, e14]
     clear e12 e0 e1 e2 e3 e4 e5 e6 e7 e8 e9 e10 e11 e14
     have B4 := hk2_12
     clear hk2_12
     have zk2_12_0 : w.heap.size < k2_12 := by omega
     have zk2_12_1 : w.heap.size + 1 < k2_12 := by omega
     have zk2_12_2 : w.heap.size + 1 + 1 < k2_12 := by omega
     have zk2_12_3 : k1_12 < k2_12 := by omega
     clear lt_B0 lt_B1 lt_B2 lt_B3
     go_upto_region 3 with (fail)
     go_wp2_with (first | (refine zla (.tmp 13) B4 Try.underlying64 Try.size64 ?_) | (refine zla (.tmp 11) B3 Try.underlying64 Try.size64 ?_) | (go_at_call 61; refine (eqRow_same _ _ (fun _ _ => rfl) _).mono ?_; rintro e W4 ⟨rfl, hW4⟩; replace B0 := B0.zw hW4; replace B1 := B1.zw hW4; replace B2 := B2.zw hW4; replace B3 := B3.zw hW4; replace B4 := B4.zw hW4; replace hb := (hb).trans (hW4.mono (hb).size)))
     go_ret
     exact ⟨rfl, hb⟩
end Go.Proofs.Ytobcdekochenfaa
end
section
namespace Go.Proofs.Ytobcdekochenfaa
open Go.ChangeShapes Go.WideShapes Go.ChangeAt Go.RowKit
set_option linter.unusedVariables false
theorem fl_whole6 (f : Nat → Nat) : fl 6 (fun i j => f (i * 6 + j)) = f := by
 funext k
 unfold fl
 show f (k / 6 * 6 + k % 6) = f k
 congr 1
 omega
section
variable {H : Type} {enc : TypeId × Value → H} {P : Program}
theorem open_bsq {t e u : TypeId} {w : World} {r : Reach} {b0 base : Nat} {spare : Nat → Bool} {held : Bool} {v : Value} {d : DataW H} {p : List MemPlace}
 (ht : P.underlying t = some (.array 6 e)) (he : P.underlying e = some (.array 6 u)) (hu : P.underlying u = some (.int .u8)) (hC : P.cellsOf t = 36) (hCe : P.cellsOf e = 6) (hCu : P.cellsOf u = 1)
 (hv : Value.okWide P w r b0 t v) (h : DataW.Trod enc P w base spare held t v d p) :
 ∃ F : Nat → Nat → Nat, (∀ i, byte (F i)) ∧ v = .agg (zb 36 (fl 6 F)) ∧ p = [] ∧ ∀ (w' : World) (base' : Nat) (spare' : Nat → Bool) (held' : Bool), DataW.Trod enc P w' base' spare' held' t v d [] := by
 unfold Value.okWide at hv
 rw [ht] at hv
 obtain ⟨cs, rfl, hsz, _⟩ := hv
 obtain ⟨fuel, hf⟩ := h
 obtain ⟨xs, m, hm, hx, hlen, hxl, hel⟩ := DataW.trod_array ht hf
 subst hm
 have hcs : cs.size = 36 := by rw [hsz, hC]
 have each : ∀ i, i < 6 → (∃ y, xs[i]? = some (y, [])) ∧ ∀ j, j < 6 → ∃ k : Nat, k < 256 ∧ cs[i * 6 + j]? = some (.int .u8 (k : Int)) := by
  intro i hi
  have h1 := hel i hi
  have hxi : xs[i]? = some (xs[i]'(by omega)) := List.getElem?_eq_getElem (by omega)
  rw [hxi, hCe] at h1
  obtain ⟨ys, m2, hm2, hx2, hlen2, hyl, hel2⟩ := DataW.trod_array he h1
  subst hm2
  have byt : ∀ j, j < 6 → ∃ k : Nat, k < 256 ∧ cs[i * 6 + j]? = some (.int .u8 (k : Int)) ∧ ys[j]? = some (.lit (.int .u8 (k : Int)), []) := by
   intro j hj
   have h3 := hel2 j hj
   have hyj : ys[j]? = some (ys[j]'(by omega)) := List.getElem?_eq_getElem (by omega)
   rw [hyj, hCu] at h3
   obtain ⟨z, hz1, hz2, hz3⟩ := DataW.trod_int hu h3
   have hb := bounds_u8 hz3
   obtain ⟨k, rfl⟩ := Int.eq_ofNat_of_zero_le hb.1
   refine ⟨k, by omega, ?_, by rw [hyj, hz2]⟩
   have h4 : (((((Value.agg cs).cells.toList.drop (i * 6)).take 6).drop (j * 1)).take 1)[0]? = some (.int .u8 (k : Int)) := by
    rw [hz1]; rfl
   have h5 : (Value.agg cs).cells.toList = cs.toList := rfl
   rw [h5] at h4
   simp only [List.getElem?_take, List.getElem?_drop, Nat.mul_one, Nat.add_zero, Nat.lt_add_one, if_true, hj] at h4
   simpa using h4
  refine ⟨⟨(xs[i]'(by omega)).1, ?_⟩, fun j hj => let ⟨k, a, b, _⟩ := byt j hj; ⟨k, a, b⟩⟩
  · rw [hxi]
    congr 1
    refine Prod.ext rfl ?_
    have hp : (xs[i]'(by omega)).2 = ys.flatMap (·.2) := by simpa using congrArg Prod.snd hx2
    show (xs[i]'(by omega)).2 = []
    rw [hp, List.flatMap_eq_nil_iff]
    intro x hxm
    obtain ⟨j, hj⟩ := List.getElem?_of_mem hxm
    have hjn : j < 6 := by rw [← hyl]; exact (List.getElem?_eq_some_iff.1 hj).1
    obtain ⟨k, _, _, h2⟩ := byt j hjn
    rw [hj] at h2
    injection h2 with h2
    rw [h2]
 have hp : p = [] := by
  have hp : p = xs.flatMap (·.2) := by simpa using congrArg Prod.snd hx
  rw [hp, List.flatMap_eq_nil_iff]
  intro x hxm
  obtain ⟨i, hi⟩ := List.getElem?_of_mem hxm
  have hin : i < 6 := by rw [← hxl]; exact (List.getElem?_eq_some_iff.1 hi).1
  obtain ⟨⟨y, h2⟩, _⟩ := each i hin
  rw [hi] at h2
  injection h2 with h2
  rw [h2]
 have cell : ∀ k, k < 36 → ∃ z : Nat, z < 256 ∧ cs[k]? = some (.int .u8 (z : Int)) := by
  intro k hk
  obtain ⟨z, a, b⟩ := (each (k / 6) (by omega)).2 (k % 6) (by omega)
  rw [show k / 6 * 6 + k % 6 = k by omega] at b
  exact ⟨z, a, b⟩
 obtain ⟨f, hf1, hf2⟩ : ∃ f : Nat → Nat, byte f ∧ (Value.agg cs) = .agg (zb 36 f) := by
  refine ⟨fun i => match cs[i]? with | some (.int _ z) => if i < 36 then z.toNat else 0 | _ => 0, ?_, ?_⟩
  · intro i
    by_cases hi : i < 36
    · obtain ⟨k, hk, hc⟩ := cell i hi
      simp only [hc, hi, if_true, Int.toNat_natCast]
      exact hk
    · have : cs[i]? = none := Array.getElem?_eq_none (by omega)
      simp [this]
  · congr 1
    apply Array.ext_getElem?
    intro i
    by_cases hi : i < 36
    · obtain ⟨k, hk, hc⟩ := cell i hi
      rw [bcells_get hi]
      simp only [hc, hi, if_true, Int.toNat_natCast]
    · rw [Array.getElem?_eq_none (by omega), Array.getElem?_eq_none (by rw [zbs]; omega)]
 refine ⟨fun i j => f (i * 6 + j), fun i j => hf1 _, ?_, hp, ?_⟩
 · rw [fl_whole6]; exact hf2
 · intro w' base' spare' held'
   refine ⟨m + 1, ?_⟩
   have e1 : DataW.trod enc P w' base' spare' held' (m + 1) t (Value.agg cs).cells.toList = DataW.trod enc P w base spare held (m + 1) t (Value.agg cs).cells.toList := by
    unfold DataW.trod
    rw [ht]
    simp only [trod_barr_same he hu w' w base' base spare' spare held' held m]
   rw [e1, hf, hp]
end
end Go.Proofs.Ytobcdekochenfaa
end
section
namespace Go.Proofs.Ytobcdekochenfaa
open Go
def cutW : List Char := [Char.ofNat 99, Char.ofNat 117, Char.ofNat 116]
theorem strip_cut (rest : List (List Char)) : stripLifts liftWords (cutW :: rest) = ([], cutW :: rest) := by
 have key : ∀ os : List String, (os.all fun o => !(cutW == o.toList)) = true → stripLifts os (cutW :: rest) = ([], cutW :: rest) := by
  intro os
  induction os with
  | nil => intro _; rfl
  | cons o os ih =>
   intro h
   simp only [List.all_cons, Bool.and_eq_true, Bool.not_eq_true'] at h
   unfold stripLifts
   rw [h.1]
   exact ih h.2
 exact key _ (by decide +kernel)
theorem make_cut {P : Program} {rest : List (List Char)} (h : behindMainWord (wordsSigns P.initOrder.toList) = cutW :: rest) : P.make = some .cut := by
 unfold Program.make
 rw [h]
 have e1 : (cutW == "gc".toList || cutW == "spec".toList) = false := by decide +kernel
 have e2 : (cutW == "cut".toList) = true := by decide +kernel
 simp only [e1, e2, Bool.true_or]
 rfl
theorem mayEnter_cut {P : Program} {rest : List (List Char)} (h : behindMainWord (wordsSigns P.initOrder.toList) = cutW :: rest) (h1 : P.laysLater = false) (h2 : P.bearsReflect = false) (h3 : P.doorFits [] = true) : P.mayEnter = true := by
 unfold Program.mayEnter
 rw [h]
 have e2 : (some cutW == some "cut".toList) = true := by decide +kernel
 simp only [strip_cut, h1, h2, h3, List.head?_cons, e2]
 simp
theorem lifts_cut {P : Program} {rest : List (List Char)} (h : behindMainWord (wordsSigns P.initOrder.toList) = cutW :: rest) : P.liftsFinal = false := by
 unfold Program.liftsFinal Program.headLifts
 rw [h]
 have e2 : (some cutW == some "cut".toList) = true := by decide +kernel
 have e3 : (some cutW == some "carried".toList) = false := by decide +kernel
 simp only [strip_cut, List.head?_cons, e2, e3]
 simp
/-- the signs of the head, and its words behind the first three -/
def initRest : List (List Nat) := [[97, 116], [108, 111, 111, 112, 46, 101, 120, 97, 109, 112, 108, 101, 47, 103, 48, 49, 50, 52, 53, 47, 108, 97, 119, 115, 46, 70, 110, 69, 120, 97, 99, 116, 80, 111, 119, 101, 114, 83, 117, 109], [108, 111, 111, 112, 46, 101, 120, 97, 109, 112, 108, 101, 47, 103, 48, 49, 50, 52, 53, 47, 108, 97, 119, 115, 46, 70, 110, 69, 120, 97, 99, 116, 68, 105, 103, 105, 116, 83, 117, 109], [108, 111, 111, 112, 46, 101, 120, 97, 109, 112, 108, 101, 47, 103, 48, 49, 50, 52, 53, 47, 108, 97, 119, 115, 46, 70, 110, 69, 120, 97, 99, 116, 83, 104, 105, 102, 116, 101, 100, 83, 117, 109], [108, 111, 111, 112, 46, 101, 120, 97, 109, 112, 108, 101, 47, 103, 48, 49, 50, 52, 53, 47, 108, 97, 119, 115, 46, 70, 110, 69, 120, 97, 99, 116, 70, 105, 114, 115, 116, 86, 97, 110, 105, 115, 104, 105, 110, 103], [108, 111, 111, 112, 46, 101, 120, 97, 109, 112, 108, 101, 47, 103, 48, 49, 50, 52, 53, 47, 108, 97, 119, 115, 46, 70, 110, 69, 120, 97, 99, 116, 80, 111, 119, 101, 114, 79, 102], [108, 111, 111, 112, 46, 101, 120, 97, 109, 112, 108, 101, 47, 103, 48, 49, 50, 52, 53, 47, 108, 97, 119, 115, 46, 70, 110, 69, 120, 97, 99, 116, 90, 101, 116, 97, 65, 116], [108, 111, 111, 112, 46, 101, 120, 97, 109, 112, 108, 101, 47, 103, 48, 49, 50, 52, 53, 47, 108, 97, 119, 115, 46, 70, 110, 69, 120, 97, 99, 116, 78, 101, 115, 116, 101, 100, 83, 117, 109], [108, 111, 111, 112, 46, 101, 120, 97, 109, 112, 108, 101, 47, 103, 48, 49, 50, 52, 53, 47, 108, 97, 119, 115, 46, 70, 110, 69, 120, 97, 99, 116, 81, 117, 97, 100, 114, 97, 116, 105, 99, 83, 121, 109, 98, 111, 108], [108, 111, 111, 112, 46, 101, 120, 97, 109, 112, 108, 101, 47, 103, 48, 49, 50, 52, 53, 47, 108, 97, 119, 115, 46, 70, 110, 69, 120, 97, 99, 116, 83, 121, 109, 98, 111, 108, 83, 117, 109], [108, 111, 111, 112, 46, 101, 120, 97, 109, 112, 108, 101, 47, 103, 48, 49, 50, 52, 53, 47, 108, 97, 119, 115, 46, 70, 110, 69, 120, 97, 99, 116, 83, 121, 109, 98, 111, 108, 80, 111, 108, 121, 110, 111, 109, 105, 97, 108], [108, 111, 111, 112, 46, 101, 120, 97, 109, 112, 108, 101, 47, 103, 48, 49, 50, 52, 53, 47, 108, 97, 119, 115, 46, 70, 110, 69, 120, 97, 99, 116, 67, 108, 97, 115, 115, 83, 117, 109], [108, 111, 111, 112, 46, 101, 120, 97, 109, 112, 108, 101, 47, 103, 48, 49, 50, 52, 53, 47, 108, 97, 119, 115, 46, 70, 110, 69, 120, 97, 99, 116, 65, 114, 101, 73, 115, 111, 109, 111, 114, 112, 104, 105, 99], [108, 111, 111, 112, 46, 101, 120, 97, 109, 112, 108, 101, 47, 103, 48, 49, 50, 52, 53, 47, 108, 97, 119, 115, 46, 70, 110, 69, 120, 97, 99, 116, 68, 114, 105, 110, 102, 101, 108, 100, 65, 99, 116, 105, 111, 110], [108, 111, 111, 112, 46, 101, 120, 97, 109, 112, 108, 101, 47, 103, 48, 49, 50, 52, 53, 47, 108, 97, 119, 115, 46, 70, 110, 69, 120, 97, 99, 116, 67, 111, 109, 112, 97, 110, 105, 111, 110, 79, 102], [108, 111, 111, 112, 46, 101, 120, 97, 109, 112, 108, 101, 47, 103, 48, 49, 50, 52, 53, 47, 108, 97, 119, 115, 46, 70, 110, 69, 120, 97, 99, 116, 65, 112, 112, 108, 121, 83, 113, 117, 97, 114, 101], [108, 111, 111, 112, 46, 101, 120, 97, 109, 112, 108, 101, 47, 103, 48, 49, 50, 52, 53, 47, 108, 97, 119, 115, 46, 70, 110, 69, 120, 97, 99, 116, 76, 111, 103, 97, 114, 105, 116, 104, 109, 79, 102]]
def initSigns : List Nat := [104, 97, 114, 110, 101, 115, 115, 32, 99, 50, 97, 57, 99, 53, 99, 98, 51, 100, 102, 52, 101, 54, 53, 102, 98, 54, 56, 54, 50, 49, 54, 50, 51, 101, 49, 57, 49, 54, 53, 56, 97, 57, 50, 50, 98, 98, 99, 101, 99, 53, 52, 57, 98, 54, 102, 100, 99, 101, 49, 55, 50, 52, 48, 53, 57, 56, 50, 49, 100, 56, 56, 52, 32, 99, 117, 116] ++ initRest.flatMap fun x => 32 :: x
theorem init_split : behindMainWord (wordsSigns (initSigns.map Char.ofNat)) = cutW :: initRest.map (fun w => w.map Char.ofNat) := by kernel_rfl
theorem init_order : Try.prog.initOrder = String.ofList (initSigns.map Char.ofNat) := by kernel_rfl
theorem init_cut : behindMainWord (wordsSigns Try.prog.initOrder.toList) = cutW :: initRest.map (fun w => w.map Char.ofNat) :=
 (congrArg (fun s : String => behindMainWord (wordsSigns s.toList)) init_order).trans ((congrArg (fun l => behindMainWord (wordsSigns l)) String.toList_ofList).trans init_split)
theorem Try.laysLater : Try.prog.laysLater = false := by kernel_rfl
theorem Try.bearsReflect : Try.prog.bearsReflect = false := by kernel_rfl
theorem Try.doorFits : Try.prog.doorFits [] = true := by kernel_rfl
theorem Try.mayEnter : Try.pinned.checked.prog.mayEnter = true := mayEnter_cut init_cut Try.laysLater Try.bearsReflect Try.doorFits
theorem Try.liftsFinal : Try.pinned.checked.prog.liftsFinal = false := lifts_cut init_cut
theorem Try.make : Try.pinned.checked.prog.make = some .cut := make_cut init_cut
end Go.Proofs.Ytobcdekochenfaa
end
