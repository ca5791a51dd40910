/-
  What the rows of this claim rest on: arrays of bytes, walks of the functions, plain mathematics.
-/
import Derived.Test.YteloknnooebabaaZr2
import Derived.OpenShut
import Derived.ProofKit
import Derived.Test.YteloknnooebabaaRows
import Derived.JoinedOf
set_option maxRecDepth 100000
set_option maxHeartbeats 9000000
set_option linter.unusedVariables false
set_option linter.unusedSimpArgs false
namespace Go.Proofs.Yteloknnooebabaa
open Go Go.RowKit
def caC (p : Nat) (m : Nat → Nat) : List Value := .int .i64 (p : Int) :: bl 64 m
theorem caC_len (p : Nat) (m : Nat → Nat) : (caC p m).length = 65 := by simp [caC, bl]
theorem caC_at (p : Nat) (m : Nat → Nat) : (caC p m).toArray[0]? = some (.int .i64 (p : Int)) := by simp [caC]
theorem built_ca (p : Nat) (m : Nat → Nat) : Try.prog.built 119 [(0, .int .i64 (p : Int)), (1, .agg (zb 64 m))] = some (caC p m).toArray := by unfold caC zb bl; kernel_rfl
theorem Row.ca {w : World} {b p : Nat} {m : Nat → Nat} (h : Row w b 119 (caC p m).toArray) : w.rangeAt b 1 (bl 64 m) := by
 intro j v hv
 have := h.range (j + 1) v (by unfold caC; simpa using hv)
 rw [Nat.zero_add] at this
 rw [Nat.add_comm]; exact this
theorem wp_load_rowv {P : Program} {o : Oper} {a : Act} {w : World} {K : Act → World → Prop} {Q : Exit → Act → World → Prop} (ty : TypeId) (x : Operand) (ho : o.op = .load ty x)
 (b : Nat) (hx : a.eval x = .pointer (some ⟨b, 0, none⟩)) (t : TypeId) (cs : Array Value) (hb : Row w b t cs) (d : TypeDesc)
 (hu : P.underlying ty = some d) (hd : (match d with | .struct _ | .array _ _ => true | _ => false) = true) (n : Nat) (hi : (P.info? ty).map (·.size) = some n) (hn : cs.size = n) (h : K (a.put o.dst (.agg cs)) w) : o.wp P a w K Q := by
 have hb' : w.heap[b]? = some (.cells cs t (0, 0)) := by unfold Row at hb; exact hb
 exact wp_load_row ty x ho b hx t _ (0, 0) d hb' hu hd (by rw [hi, hn]) h
theorem wpList_buildF {P : Program} {ops : Array Oper} {rest : List Oper} {o : Oper} {a : Act} {w : World} {Q : Exit → Act → World → Prop} (hg : o.guard = none) (t : TypeId) (parts : Array (Nat × Operand)) (f1 f2 : Fn) (r1 r2 c1 c2 : Array Value)
 (ho : o.op = .buildSlice t 2 parts) (e : TypeId) (hu : P.underlying t = some (.slice e)) (hie : (P.info? e).map (fun i => (i.size, i.zero.isSome)) = some (1, true))
 (hp : (parts.toList.map fun x => (x.1, a.eval x.2)) = [(0, Value.func f1 r1 c1), (1, Value.func f2 r2 c2)])
 (h : ∀ w', Row w' w.heap.size e #[.func f1 r1 c1, .func f2 r2 c2] → Below w.heap.size w w' → wpList P ops Q rest (a.put o.dst (.slice (some ⟨w.heap.size, 0, none⟩) 2 2)) w') : wpList P ops Q (o :: rest) a w := by
 cases hi : P.info? e with
 | none => simp [hi] at hie
 | some ie =>
  simp only [hi, Option.map_some, Option.some.injEq, Prod.mk.injEq] at hie
  obtain ⟨hs, hz⟩ := hie
  obtain ⟨z, hzz⟩ := Option.isSome_iff_exists.1 hz
  refine wpList_buildSlice hg t e 2 parts ho _ ie z hu hi hzz (by rw [hs]; omega) (by rw [hs]; omega) ?_ (h _ (Row.new w e #[.func f1 r1 c1, .func f2 r2 c2]) (zal _ _))
  rw [Array.toList_map, hp, hs]
  obtain ⟨old, hold⟩ : ∃ old, old = (Array.range (2 * 1)).map (z.cells[· % z.cells.size]!) := ⟨_, rfl⟩
  have hsz : old.size = 2 := by rw [hold]; simp
  rw [← hold]
  obtain ⟨l⟩ := old
  match l, hsz with
  | [u, v], _ => simp [Instr.fill, Value.cells]
theorem Try.size119 : (Try.prog.info? 119).map (·.size) = some 65 := by kernel_rfl
theorem Try.elemF : (Try.prog.info? 116).map (fun i => (i.size, i.zero.isSome)) = some (1, true) := by kernel_rfl
def spS (q : Nat) (x : Nat → Nat) (j : Nat) : Nat → Nat := fun k => if k % q = 0 ∧ k / q < j then x (k / q) else 0
theorem spS_z (q : Nat) (x : Nat → Nat) : spS q x 0 = fun _ => 0 := by funext k; unfold spS; rw [if_neg (fun h => Nat.not_lt_zero _ h.2)]
theorem spS_s {q j : Nat} {x : Nat → Nat} (hq : 1 ≤ q) (k : Nat) : (if k = j * q then x j else spS q x j k) = spS q x (j + 1) k := by
 unfold spS
 by_cases h : k = j * q
 · subst h
   have e1 : j * q % q = 0 := Nat.mul_mod_left j q
   have e2 : j * q / q = j := Nat.mul_div_cancel j (by omega)
   rw [if_pos rfl, e1, e2, if_pos ⟨rfl, by omega⟩]
 rw [if_neg h]
 by_cases h1 : k % q = 0
 · have e := Nat.div_add_mod k q
   have : k / q ≠ j := by
    intro h2; rw [h2, h1, Nat.add_zero, Nat.mul_comm] at e; omega
   by_cases h3 : k / q < j
   · rw [if_pos ⟨h1, h3⟩, if_pos ⟨h1, by omega⟩]
   rw [if_neg (fun h => h3 h.2), if_neg (fun h => by have := h.2; omega)]
 rw [if_neg (fun h => h1 h.1), if_neg (fun h => h1 h.1)]
theorem spS_end {q n : Nat} {x : Nat → Nat} (h : deg x < (n : Int)) : ∀ k, k < 64 → spS q x n k = strP q x k := by
 intro k hk
 unfold spS strP
 by_cases h1 : k % q = 0
 · rw [if_pos h1]
   by_cases h2 : k / q < n
   · rw [if_pos ⟨h1, h2⟩]
   rw [if_neg (fun h => h2 h.2)]
   have h3 : k / q < 64 := Nat.lt_of_le_of_lt (Nat.div_le_self _ _) hk
   rcases deg_spec x with ⟨_, h5⟩ | ⟨d, hd, h4, _, h5⟩
   · exact (h5 _ h3).symm
   exact (h5 _ (by omega) h3).symm
 rw [if_neg (fun h => h1 h.1), if_neg h1]
attribute [local irreducible] deg invN dS qS stp stpr quoP resP oneP upP upF hmR mmP shA addK pmP TP stP stI strP caC
theorem stretched_any (q : Nat) (f : Nat → Nat) (w : World) (hq : 1 ≤ q) (hq2 : q ≤ 1000000) (hf : ∀ k, k < 64 → f k < 256) (hd : deg f * (q : Int) ≤ 63) :
 Calls Try.prog 223 #[.agg (zb 64 f), .int .i64 (q : Int)] w fun e w' => e = .returned (.agg (zb 64 (strP q f))) ∧ Below w.heap.size w w' := by
 obtain ⟨gb1, gb2⟩ := zdb f
 obtain ⟨NN, hNN⟩ : ∃ NN : Nat, deg f = (NN : Int) - 1 := ⟨(deg f + 1).toNat, by omega⟩
 have HD := Lib.hid hNN
 have hN6 : NN ≤ 64 := by omega
 have HQ := Lib.hid (show ∀ j, j < NN → j * q ≤ 63 from fun j hj => by
  rw [hNN] at hd
  have h1 : (j : Int) * (q : Int) ≤ ((NN : Int) - 1) * (q : Int) := Int.mul_le_mul_of_nonneg_right (by omega) (by omega)
  have h2 : (j : Int) * (q : Int) ≤ 63 := by omega
  exact_mod_cast h2)
 have HV := Lib.hid (zbc (spS_end (q := q) (x := f) (n := NN) (by omega)))
 have HSS := Lib.hid (fun j k => spS_s (q := q) (j := j) (x := f) hq k)
 have HZ := Lib.hid (spS_z q f)
 clear hNN hd
 go_enter Try.func223, Try.ntmps223
 go_upto_region 1 with (fail)
 rw [← z64]
 obtain ⟨W1, hwo⟩ : ∃ v : World, v = ((w.alloc (.cells (zb 64 (f)) 24)).alloc (.cells (zb 64 fun _ => 0) 24)) := ⟨_, rfl⟩
 have B0 : Blk W1 (w.heap.size) 64 24 (f) := by subst hwo; have := ((Blk.new w 64 24 (f)).alloc (.cells (zb 64 fun _ => 0) 24)); simpa using this
 have B1 : Blk W1 (w.heap.size + 1) 64 24 (fun _ => 0) := by subst hwo; have := (Blk.new (w.alloc (.cells (zb 64 (f)) 24)) 64 24 (fun _ => 0)); simpa using this
 have hb : Below w.heap.size w W1 := by subst hwo; exact (((Below.refl _ _).alloc (Nat.le_refl _) _).alloc (by simp) _)
 rw [← hwo]
 clear hwo
 go_upto_region 2 with (first | rw [← z64])
 have lt_B0 := B0.lt
 have lt_B1 := B1.lt
 have lhb := hb.size
 obtain ⟨W2, hwo, hzQ⟩ : ∃ v : World, v = (W1.alloc (.cells (zb 64 fun _ => 0) 24)) ∧ Blk v (w.heap.size) 64 24 (f) ∧ Blk v (w.heap.size + 1) 64 24 (fun _ => 0) ∧ Blk v (W1.heap.size) 64 24 (fun _ => 0) ∧ Below w.heap.size w v := ⟨_, rfl, (B0.alloc (.cells (zb 64 fun _ => 0) 24)), (B1.alloc (.cells (zb 64 fun _ => 0) 24)), (Blk.new W1 64 24 (fun _ => 0)), (hb.alloc (by have := hb.size; simp; omega) (.cells (zb 64 fun _ => 0) 24))⟩
 rw [← hwo]
 clear hwo B0 B1 hb
 obtain ⟨B0, B1, B2, hb⟩ := hzQ
 obtain ⟨N1, hNN⟩ : ∃ n : Nat, n = W1.heap.size := ⟨_, rfl⟩
 rw [← hNN] at lt_B0 lt_B1 lhb B2 ⊢
 clear hNN
 have zN1_0 := lt_B0
 have zN1_1 := lt_B1
 have zN1 := lhb
 clear lt_B0 lt_B1 lhb
 try simp only [Act.put, pA, pB, pC]
 go_upto_region 99 with (first | (refine zla (.tmp 2) B0 Try.underlying24 Try.size24 ?_) | (go_at_call 150; refine (degree_any f _).mono ?_; rintro e W3 ⟨rfl, hW3⟩; replace B0 := B0.zw hW3; replace B1 := B1.zw hW3; replace B2 := B2.zw hW3; replace hb := (hb).trans (hW3.mono (hb).size); rw [HD.out]))
 have hcnt : ((NN : Int) - 1 + 1) = (NN : Int) := by omega
 go_loopw [10] (fun i wr => ∃ j : Nat, i = .int .i64 (j : Int) ∧ j ≤ NN ∧ Below w.heap.size w wr ∧ Blk wr (w.heap.size) 64 24 f ∧ Blk wr (w.heap.size + 1) 64 24 (fun _ => 0) ∧ Blk wr (N1) 64 24 (spS q f j)) (fun i _ => NN - (intOf i).toNat)
 case atStart => exact ⟨0, rfl, Nat.zero_le _, hb, B0, B1, by rw [HZ.out]; exact B2⟩
 case round =>
  clear hb B0 B1 B2
  obtain ⟨j, rfl, hjn, hb, B0, B1, B2⟩ := hrel
  by_cases hj : j < NN
  · have hji : (j : Int) < (NN : Int) - 1 + 1 := by omega
    have hj6 : j < 64 := by omega
    have hjq := HQ.out j hj
    obtain ⟨J, hJ⟩ : ∃ J, J = j * q := ⟨_, rfl⟩
    have hJi : (j : Int) * (q : Int) = (J : Int) := by rw [hJ]; push_cast; rfl
    have hJ6 : J < 64 := by omega
    have hC6 := hf j hj6
    have HSJ := Lib.hid (show ∀ k, (if k = J then f j else spS q f j k) = spS q f (j + 1) k from fun k => by rw [hJ]; exact HSS.out j k)
    clear hjq
    go_upto_region 5 with (fail)
    have cc := B0.cell (i := j) hj6
    have c5 := B2.cell (i := J) hJ6
    have zz := B2.frozen J
    clear hJ
    have hwr : ∀ x : Int, x = (J : Int) → 0 ≤ x ∧ x < 64 := fun x e => by omega
    go_upto_region 6 with (first | rw [hJi])
    clear cc c5 zz hwr
    have lt_B0 := B0.lt
    have lt_B1 := B1.lt
    have lt_B2 := B2.lt
    have qB0 : Blk (wr.setCell ⟨N1, J, none⟩ (.int .u8 ((f j : Int)))) (w.heap.size) 64 24 (f) := (B0.setOther (by show (w.heap.size) ≠ (N1); omega))
    have qB1 : Blk (wr.setCell ⟨N1, J, none⟩ (.int .u8 ((f j : Int)))) (w.heap.size + 1) 64 24 (fun _ => 0) := (B1.setOther (by show (w.heap.size + 1) ≠ (N1); omega))
    have qB2 : Blk (wr.setCell ⟨N1, J, none⟩ (.int .u8 ((f j : Int)))) (N1) 64 24 (spS q f (j + 1)) := ((B2.set (v := f j) (rfl)).congr (fun k _ => HSJ.out k))
    have qhb : Below w.heap.size w (wr.setCell ⟨N1, J, none⟩ (.int .u8 ((f j : Int)))) := (hb.setCell (by show w.heap.size ≤ (N1); omega) _)
    obtain ⟨W4, hwo⟩ : ∃ v : World, v = (wr.setCell ⟨N1, J, none⟩ (.int .u8 ((f j : Int)))) := ⟨_, rfl⟩
    rw [← hwo] at qB0 qB1 qB2 qhb ⊢
    clear hwo
    clear B0 B1 B2 hb
    have B0 := qB0
    have B1 := qB1
    have B2 := qB2
    have hb := qhb
    clear qB0 qB1 qB2 qhb
    try simp only [Act.put, pA, pB, pC]
    go_wp2_with fail
    go_roundw
    case rel => exact ⟨j + 1, by go_num, by omega, hb, B0, B1, B2⟩
    case measure => simp [intOf] <;> omega
  have hji : ¬ (j : Int) < (NN : Int) - 1 + 1 := by omega
  obtain rfl : j = NN := by omega
  go_upto_region 7 with (fail)
  have lt_B0 := B0.lt
  have lt_B1 := B1.lt
  have lt_B2 := B2.lt
  go_wp2_with (first | rw [← z64] | (refine zla (.tmp 5) B2 Try.underlying24 Try.size24 ?_) | (refine zsr (.tmp 4) (.tmp 21) (spS q f j) B1 Try.size24 ?_; try simp only [Act.put]))
  obtain ⟨W4, hwo, hzQ⟩ : ∃ v : World, v = (wr.setRow (w.heap.size + 1) (zb 64 (spS q f j))) ∧ Blk v (w.heap.size) 64 24 (f) ∧ Blk v (w.heap.size + 1) 64 24 (spS q f j) ∧ Blk v (N1) 64 24 (spS q f j) ∧ Below w.heap.size w v := ⟨_, rfl, (B0.rowOther (by omega)), (B1.row (spS q f j)), (B2.rowOther (by omega)), (zr hb (by omega) _)⟩
  rw [← hwo]
  clear hwo B0 B1 B2 hb
  obtain ⟨B0, B1, B2, hb⟩ := hzQ
  try simp only [Act.put, pA, pB, pC]
  refine bodyPost_ret (zrb rfl _ _ _ 64 24 5 _ rfl B1 Try.underlying24 Try.size24) rfl ⟨by rw [HV.out], hb⟩
theorem shifted_any (p : Nat) (f m : Nat → Nat) (w : World) (hpr : p = 2 ∨ p = 3 ∨ p = 5 ∨ p = 7) (lf : ∀ k, k < 64 → f k < p) (lm : ∀ k, k < 64 → m k < p) (h0 : 0 ≤ deg m) :
 Calls Try.prog 229 #[.agg (caC p m).toArray, .agg (zb 64 f)] w fun e w' => e = .returned (.agg (zb 64 (resP p (prd p TP f) m))) ∧ Below w.heap.size w w' := by
 have p0 : 0 < p := by omega
 have p2 : 2 ≤ p := by omega
 have p7 : p ≤ 7 := by omega
 have lT : ∀ k, k < 64 → TP k < p := fun k _ => TP_lt p2 k
 have HPR := Lib.hid (fun W => product_any p TP f W p2 p7 lT lf)
 have HRO := Lib.hid (fun W => restOf_any p (prd p TP f) m W hpr (fun k _ => prd_lt p0 k) lm h0)
 go_enter Try.func229, Try.ntmps229
 go_upto_region 1 with (fail)
 rw [← z64]
 obtain ⟨W1, hwo⟩ : ∃ v : World, v = (((w.alloc (.cells (caC p m).toArray 119)).alloc (.cells (zb 64 (f)) 24)).alloc (.cells (zb 64 fun _ => 0) 24)) := ⟨_, rfl⟩
 have B0 : Row W1 (w.heap.size) 119 (caC p m).toArray := by subst hwo; have := (((Row.new w 119 (caC p m).toArray).alloc (.cells (zb 64 (f)) 24)).alloc (.cells (zb 64 fun _ => 0) 24)); simpa using this
 have B1 : Blk W1 (w.heap.size + 1) 64 24 (f) := by subst hwo; have := ((Blk.new (w.alloc (.cells (caC p m).toArray 119)) 64 24 (f)).alloc (.cells (zb 64 fun _ => 0) 24)); simpa using this
 have B2 : Blk W1 (w.heap.size + 1 + 1) 64 24 (fun _ => 0) := by subst hwo; have := (Blk.new ((w.alloc (.cells (caC p m).toArray 119)).alloc (.cells (zb 64 (f)) 24)) 64 24 (fun _ => 0)); simpa using this
 have hb : Below w.heap.size w W1 := by subst hwo; exact ((((Below.refl _ _).alloc (Nat.le_refl _) _).alloc (by simp) _).alloc (by simp; omega) _)
 rw [← hwo]
 clear hwo
 have lt_B0 : (w.heap.size) < W1.heap.size := B0.lt
 have lt_B1 : (w.heap.size + 1) < W1.heap.size := B1.lt
 have lt_B2 : (w.heap.size + 1 + 1) < W1.heap.size := B2.lt
 have hbase : w.heap.size ≤ W1.heap.size := hb.size
 refine zq Try.mixed (by kernel_rfl) (by kernel_rfl) (fun v => by (simp only [frL, Act.put, pA, pB, pC, Nat.reduceAdd, Nat.zero_add]; exact rfl))
  (fun L v W2 => Below w.heap.size w W2 ∧ W1.heap.size ≤ W2.heap.size ∧ Row W2 (w.heap.size) 119 (caC p m).toArray ∧ Blk W2 (w.heap.size + 1) 64 24 (f) ∧ (∃ g, Blk W2 (w.heap.size + 1 + 1) 64 24 (g)) ∧ (L 10 = false → Blk W2 (w.heap.size + 1 + 1) 64 24 (fun _ => 0)) ∧ (L 10 = true → Blk W2 (w.heap.size + 1 + 1) 64 24 (resP p (prd p TP f) m)) ∧ (L 0 = true → v 0 = (.pointer (some ⟨w.heap.size, 0, none⟩))) ∧ (L 1 = true → v 1 = (.int .i64 (p : Int))) ∧ (L 2 = true → v 2 = (.pointer (some ⟨w.heap.size, 0, none⟩))) ∧ (L 3 = true → v 3 = (.int .i64 (p : Int))) ∧ (L 4 = true → v 4 = (.agg (zb 64 (TP)))) ∧ (L 5 = true → v 5 = (.agg (zb 64 (f)))) ∧ (L 6 = true → v 6 = (.agg (zb 64 (prd p TP f)))) ∧ (L 7 = true → v 7 = (.pointer (some ⟨w.heap.size, 1, none⟩))) ∧ (L 8 = true → v 8 = (.agg (zb 64 (m)))) ∧ (L 9 = true → v 9 = (.agg (zb 64 (resP p (prd p TP f) m))))) ?_ ?_ ?_
 · intro v hv0
   exact ⟨hb.drew, Nat.le_refl _, B0.drew, B1.drew, ⟨_, B2.drew⟩, (fun _ => B2.drew), (fun h => by cases h), (fun h => by cases h), (fun h => by cases h), (fun h => by cases h), (fun h => by cases h), (fun h => by cases h), (fun h => by cases h), (fun h => by cases h), (fun h => by cases h), (fun h => by cases h), (fun h => by cases h)⟩
 · refine (.cons rfl ?_ (.cons rfl ?_ (.cons rfl ?_ (.cons rfl ?_ (.cons rfl ?_ (.cons rfl ?_ (.cons rfl ?_ (.cons rfl ?_ (.cons rfl ?_ (.cons rfl ?_ (.cons rfl ?_ (.nil _))))))))))))
   all_goals intro L v W2 hd hn ⟨hB, hz, s0, s1, x2, q2, n2, h0, h1, h2, h3, h4, h5, h6, h7, h8, h9⟩ K hK
   · go_wp2_with fail
     exact hK _ (.pointer (some ⟨w.heap.size, 0, none⟩)) _ (by simp only [Act.put, pA, pB, pC ]) ⟨hB, hz, s0, s1, x2, q2, n2, (fun _ => rfl), h1, h2, h3, h4, h5, h6, h7, h8, h9⟩
   · have e0 := h0 (zdq hd 0 rfl)
     have cc := s0.cell (i := 0) (v := .int .i64 (p : Int)) (caC_at p m)
     go_wp2_with fail
     exact hK _ (.int .i64 (p : Int)) _ (by simp only [Act.put, pA, pB, pC, e0]) ⟨hB, hz, s0, s1, x2, q2, n2, h0, (fun _ => rfl), h2, h3, h4, h5, h6, h7, h8, h9⟩
   · go_wp2_with fail
     exact hK _ (.pointer (some ⟨w.heap.size, 0, none⟩)) _ (by simp only [Act.put, pA, pB, pC ]) ⟨hB, hz, s0, s1, x2, q2, n2, h0, h1, (fun _ => rfl), h3, h4, h5, h6, h7, h8, h9⟩
   · have e2 := h2 (zdq hd 2 rfl)
     have cc := s0.cell (i := 0) (v := .int .i64 (p : Int)) (caC_at p m)
     go_wp2_with fail
     exact hK _ (.int .i64 (p : Int)) _ (by simp only [Act.put, pA, pB, pC, e2]) ⟨hB, hz, s0, s1, x2, q2, n2, h0, h1, h2, (fun _ => rfl), h4, h5, h6, h7, h8, h9⟩
   · refine wp_build_of 24 _ rfl (zb 64 TP) (by rw [Array.toList_map]; exact built_T) ?_
     exact hK _ _ _ rfl ⟨hB, hz, s0, s1, x2, q2, n2, h0, h1, h2, h3, (fun _ => rfl), h5, h6, h7, h8, h9⟩
   · refine zlc s1 Try.underlying24 Try.size24 ?_
     exact hK _ _ _ rfl ⟨hB, hz, s0, s1, x2, q2, n2, h0, h1, h2, h3, h4, (fun _ => rfl), h6, h7, h8, h9⟩
   · have e3 := h3 (zdq hd 3 rfl)
     have e4 := h4 (zdq hd 4 rfl)
     have e5 := h5 (zdq hd 5 rfl)
     go_wp2_with (go_at_call 134; refine (HPR.out _).mono ?_; rintro e wy ⟨rfl, hy⟩)
     exact hK _ (.agg (zb 64 (prd p TP f))) _ (by simp only [Act.put, pA, pB, pC, e3, e4, e5]) ⟨hB.trans (hy.mono hB.size), (Nat.le_trans hz hy.size), s0.zw hy, s1.zw hy, (let ⟨g, h⟩ := x2; ⟨g, h.zw hy⟩), (fun h => (q2 h).below hy (q2 h).lt), (fun h => (n2 h).below hy (n2 h).lt), h0, h1, h2, h3, h4, h5, (fun _ => rfl), h7, h8, h9⟩
   · go_wp2_with fail
     exact hK _ (.pointer (some ⟨w.heap.size, 1, none⟩)) _ (by simp only [Act.put, pA, pB, pC ]) ⟨hB, hz, s0, s1, x2, q2, n2, h0, h1, h2, h3, h4, h5, h6, (fun _ => rfl), h8, h9⟩
   · have e7 := h7 (zdq hd 7 rfl)
     refine wp_load_mid 24 _ rfl _ 1 e7 _ _ (s0.ca) Try.underlying24 rfl (by rw [zl]; exact Try.size24) ?_
     exact hK _ _ _ rfl ⟨hB, hz, s0, s1, x2, q2, n2, h0, h1, h2, h3, h4, h5, h6, h7, (fun _ => rfl), h9⟩
   · have e1 := h1 (zdq hd 1 rfl)
     have e6 := h6 (zdq hd 6 rfl)
     have e8 := h8 (zdq hd 8 rfl)
     go_wp2_with (go_at_call 121; refine (HRO.out _).mono ?_; rintro e wy ⟨rfl, hy⟩)
     exact hK _ (.agg (zb 64 (resP p (prd p TP f) m))) _ (by simp only [Act.put, pA, pB, pC, e1, e6, e8]) ⟨hB.trans (hy.mono hB.size), (Nat.le_trans hz hy.size), s0.zw hy, s1.zw hy, (let ⟨g, h⟩ := x2; ⟨g, h.zw hy⟩), (fun h => (q2 h).below hy (q2 h).lt), (fun h => (n2 h).below hy (n2 h).lt), h0, h1, h2, h3, h4, h5, h6, h7, h8, (fun _ => rfl)⟩
   have e9 := h9 (zdq hd 9 rfl)
   obtain ⟨gz, hk⟩ := x2
   refine zsb 24 _ _ rfl _ 64 (resP p (prd p TP f) m) rfl e9 24 gz hk Try.size24 ?_
   exact hK _ undef _ rfl ⟨zr hB (by omega) _, (by simpa [World.setRow] using hz), (s0).rowOther (by omega), (s1).rowOther (by omega), ⟨_, hk.row _⟩, (fun h => absurd h (by simp [setL])), (fun _ => hk.row _), h0, h1, h2, h3, h4, h5, h6, h7, h8, h9⟩
 intro L v W2 hL ⟨hB, hz, s0, s1, x2, q2, n2, h0, h1, h2, h3, h4, h5, h6, h7, h8, h9⟩
 have r2 := n2 (hL 10 (by decide))
 have e0 := h0 (hL 0 (by decide))
 have e1 := h1 (hL 1 (by decide))
 have e2 := h2 (hL 2 (by decide))
 have e3 := h3 (hL 3 (by decide))
 have e4 := h4 (hL 4 (by decide))
 have e5 := h5 (hL 5 (by decide))
 have e6 := h6 (hL 6 (by decide))
 have e7 := h7 (hL 7 (by decide))
 have e8 := h8 (hL 8 (by decide))
 have e9 := h9 (hL 9 (by decide))
 clear hL x2 q2 n2 h0 h1 h2 h3 h4 h5 h6 h7 h8 h9
 simp only [Exit.then, e0, e1, e2, e3, e4, e5, e6, e7, e8, e9]
 clear e0 e1 e2 e3 e4 e5 e6 e7 e8 e9
 replace B0 := s0
 clear s0
 replace B1 := s1
 clear s1
 replace B2 := r2
 clear r2
 replace hb := hB
 clear hB
 clear hbase hz lt_B0 lt_B1 lt_B2
 go_wp2_with fail
 refine bodyPost_ret (zrb rfl _ _ _ 64 24 5 _ rfl B2 Try.underlying24 Try.size24) rfl ⟨rfl, hb⟩
theorem frobeniusC_any (p : Nat) (f m : Nat → Nat) (w : World) (hpr : p = 2 ∨ p = 3 ∨ p = 5 ∨ p = 7) (lf : ∀ k, k < 64 → f k < p) (lm : ∀ k, k < 64 → m k < p) (h0 : 0 ≤ deg m) (hd : deg f * (p : Int) ≤ 63) :
 Calls Try.prog 230 #[.agg (caC p m).toArray, .agg (zb 64 f)] w fun e w' => e = .returned (.agg (zb 64 (resP p (strP p f) m))) ∧ Below w.heap.size w w' := by
 have p0 : 0 < p := by omega
 have p2 : 2 ≤ p := by omega
 have p7 : p ≤ 7 := by omega
 have HPR := Lib.hid (fun W => stretched_any p f W (by omega) (by omega) (fun k hk => by have := lf k hk; omega) hd)
 have HRO := Lib.hid (fun W => restOf_any p (strP p f) m W hpr (strP_lt p0 (by omega) lf) lm h0)
 go_enter Try.func230, Try.ntmps230
 go_upto_region 1 with (fail)
 rw [← z64]
 obtain ⟨W1, hwo⟩ : ∃ v : World, v = (((w.alloc (.cells (caC p m).toArray 119)).alloc (.cells (zb 64 (f)) 24)).alloc (.cells (zb 64 fun _ => 0) 24)) := ⟨_, rfl⟩
 have B0 : Row W1 (w.heap.size) 119 (caC p m).toArray := by subst hwo; have := (((Row.new w 119 (caC p m).toArray).alloc (.cells (zb 64 (f)) 24)).alloc (.cells (zb 64 fun _ => 0) 24)); simpa using this
 have B1 : Blk W1 (w.heap.size + 1) 64 24 (f) := by subst hwo; have := ((Blk.new (w.alloc (.cells (caC p m).toArray 119)) 64 24 (f)).alloc (.cells (zb 64 fun _ => 0) 24)); simpa using this
 have B2 : Blk W1 (w.heap.size + 1 + 1) 64 24 (fun _ => 0) := by subst hwo; have := (Blk.new ((w.alloc (.cells (caC p m).toArray 119)).alloc (.cells (zb 64 (f)) 24)) 64 24 (fun _ => 0)); simpa using this
 have hb : Below w.heap.size w W1 := by subst hwo; exact ((((Below.refl _ _).alloc (Nat.le_refl _) _).alloc (by simp) _).alloc (by simp; omega) _)
 rw [← hwo]
 clear hwo
 have lt_B0 : (w.heap.size) < W1.heap.size := B0.lt
 have lt_B1 : (w.heap.size + 1) < W1.heap.size := B1.lt
 have lt_B2 : (w.heap.size + 1 + 1) < W1.heap.size := B2.lt
 have hbase : w.heap.size ≤ W1.heap.size := hb.size
 refine zq Try.mixed (by kernel_rfl) (by kernel_rfl) (fun v => by (simp only [frL, Act.put, pA, pB, pC, Nat.reduceAdd, Nat.zero_add]; exact rfl))
  (fun L v W2 => Below w.heap.size w W2 ∧ W1.heap.size ≤ W2.heap.size ∧ Row W2 (w.heap.size) 119 (caC p m).toArray ∧ Blk W2 (w.heap.size + 1) 64 24 (f) ∧ (∃ g, Blk W2 (w.heap.size + 1 + 1) 64 24 (g)) ∧ (L 9 = false → Blk W2 (w.heap.size + 1 + 1) 64 24 (fun _ => 0)) ∧ (L 9 = true → Blk W2 (w.heap.size + 1 + 1) 64 24 (resP p (strP p f) m)) ∧ (L 0 = true → v 0 = (.pointer (some ⟨w.heap.size, 0, none⟩))) ∧ (L 1 = true → v 1 = (.int .i64 (p : Int))) ∧ (L 2 = true → v 2 = (.agg (zb 64 (f)))) ∧ (L 3 = true → v 3 = (.pointer (some ⟨w.heap.size, 0, none⟩))) ∧ (L 4 = true → v 4 = (.int .i64 (p : Int))) ∧ (L 5 = true → v 5 = (.agg (zb 64 (strP p f)))) ∧ (L 6 = true → v 6 = (.pointer (some ⟨w.heap.size, 1, none⟩))) ∧ (L 7 = true → v 7 = (.agg (zb 64 (m)))) ∧ (L 8 = true → v 8 = (.agg (zb 64 (resP p (strP p f) m))))) ?_ ?_ ?_
 · intro v hv0
   exact ⟨hb.drew, Nat.le_refl _, B0.drew, B1.drew, ⟨_, B2.drew⟩, (fun _ => B2.drew), (fun h => by cases h), (fun h => by cases h), (fun h => by cases h), (fun h => by cases h), (fun h => by cases h), (fun h => by cases h), (fun h => by cases h), (fun h => by cases h), (fun h => by cases h), (fun h => by cases h)⟩
 · refine (.cons rfl ?_ (.cons rfl ?_ (.cons rfl ?_ (.cons rfl ?_ (.cons rfl ?_ (.cons rfl ?_ (.cons rfl ?_ (.cons rfl ?_ (.cons rfl ?_ (.cons rfl ?_ (.nil _)))))))))))
   all_goals intro L v W2 hd hn ⟨hB, hz, s0, s1, x2, q2, n2, h0, h1, h2, h3, h4, h5, h6, h7, h8⟩ K hK
   · go_wp2_with fail
     exact hK _ (.pointer (some ⟨w.heap.size, 0, none⟩)) _ (by simp only [Act.put, pA, pB, pC ]) ⟨hB, hz, s0, s1, x2, q2, n2, (fun _ => rfl), h1, h2, h3, h4, h5, h6, h7, h8⟩
   · have e0 := h0 (zdq hd 0 rfl)
     have cc := s0.cell (i := 0) (v := .int .i64 (p : Int)) (caC_at p m)
     go_wp2_with fail
     exact hK _ (.int .i64 (p : Int)) _ (by simp only [Act.put, pA, pB, pC, e0]) ⟨hB, hz, s0, s1, x2, q2, n2, h0, (fun _ => rfl), h2, h3, h4, h5, h6, h7, h8⟩
   · refine zlc s1 Try.underlying24 Try.size24 ?_
     exact hK _ _ _ rfl ⟨hB, hz, s0, s1, x2, q2, n2, h0, h1, (fun _ => rfl), h3, h4, h5, h6, h7, h8⟩
   · go_wp2_with fail
     exact hK _ (.pointer (some ⟨w.heap.size, 0, none⟩)) _ (by simp only [Act.put, pA, pB, pC ]) ⟨hB, hz, s0, s1, x2, q2, n2, h0, h1, h2, (fun _ => rfl), h4, h5, h6, h7, h8⟩
   · have e3 := h3 (zdq hd 3 rfl)
     have cc := s0.cell (i := 0) (v := .int .i64 (p : Int)) (caC_at p m)
     go_wp2_with fail
     exact hK _ (.int .i64 (p : Int)) _ (by simp only [Act.put, pA, pB, pC, e3]) ⟨hB, hz, s0, s1, x2, q2, n2, h0, h1, h2, h3, (fun _ => rfl), h5, h6, h7, h8⟩
   · have e2 := h2 (zdq hd 2 rfl)
     have e4 := h4 (zdq hd 4 rfl)
     go_wp2_with (go_at_call 223; refine (HPR.out _).mono ?_; rintro e wy ⟨rfl, hy⟩)
     exact hK _ (.agg (zb 64 (strP p f))) _ (by simp only [Act.put, pA, pB, pC, e2, e4]) ⟨hB.trans (hy.mono hB.size), (Nat.le_trans hz hy.size), s0.zw hy, s1.zw hy, (let ⟨g, h⟩ := x2; ⟨g, h.zw hy⟩), (fun h => (q2 h).below hy (q2 h).lt), (fun h => (n2 h).below hy (n2 h).lt), h0, h1, h2, h3, h4, (fun _ => rfl), h6, h7, h8⟩
   · go_wp2_with fail
     exact hK _ (.pointer (some ⟨w.heap.size, 1, none⟩)) _ (by simp only [Act.put, pA, pB, pC ]) ⟨hB, hz, s0, s1, x2, q2, n2, h0, h1, h2, h3, h4, h5, (fun _ => rfl), h7, h8⟩
   · have e6 := h6 (zdq hd 6 rfl)
     refine wp_load_mid 24 _ rfl _ 1 e6 _ _ (s0.ca) Try.underlying24 rfl (by rw [zl]; exact Try.size24) ?_
     exact hK _ _ _ rfl ⟨hB, hz, s0, s1, x2, q2, n2, h0, h1, h2, h3, h4, h5, h6, (fun _ => rfl), h8⟩
   · have e1 := h1 (zdq hd 1 rfl)
     have e5 := h5 (zdq hd 5 rfl)
     have e7 := h7 (zdq hd 7 rfl)
     go_wp2_with (go_at_call 121; refine (HRO.out _).mono ?_; rintro e wy ⟨rfl, hy⟩)
     exact hK _ (.agg (zb 64 (resP p (strP p f) m))) _ (by simp only [Act.put, pA, pB, pC, e1, e5, e7]) ⟨hB.trans (hy.mono hB.size), (Nat.le_trans hz hy.size), s0.zw hy, s1.zw hy, (let ⟨g, h⟩ := x2; ⟨g, h.zw hy⟩), (fun h => (q2 h).below hy (q2 h).lt), (fun h => (n2 h).below hy (n2 h).lt), h0, h1, h2, h3, h4, h5, h6, h7, (fun _ => rfl)⟩
   have e8 := h8 (zdq hd 8 rfl)
   obtain ⟨gz, hk⟩ := x2
   refine zsb 24 _ _ rfl _ 64 (resP p (strP p f) m) rfl e8 24 gz hk Try.size24 ?_
   exact hK _ undef _ rfl ⟨zr hB (by omega) _, (by simpa [World.setRow] using hz), (s0).rowOther (by omega), (s1).rowOther (by omega), ⟨_, hk.row _⟩, (fun h => absurd h (by simp [setL])), (fun _ => hk.row _), h0, h1, h2, h3, h4, h5, h6, h7, h8⟩
 intro L v W2 hL ⟨hB, hz, s0, s1, x2, q2, n2, h0, h1, h2, h3, h4, h5, h6, h7, h8⟩
 have r2 := n2 (hL 9 (by decide))
 have e0 := h0 (hL 0 (by decide))
 have e1 := h1 (hL 1 (by decide))
 have e2 := h2 (hL 2 (by decide))
 have e3 := h3 (hL 3 (by decide))
 have e4 := h4 (hL 4 (by decide))
 have e5 := h5 (hL 5 (by decide))
 have e6 := h6 (hL 6 (by decide))
 have e7 := h7 (hL 7 (by decide))
 have e8 := h8 (hL 8 (by decide))
 clear hL x2 q2 n2 h0 h1 h2 h3 h4 h5 h6 h7 h8
 simp only [Exit.then, e0, e1, e2, e3, e4, e5, e6, e7, e8]
 clear e0 e1 e2 e3 e4 e5 e6 e7 e8
 replace B0 := s0
 clear s0
 replace B1 := s1
 clear s1
 replace B2 := r2
 clear r2
 replace hb := hB
 clear hB
 clear hbase hz lt_B0 lt_B1 lt_B2
 go_wp2_with fail
 refine bodyPost_ret (zrb rfl _ _ _ 64 24 5 _ rfl B2 Try.underlying24 Try.size24) rfl ⟨rfl, hb⟩
theorem step_any (p : Nat) (f m : Nat → Nat) (w : World) (hpr : p = 2 ∨ p = 3 ∨ p = 5 ∨ p = 7) (lf : ∀ k, k < 64 → f k < p) (lm : ∀ k, k < 64 → m k < p) (h0 : 0 ≤ deg m) (h9 : deg m ≤ 9) (hdf : deg f < deg m) :
 Calls Try.prog 205 #[.agg (caC p m).toArray, .agg (zb 64 f)] w fun e w' => e = .returned (.agg (zb 64 (stP p m f))) ∧ Below w.heap.size w w' := by
 have p0 : 0 < p := by omega
 have p2 : 2 ≤ p := by omega
 have p7 : p ≤ 7 := by omega
 have hdp : deg f * (p : Int) ≤ 63 := by rcases hpr with rfl | rfl | rfl | rfl <;> omega
 have HSH := Lib.hid (fun W => shifted_any p f m W hpr lf lm h0)
 have HFR := Lib.hid (fun W => frobeniusC_any p f m W hpr lf lm h0 hdp)
 have l1 : ∀ k, k < 64 → resP p (prd p TP f) m k < p := resP_lt p0 (fun k _ => prd_lt p0 k)
 have l2 : ∀ k, k < 64 → resP p (strP p f) m k < p := resP_lt p0 (strP_lt p0 (by omega) lf)
 have HS1 := Lib.hid (show ∀ W, Calls Try.prog 177 #[.int .i64 (p : Int), .agg (zb 64 fun _ => 0), .agg (zb 64 (resP p (prd p TP f) m))] W fun e w' => e = .returned (.agg (zb 64 (addK p (fun _ => 0) (resP p (prd p TP f) m) 1))) ∧ Below W.heap.size W w' from fun W => by
  rw [addK_one]; exact sum_any p _ _ W p2 p7 (fun _ _ => p0) l1)
 have HS2 := Lib.hid (show ∀ W, Calls Try.prog 177 #[.int .i64 (p : Int), .agg (zb 64 (addK p (fun _ => 0) (resP p (prd p TP f) m) 1)), .agg (zb 64 (resP p (strP p f) m))] W fun e w' => e = .returned (.agg (zb 64 (stI p m f))) ∧ Below W.heap.size W w' from fun W => by
  have e : stI p m f = fun i => (addK p (fun _ => 0) (resP p (prd p TP f) m) 1 i + resP p (strP p f) m i) % p := by unfold stI; rw [addK_one]
  rw [e]; exact sum_any p _ _ W p2 p7 (fun k _ => addK_lt p0 k) l2)
 have HV := Lib.hid (zbc (stI_eq hpr lm h0 h9 lf hdf))
 have hmf : ∀ (fn : Fn) (first cap : Array Value) (w : World), (Instr.makeFunc fn first cap).run Try.prog w = .ok (.func fn first cap) w := fun _ _ _ _ => rfl
 go_enter Try.func205, Try.ntmps205
 go_upto_region 1 with (fail)
 rw [← z64]
 obtain ⟨W1, hwo⟩ : ∃ v : World, v = (((w.alloc (.cells (caC p m).toArray 119)).alloc (.cells (zb 64 (f)) 24)).alloc (.cells (zb 64 fun _ => 0) 24)) := ⟨_, rfl⟩
 have B0 : Row W1 (w.heap.size) 119 (caC p m).toArray := by subst hwo; have := (((Row.new w 119 (caC p m).toArray).alloc (.cells (zb 64 (f)) 24)).alloc (.cells (zb 64 fun _ => 0) 24)); simpa using this
 have B1 : Blk W1 (w.heap.size + 1) 64 24 (f) := by subst hwo; have := ((Blk.new (w.alloc (.cells (caC p m).toArray 119)) 64 24 (f)).alloc (.cells (zb 64 fun _ => 0) 24)); simpa using this
 have B2 : Blk W1 (w.heap.size + 1 + 1) 64 24 (fun _ => 0) := by subst hwo; have := (Blk.new ((w.alloc (.cells (caC p m).toArray 119)).alloc (.cells (zb 64 (f)) 24)) 64 24 (fun _ => 0)); simpa using this
 have hb : Below w.heap.size w W1 := by subst hwo; exact ((((Below.refl _ _).alloc (Nat.le_refl _) _).alloc (by simp) _).alloc (by simp; omega) _)
 rw [← hwo]
 clear hwo
 go_upto_region 2 with (first | rw [← z64])
 have lt_B0 := B0.lt
 have lt_B1 := B1.lt
 have lt_B2 := B2.lt
 have lhb := hb.size
 obtain ⟨W2, hwo, hzQ⟩ : ∃ v : World, v = (W1.alloc (.cells (zb 64 fun _ => 0) 24)) ∧ Row v (w.heap.size) 119 (caC p m).toArray ∧ Blk v (w.heap.size + 1) 64 24 (f) ∧ Blk v (w.heap.size + 1 + 1) 64 24 (fun _ => 0) ∧ Blk v (W1.heap.size) 64 24 (fun _ => 0) ∧ Below w.heap.size w v := ⟨_, rfl, (B0.alloc (.cells (zb 64 fun _ => 0) 24)), (B1.alloc (.cells (zb 64 fun _ => 0) 24)), (B2.alloc (.cells (zb 64 fun _ => 0) 24)), (Blk.new W1 64 24 (fun _ => 0)), (hb.alloc (by have := hb.size; simp; omega) (.cells (zb 64 fun _ => 0) 24))⟩
 rw [← hwo]
 clear hwo B0 B1 B2 hb
 obtain ⟨B0, B1, B2, B3, hb⟩ := hzQ
 obtain ⟨N1, hNN⟩ : ∃ n : Nat, n = W1.heap.size := ⟨_, rfl⟩
 rw [← hNN] at lt_B0 lt_B1 lt_B2 lhb B3 ⊢
 clear hNN
 have zN1_0 := lt_B0
 have zN1_1 := lt_B1
 have zN1_2 := lt_B2
 have zN1 := lhb
 clear lt_B0 lt_B1 lt_B2 lhb
 try simp only [Act.put, pA, pB, pC]
 have lt_B0 := B0.lt
 have lt_B1 := B1.lt
 have lt_B2 := B2.lt
 have lt_B3 := B3.lt
 have lhb := hb.size
 obtain ⟨NF, hNF⟩ : ∃ n, n = W2.heap.size := ⟨_, rfl⟩
 go_wp2_with (first | (refine zlr rfl 119 (.tmp 2) rfl _ rfl 119 (caC p m).toArray (B0) _ Try.underlying119 rfl 65 Try.size119 (by simp [caC_len]) ?_) | (refine wpList_buildF rfl 203 _ (.func 229) (.func 230) #[.agg (caC p m).toArray] #[.agg (caC p m).toArray] #[] #[] rfl 116 Try.underlying203 Try.elemF rfl ?_; intro wa hps hba; have eB0 := B0.zw hba; have eB1 := B1.zw hba; have eB2 := B2.zw hba; have eB3 := B3.zw hba; have ehb := hb.trans (hba.mono hb.size)))
 rw [← hNF] at hps lt_B0 lt_B1 lt_B2 lt_B3 lhb ⊢
 clear hmf B0 B1 B2 B3 hb
 have ltn_0 := lt_B0
 have ltn_1 := lt_B1
 have ltn_2 := lt_B2
 have ltn_3 := lt_B3
 clear lt_B0 lt_B1 lt_B2 lt_B3
 go_loopw [14] (fun i wr => ∃ j : Nat, i = .int .i64 (j : Int) ∧ j ≤ 2 ∧ Below w.heap.size w wr ∧ Row wr (w.heap.size) 119 (caC p m).toArray ∧ Blk wr (w.heap.size + 1) 64 24 f ∧ Blk wr (w.heap.size + 1 + 1) 64 24 (fun _ => 0) ∧ Row wr NF 116 #[(.func (.func 229) #[.agg (caC p m).toArray] #[]), (.func (.func 230) #[.agg (caC p m).toArray] #[])] ∧ Blk wr (N1) 64 24 (if j = 0 then fun _ => 0 else if j = 1 then addK p (fun _ => 0) (resP p (prd p TP f) m) 1 else stI p m f)) (fun i _ => 2 - (intOf i).toNat)
 case atStart => exact ⟨0, rfl, Nat.zero_le _, ehb, eB0, eB1, eB2, hps, by rw [if_pos rfl]; exact eB3⟩
 case round =>
  clear ehb eB0 eB1 eB2 eB3 hps hNF hba
  obtain ⟨j, rfl, hj2, hb, B0, B1, B2, B4, B3⟩ := hrel
  have hjc : j = 0 ∨ j = 1 ∨ j = 2 := by omega
  clear hj2
  rcases hjc with rfl | rfl | rfl
  · rw [show ((0 : Nat) : Int) = 0 from rfl]
    rw [if_pos rfl] at B3
    have cc := B4.cell (i := 0) (v := (.func (.func 229) #[.agg (caC p m).toArray] #[])) rfl
    go_upto_region 5 with (fail)
    clear cc
    have lt_B0 : (w.heap.size) < wr.heap.size := B0.lt
    have lt_B1 : (w.heap.size + 1) < wr.heap.size := B1.lt
    have lt_B2 : (w.heap.size + 1 + 1) < wr.heap.size := B2.lt
    have lt_B3 : (N1) < wr.heap.size := B3.lt
    have lt_B4 : (NF) < wr.heap.size := B4.lt
    have hbase : w.heap.size ≤ wr.heap.size := hb.size
    refine zq Try.mixed (by kernel_rfl) (by kernel_rfl) (fun v => by (simp only [frL, Act.put, pA, pB, pC, Nat.reduceAdd, Nat.zero_add]; exact rfl))
     (fun L v W3 => Below w.heap.size w W3 ∧ wr.heap.size ≤ W3.heap.size ∧ Row W3 (w.heap.size) 119 (caC p m).toArray ∧ Blk W3 (w.heap.size + 1) 64 24 (f) ∧ Blk W3 (w.heap.size + 1 + 1) 64 24 (fun _ => 0) ∧ (∃ g, Blk W3 (N1) 64 24 (g)) ∧ (L 7 = false → Blk W3 (N1) 64 24 (fun _ => 0)) ∧ (L 7 = true → Blk W3 (N1) 64 24 (addK p (fun _ => 0) (resP p (prd p TP f) m) 1)) ∧ Row W3 (NF) 116 #[(.func (.func 229) #[.agg (caC p m).toArray] #[]), (.func (.func 230) #[.agg (caC p m).toArray] #[])] ∧ (L 0 = true → v 0 = (.pointer (some ⟨w.heap.size, 0, none⟩))) ∧ (L 1 = true → v 1 = (.int .i64 (p : Int))) ∧ (L 2 = true → v 2 = (.agg (zb 64 (fun _ => 0)))) ∧ (L 3 = true → v 3 = (.func (.func 229) #[.agg (caC p m).toArray] #[])) ∧ (L 4 = true → v 4 = (.agg (zb 64 (f)))) ∧ (L 5 = true → v 5 = (.agg (zb 64 (resP p (prd p TP f) m)))) ∧ (L 6 = true → v 6 = (.agg (zb 64 (addK p (fun _ => 0) (resP p (prd p TP f) m) 1))))) ?_ ?_ ?_
    · intro v hv0
      exact ⟨hb.drew, Nat.le_refl _, B0.drew, B1.drew, B2.drew, ⟨_, B3.drew⟩, (fun _ => B3.drew), (fun h => by cases h), B4.drew, (fun h => by cases h), (fun h => by cases h), (fun h => by cases h), (fun h => by cases h), (fun h => by cases h), (fun h => by cases h), (fun h => by cases h)⟩
    · refine (.cons rfl ?_ (.cons rfl ?_ (.cons rfl ?_ (.cons rfl ?_ (.cons rfl ?_ (.cons rfl ?_ (.cons rfl ?_ (.cons rfl ?_ (.nil _)))))))))
      all_goals intro L v W3 hd hn ⟨hB, hz, s0, s1, s2, x3, q3, n3, s4, h0, h1, h2, h3, h4, h5, h6⟩ K hK
      · go_wp2_with fail
        exact hK _ (.pointer (some ⟨w.heap.size, 0, none⟩)) _ (by simp only [Act.put, pA, pB, pC ]) ⟨hB, hz, s0, s1, s2, x3, q3, n3, s4, (fun _ => rfl), h1, h2, h3, h4, h5, h6⟩
      · have e0 := h0 (zdq hd 0 rfl)
        have cc := s0.cell (i := 0) (v := .int .i64 (p : Int)) (caC_at p m)
        go_wp2_with fail
        exact hK _ (.int .i64 (p : Int)) _ (by simp only [Act.put, pA, pB, pC, e0]) ⟨hB, hz, s0, s1, s2, x3, q3, n3, s4, h0, (fun _ => rfl), h2, h3, h4, h5, h6⟩
      · have s3 := q3 (by
         cases hL : L 7 with
         | false => rfl
         | true => exact absurd rfl (hn 7 _ rfl hL ⟨2, .phase⟩ (by simp) rfl))
        refine zlc s3 Try.underlying24 Try.size24 ?_
        exact hK _ _ _ rfl ⟨hB, hz, s0, s1, s2, x3, q3, n3, s4, h0, h1, (fun _ => rfl), h3, h4, h5, h6⟩
      · go_wp2_with fail
        exact hK _ (.func (.func 229) #[.agg (caC p m).toArray] #[]) _ (by simp only [Act.put, pA, pB, pC ]) ⟨hB, hz, s0, s1, s2, x3, q3, n3, s4, h0, h1, h2, (fun _ => rfl), h4, h5, h6⟩
      · refine zlc s1 Try.underlying24 Try.size24 ?_
        exact hK _ _ _ rfl ⟨hB, hz, s0, s1, s2, x3, q3, n3, s4, h0, h1, h2, h3, (fun _ => rfl), h5, h6⟩
      · have e3 := h3 (zdq hd 3 rfl)
        have e4 := h4 (zdq hd 4 rfl)
        go_wp2_with (go_at_call 229; refine (HSH.out _).mono ?_; rintro e wy ⟨rfl, hy⟩)
        exact hK _ (.agg (zb 64 (resP p (prd p TP f) m))) _ (by simp only [Act.put, pA, pB, pC, e3, e4]) ⟨hB.trans (hy.mono hB.size), (Nat.le_trans hz hy.size), s0.zw hy, s1.zw hy, s2.zw hy, (let ⟨g, h⟩ := x3; ⟨g, h.zw hy⟩), (fun h => (q3 h).below hy (q3 h).lt), (fun h => (n3 h).below hy (n3 h).lt), s4.zw hy, h0, h1, h2, h3, h4, (fun _ => rfl), h6⟩
      · have e1 := h1 (zdq hd 1 rfl)
        have e2 := h2 (zdq hd 2 rfl)
        have e5 := h5 (zdq hd 5 rfl)
        go_wp2_with (go_at_call 177; refine (HS1.out _).mono ?_; rintro e wy ⟨rfl, hy⟩)
        exact hK _ (.agg (zb 64 (addK p (fun _ => 0) (resP p (prd p TP f) m) 1))) _ (by simp only [Act.put, pA, pB, pC, e1, e2, e5]) ⟨hB.trans (hy.mono hB.size), (Nat.le_trans hz hy.size), s0.zw hy, s1.zw hy, s2.zw hy, (let ⟨g, h⟩ := x3; ⟨g, h.zw hy⟩), (fun h => (q3 h).below hy (q3 h).lt), (fun h => (n3 h).below hy (n3 h).lt), s4.zw hy, h0, h1, h2, h3, h4, h5, (fun _ => rfl)⟩
      have e6 := h6 (zdq hd 6 rfl)
      obtain ⟨gz, hk⟩ := x3
      refine zsb 24 _ _ rfl _ 64 (addK p (fun _ => 0) (resP p (prd p TP f) m) 1) rfl e6 24 gz hk Try.size24 ?_
      exact hK _ undef _ rfl ⟨zr hB (by omega) _, (by simpa [World.setRow] using hz), (s0).rowOther (by omega), (s1).rowOther (by omega), (s2).rowOther (by omega), ⟨_, hk.row _⟩, (fun h => absurd h (by simp [setL])), (fun _ => hk.row _), (s4).rowOther (by omega), h0, h1, h2, h3, h4, h5, h6⟩
    intro L v W3 hL ⟨hB, hz, s0, s1, s2, x3, q3, n3, s4, h0, h1, h2, h3, h4, h5, h6⟩
    have r3 := n3 (hL 7 (by decide))
    have e0 := h0 (hL 0 (by decide))
    have e1 := h1 (hL 1 (by decide))
    have e2 := h2 (hL 2 (by decide))
    have e3 := h3 (hL 3 (by decide))
    have e4 := h4 (hL 4 (by decide))
    have e5 := h5 (hL 5 (by decide))
    have e6 := h6 (hL 6 (by decide))
    clear hL x3 q3 n3 h0 h1 h2 h3 h4 h5 h6
    simp only [Exit.then, e0, e1, e2, e3, e4, e5, e6]
    clear e0 e1 e2 e3 e4 e5 e6
    replace B0 := s0
    clear s0
    replace B1 := s1
    clear s1
    replace B2 := s2
    clear s2
    replace B3 := r3
    clear r3
    replace B4 := s4
    clear s4
    replace hb := hB
    clear hB
    clear hbase hz lt_B0 lt_B1 lt_B2 lt_B3 lt_B4
    go_wp2_with fail
    go_roundw
    case rel => exact ⟨0 + 1, by go_num, by omega, hb, B0, B1, B2, B4, by rw [if_neg (by omega), if_pos rfl]; exact B3⟩
    case measure => simp [intOf] <;> omega
  · rw [show ((1 : Nat) : Int) = 1 from rfl]
    rw [if_neg (by omega), if_pos rfl] at B3
    have cc := B4.cell (i := 1) (v := (.func (.func 230) #[.agg (caC p m).toArray] #[])) rfl
    go_upto_region 5 with (fail)
    clear cc
    have lt_B0 : (w.heap.size) < wr.heap.size := B0.lt
    have lt_B1 : (w.heap.size + 1) < wr.heap.size := B1.lt
    have lt_B2 : (w.heap.size + 1 + 1) < wr.heap.size := B2.lt
    have lt_B3 : (N1) < wr.heap.size := B3.lt
    have lt_B4 : (NF) < wr.heap.size := B4.lt
    have hbase : w.heap.size ≤ wr.heap.size := hb.size
    refine zq Try.mixed (by kernel_rfl) (by kernel_rfl) (fun v => by (simp only [frL, Act.put, pA, pB, pC, Nat.reduceAdd, Nat.zero_add]; exact rfl))
     (fun L v W3 => Below w.heap.size w W3 ∧ wr.heap.size ≤ W3.heap.size ∧ Row W3 (w.heap.size) 119 (caC p m).toArray ∧ Blk W3 (w.heap.size + 1) 64 24 (f) ∧ Blk W3 (w.heap.size + 1 + 1) 64 24 (fun _ => 0) ∧ (∃ g, Blk W3 (N1) 64 24 (g)) ∧ (L 7 = false → Blk W3 (N1) 64 24 (addK p (fun _ => 0) (resP p (prd p TP f) m) 1)) ∧ (L 7 = true → Blk W3 (N1) 64 24 (stI p m f)) ∧ Row W3 (NF) 116 #[(.func (.func 229) #[.agg (caC p m).toArray] #[]), (.func (.func 230) #[.agg (caC p m).toArray] #[])] ∧ (L 0 = true → v 0 = (.pointer (some ⟨w.heap.size, 0, none⟩))) ∧ (L 1 = true → v 1 = (.int .i64 (p : Int))) ∧ (L 2 = true → v 2 = (.agg (zb 64 (addK p (fun _ => 0) (resP p (prd p TP f) m) 1)))) ∧ (L 3 = true → v 3 = (.func (.func 230) #[.agg (caC p m).toArray] #[])) ∧ (L 4 = true → v 4 = (.agg (zb 64 (f)))) ∧ (L 5 = true → v 5 = (.agg (zb 64 (resP p (strP p f) m)))) ∧ (L 6 = true → v 6 = (.agg (zb 64 (stI p m f))))) ?_ ?_ ?_
    · intro v hv0
      exact ⟨hb.drew, Nat.le_refl _, B0.drew, B1.drew, B2.drew, ⟨_, B3.drew⟩, (fun _ => B3.drew), (fun h => by cases h), B4.drew, (fun h => by cases h), (fun h => by cases h), (fun h => by cases h), (fun h => by cases h), (fun h => by cases h), (fun h => by cases h), (fun h => by cases h)⟩
    · refine (.cons rfl ?_ (.cons rfl ?_ (.cons rfl ?_ (.cons rfl ?_ (.cons rfl ?_ (.cons rfl ?_ (.cons rfl ?_ (.cons rfl ?_ (.nil _)))))))))
      all_goals intro L v W3 hd hn ⟨hB, hz, s0, s1, s2, x3, q3, n3, s4, h0, h1, h2, h3, h4, h5, h6⟩ K hK
      · go_wp2_with fail
        exact hK _ (.pointer (some ⟨w.heap.size, 0, none⟩)) _ (by simp only [Act.put, pA, pB, pC ]) ⟨hB, hz, s0, s1, s2, x3, q3, n3, s4, (fun _ => rfl), h1, h2, h3, h4, h5, h6⟩
      · have e0 := h0 (zdq hd 0 rfl)
        have cc := s0.cell (i := 0) (v := .int .i64 (p : Int)) (caC_at p m)
        go_wp2_with fail
        exact hK _ (.int .i64 (p : Int)) _ (by simp only [Act.put, pA, pB, pC, e0]) ⟨hB, hz, s0, s1, s2, x3, q3, n3, s4, h0, (fun _ => rfl), h2, h3, h4, h5, h6⟩
      · have s3 := q3 (by
         cases hL : L 7 with
         | false => rfl
         | true => exact absurd rfl (hn 7 _ rfl hL ⟨2, .phase⟩ (by simp) rfl))
        refine zlc s3 Try.underlying24 Try.size24 ?_
        exact hK _ _ _ rfl ⟨hB, hz, s0, s1, s2, x3, q3, n3, s4, h0, h1, (fun _ => rfl), h3, h4, h5, h6⟩
      · go_wp2_with fail
        exact hK _ (.func (.func 230) #[.agg (caC p m).toArray] #[]) _ (by simp only [Act.put, pA, pB, pC ]) ⟨hB, hz, s0, s1, s2, x3, q3, n3, s4, h0, h1, h2, (fun _ => rfl), h4, h5, h6⟩
      · refine zlc s1 Try.underlying24 Try.size24 ?_
        exact hK _ _ _ rfl ⟨hB, hz, s0, s1, s2, x3, q3, n3, s4, h0, h1, h2, h3, (fun _ => rfl), h5, h6⟩
      · have e3 := h3 (zdq hd 3 rfl)
        have e4 := h4 (zdq hd 4 rfl)
        go_wp2_with (go_at_call 230; refine (HFR.out _).mono ?_; rintro e wy ⟨rfl, hy⟩)
        exact hK _ (.agg (zb 64 (resP p (strP p f) m))) _ (by simp only [Act.put, pA, pB, pC, e3, e4]) ⟨hB.trans (hy.mono hB.size), (Nat.le_trans hz hy.size), s0.zw hy, s1.zw hy, s2.zw hy, (let ⟨g, h⟩ := x3; ⟨g, h.zw hy⟩), (fun h => (q3 h).below hy (q3 h).lt), (fun h => (n3 h).below hy (n3 h).lt), s4.zw hy, h0, h1, h2, h3, h4, (fun _ => rfl), h6⟩
      · have e1 := h1 (zdq hd 1 rfl)
        have e2 := h2 (zdq hd 2 rfl)
        have e5 := h5 (zdq hd 5 rfl)
        go_wp2_with (go_at_call 177; refine (HS2.out _).mono ?_; rintro e wy ⟨rfl, hy⟩)
        exact hK _ (.agg (zb 64 (stI p m f))) _ (by simp only [Act.put, pA, pB, pC, e1, e2, e5]) ⟨hB.trans (hy.mono hB.size), (Nat.le_trans hz hy.size), s0.zw hy, s1.zw hy, s2.zw hy, (let ⟨g, h⟩ := x3; ⟨g, h.zw hy⟩), (fun h => (q3 h).below hy (q3 h).lt), (fun h => (n3 h).below hy (n3 h).lt), s4.zw hy, h0, h1, h2, h3, h4, h5, (fun _ => rfl)⟩
      have e6 := h6 (zdq hd 6 rfl)
      obtain ⟨gz, hk⟩ := x3
      refine zsb 24 _ _ rfl _ 64 (stI p m f) rfl e6 24 gz hk Try.size24 ?_
      exact hK _ undef _ rfl ⟨zr hB (by omega) _, (by simpa [World.setRow] using hz), (s0).rowOther (by omega), (s1).rowOther (by omega), (s2).rowOther (by omega), ⟨_, hk.row _⟩, (fun h => absurd h (by simp [setL])), (fun _ => hk.row _), (s4).rowOther (by omega), h0, h1, h2, h3, h4, h5, h6⟩
    intro L v W3 hL ⟨hB, hz, s0, s1, s2, x3, q3, n3, s4, h0, h1, h2, h3, h4, h5, h6⟩
    have r3 := n3 (hL 7 (by decide))
    have e0 := h0 (hL 0 (by decide))
    have e1 := h1 (hL 1 (by decide))
    have e2 := h2 (hL 2 (by decide))
    have e3 := h3 (hL 3 (by decide))
    have e4 := h4 (hL 4 (by decide))
    have e5 := h5 (hL 5 (by decide))
    have e6 := h6 (hL 6 (by decide))
    clear hL x3 q3 n3 h0 h1 h2 h3 h4 h5 h6
    simp only [Exit.then, e0, e1, e2, e3, e4, e5, e6]
    clear e0 e1 e2 e3 e4 e5 e6
    replace B0 := s0
    clear s0
    replace B1 := s1
    clear s1
    replace B2 := s2
    clear s2
    replace B3 := r3
    clear r3
    replace B4 := s4
    clear s4
    replace hb := hB
    clear hB
    clear hbase hz lt_B0 lt_B1 lt_B2 lt_B3 lt_B4
    go_wp2_with fail
    go_roundw
    case rel => exact ⟨1 + 1, by go_num, by omega, hb, B0, B1, B2, B4, by rw [if_neg (by omega), if_neg (by omega)]; exact B3⟩
    case measure => simp [intOf] <;> omega
  rw [show ((2 : Nat) : Int) = 2 from rfl]
  rw [if_neg (by omega), if_neg (by omega)] at B3
  go_upto_region 7 with (fail)
  have lt_B0 := B0.lt
  have lt_B1 := B1.lt
  have lt_B2 := B2.lt
  have lt_B3 := B3.lt
  have lt_B4 := B4.lt
  go_wp2_with (first | rw [← z64] | (refine zla (.tmp 5) B3 Try.underlying24 Try.size24 ?_) | (refine zsr (.tmp 4) (.tmp 26) (stI p m f) B2 Try.size24 ?_; try simp only [Act.put]))
  obtain ⟨W3, hwo, hzQ⟩ : ∃ v : World, v = (wr.setRow (w.heap.size + 1 + 1) (zb 64 (stI p m f))) ∧ Row v (w.heap.size) 119 (caC p m).toArray ∧ Blk v (w.heap.size + 1) 64 24 (f) ∧ Blk v (w.heap.size + 1 + 1) 64 24 (stI p m f) ∧ Blk v (N1) 64 24 (stI p m f) ∧ Row v (NF) 116 #[(.func (.func 229) #[.agg (caC p m).toArray] #[]), (.func (.func 230) #[.agg (caC p m).toArray] #[])] ∧ Below w.heap.size w v := ⟨_, rfl, (B0.rowOther (by omega)), (B1.rowOther (by omega)), (B2.row (stI p m f)), (B3.rowOther (by omega)), (B4.rowOther (by omega)), (zr hb (by omega) _)⟩
  rw [← hwo]
  clear hwo B0 B1 B2 B3 B4 hb
  obtain ⟨B0, B1, B2, B3, B4, hb⟩ := hzQ
  try simp only [Act.put, pA, pB, pC]
  refine bodyPost_ret (zrb rfl _ _ _ 64 24 5 _ rfl B2 Try.underlying24 Try.size24) rfl ⟨by rw [HV.out], hb⟩
end Go.Proofs.Yteloknnooebabaa
namespace Go.Proofs.Yteloknnooebabaa
open Go Go.RowKit
def Kx (S : List Nat) (w w' : World) : Prop := w.heap.size ≤ w'.heap.size ∧ ∀ b, b < w.heap.size → b ∉ S → w'.heap[b]? = w.heap[b]?
theorem Kx.start (S : List Nat) (w : World) : Kx S w w.drew := ⟨Nat.le_refl _, fun _ _ _ => rfl⟩
theorem Kx.below {S : List Nat} {w w1 w2 : World} (h : Kx S w w1) (hy : Below w1.heap.size w1 w2) : Kx S w w2 :=
 ⟨Nat.le_trans h.1 hy.size, fun b hb hs => (hy.block b (Nat.lt_of_lt_of_le hb h.1)).trans (h.2 b hb hs)⟩
theorem Kx.alloc {S : List Nat} {w w1 : World} (h : Kx S w w1) (o : Obj) : Kx S w (w1.alloc o) := h.below (zal _ _)
theorem Kx.row {S : List Nat} {w w1 : World} (h : Kx S w w1) {s : Nat} (hs : s ∈ S) (cs : Array Value) : Kx S w (w1.setRow s cs) :=
 ⟨by simpa [World.setRow] using h.1, fun b hb hn => by rw [setRow_other _ _ _ _ (fun e => hn (by rw [e]; exact hs))]; exact h.2 b hb hn⟩
theorem Blk.kx {S : List Nat} {w w' : World} {b n : Nat} {t : TypeId} {f : Nat → Nat} (h : Blk w b n t f) (hX : Kx S w w') (hn : b ∉ S) : Blk w' b n t f := by
 have hl := h.lt
 unfold Blk at *; rw [hX.2 b hl hn]; exact h
theorem Row.kx {S : List Nat} {w w' : World} {b : Nat} {t : TypeId} {cs : Array Value} (h : Row w b t cs) (hX : Kx S w w') (hn : b ∉ S) : Row w' b t cs := h.of (hX.2 b h.lt hn)
theorem One.kx {S : List Nat} {w w' : World} {b : Nat} {t : TypeId} {v : Value} (h : One w b t v) (hX : Kx S w w') (hn : b ∉ S) : One w' b t v := h.of (hX.2 b h.lt hn)
end Go.Proofs.Yteloknnooebabaa
namespace Go.Proofs.Yteloknnooebabaa
open Go Go.RowKit
section
variable {P : Program}
theorem wp_load_rowc {o : Oper} {a : Act} {w : World} {K : Act → World → Prop} {Q : Exit → Act → World → Prop} (ty : TypeId) (x : Operand) (ho : o.op = .load ty x)
 (b i : Nat) (hx : a.eval x = .pointer (some ⟨b, i, none⟩)) (t : TypeId) (cs : Array Value) (hb : Row w b t cs) (v : Value) (hi : cs[i]? = some v) (d : TypeDesc)
 (hu : P.underlying ty = some d) (hd : (match d with | .struct _ | .array _ _ => true | _ => false) = false) (h : K (a.put o.dst v) w) : o.wp P a w K Q := by
 have hc := hb.cell hi
 have hagg : (isAgg ty).run P w = .ok false w := by
  unfold isAgg
  rw [Sem.run_bind, run_underlying hu w]
  cases d <;> simp_all
 unfold Oper.wp execOp
 simp only [ho, hx, Instr.loadAt, Instr.sureAddr, Sem.run_bind, Sem.run_pure, Result.andThen_ok, loadVar, hagg, Bool.false_eq_true, if_false, Sem.run_ite, run_load, hc]
 exact h
theorem wp_store_rowv {o : Oper} {a : Act} {w : World} {K : Act → World → Prop} {Q : Exit → Act → World → Prop} (ty : TypeId) (x y : Operand) (ho : o.op = .store ty x y)
 (b : Nat) (hx : a.eval x = .pointer (some ⟨b, 0, none⟩)) (xs : Array Value) (hy : a.eval y = .agg xs) (t : TypeId) (cs : Array Value) (hb : Row w b t cs) (n : Nat) (hi : (P.info? ty).map (·.size) = some n) (hn : cs.size = n) (hm : xs.size = n) (h1 : xs.all (·.oneCell') = true)
 (h : K (a.put o.dst undef) (w.setRow b xs)) : o.wp P a w K Q := by
 have hb' : w.heap[b]? = some (.cells cs t (0, 0)) := by unfold Row at hb; exact hb
 exact wp_store_row ty x y ho b xs hx hy t cs hb' (by rw [hi, hm]) (by rw [hn, hm]) h1 h
end
section
variable {P : Program}
theorem results_row {fn : Func} {p : Tmp} {ty : TypeId} (h : fn.results = #[.cell p ty]) (tmps : Array Value) (w : World) (b : Nat) (t : TypeId) (cs : Array Value)
 (hp : tmps.getD p undef = .pointer (some ⟨b, 0, none⟩)) (hb : Row w b t cs) (d : TypeDesc) (hu : P.underlying ty = some d) (hd : (match d with | .struct _ | .array _ _ => true | _ => false) = true) (hi : (P.info? ty).map (·.size) = some cs.size) :
 (results fn tmps).run P w = .ok (.agg cs) w := by
 have hp' : tmps[p]?.getD undef = .pointer (some ⟨b, 0, none⟩) := by simpa using hp
 have hb' : w.heap[b]? = some (.cells cs t (0, 0)) := by unfold Row at hb; exact hb
 simp [results, h, hp', asAddr, run_loadVar_row w b t ty _ (0, 0) d hb' hu hd hi]
end
end Go.Proofs.Yteloknnooebabaa
namespace Go.Proofs.Yteloknnooebabaa
open Go Go.RowKit
def moC (p n : Int) (f : Value) : List Value := [.int .i64 p, .int .i64 n, f]
theorem moC_len (p n : Int) (f : Value) : (moC p n f).length = 3 := rfl
theorem moC_at (p n : Int) (f : Value) : (moC p n f).toArray[0]? = some (.int .i64 p) := rfl
theorem moC_at2 (p n : Int) (f : Value) : (moC p n f).toArray[2]? = some f := rfl
theorem moC_all (p n : Int) (f : Value) (h : f.oneCell' = true) : (moC p n f).toArray.all (·.oneCell') = true := by
 have e1 : (Value.int .i64 p).oneCell' = true := rfl
 have e2 : (Value.int .i64 n).oneCell' = true := rfl
 simp only [moC, List.all_toArray, List.all_cons, List.all_nil, e1, e2, h, Bool.and_self]
theorem Try.size118 : (Try.prog.info? 118).map (·.size) = some 3 := by kernel_rfl
theorem built_mo (p n : Int) (fn : Fn) (a b : Array Value) : Try.prog.built 118 [(0, .int .i64 p), (1, .int .i64 n), (2, .func fn a b)] = some (moC p n (.func fn a b)).toArray := by unfold moC; kernel_rfl
attribute [local irreducible] deg resP acH acS stP caC
theorem cmodule_any (p : Nat) (m : Nat → Nat) (w : World) :
 Calls Try.prog 119 #[.agg (caC p m).toArray] w fun e w' => e = .returned (.agg (moC (p : Int) (deg m) (.func (.func 205) #[.agg (caC p m).toArray] #[])).toArray) ∧ Below w.heap.size w w' := by
 have hmf : ∀ (fn : Fn) (first cap : Array Value) (w : World), (Instr.makeFunc fn first cap).run Try.prog w = .ok (.func fn first cap) w := fun _ _ _ _ => rfl
 go_enter Try.func119, Try.ntmps119
 go_upto_region 1 with (fail)
 obtain ⟨W1, hwo⟩ : ∃ v : World, v = ((w.alloc (.cells (caC p m).toArray 119)).alloc (.cells ([.int .i64 0, .int .i64 0, .nilFunc]).toArray 118)) := ⟨_, rfl⟩
 have B0 : Row W1 (w.heap.size) 119 (caC p m).toArray := by subst hwo; have := ((Row.new w 119 (caC p m).toArray).alloc (.cells ([.int .i64 0, .int .i64 0, .nilFunc]).toArray 118)); simpa using this
 have B1 : Row W1 (w.heap.size + 1) 118 ([.int .i64 0, .int .i64 0, .nilFunc]).toArray := by subst hwo; have := (Row.new (w.alloc (.cells (caC p m).toArray 119)) 118 ([.int .i64 0, .int .i64 0, .nilFunc]).toArray); simpa using this
 have hb : Below w.heap.size w W1 := by subst hwo; exact (((Below.refl _ _).alloc (Nat.le_refl _) _).alloc (by simp) _)
 rw [← hwo]
 clear hwo
 have lt_B0 : (w.heap.size) < W1.heap.size := B0.lt
 have lt_B1 : (w.heap.size + 1) < W1.heap.size := B1.lt
 have hbase : w.heap.size ≤ W1.heap.size := hb.size
 refine zq Try.mixed (by kernel_rfl) (by kernel_rfl) (fun v => by (simp only [frL, Act.put, pA, pB, pC, Nat.reduceAdd, Nat.zero_add]; exact rfl))
  (fun L v W2 => Below w.heap.size w W2 ∧ Kx [w.heap.size + 1] W1 W2 ∧ (∃ g : Array Value, g.size = 3 ∧ Row W2 (w.heap.size + 1) 118 (g)) ∧ (L 8 = false → Row W2 (w.heap.size + 1) 118 (([.int .i64 0, .int .i64 0, .nilFunc]).toArray)) ∧ (L 8 = true → Row W2 (w.heap.size + 1) 118 ((moC (p : Int) (deg m) (.func (.func 205) #[.agg (caC p m).toArray] #[])).toArray)) ∧ VF L v [some (.pointer (some ⟨w.heap.size, 0, none⟩)), some (.int .i64 (p : Int)), some (.pointer (some ⟨w.heap.size, 1, none⟩)), some (.agg (zb 64 (m))), some (.int .i64 (deg m)), some (.agg (caC p m).toArray), some (.func (.func 205) #[.agg (caC p m).toArray] #[]), some (.agg (moC (p : Int) (deg m) (.func (.func 205) #[.agg (caC p m).toArray] #[])).toArray), none]) ?_ ?_ ?_
 · intro v hv0
   exact ⟨hb.drew, Kx.start _ _, ⟨_, by simp [moC_len], B1.drew⟩, (fun _ => B1.drew), (fun h => by cases h), VF.start⟩
 · refine (.cons rfl ?_ (.cons rfl ?_ (.cons rfl ?_ (.cons rfl ?_ (.cons rfl ?_ (.cons rfl ?_ (.cons rfl ?_ (.cons rfl ?_ (.cons rfl ?_ (.nil _))))))))))
   all_goals intro L v W2 hd hn ⟨hB, hX, x1, q1, n1, V⟩ K hK
   · go_wp2_with fail
     exact hK _ (.pointer (some ⟨w.heap.size, 0, none⟩)) _ (by simp only [Act.put, pA, pB, pC ]) ⟨hB, hX, x1, q1, n1, V.step 0 rfl⟩
   · have e0 := V.at (zdq hd 0 rfl) rfl
     refine wp_load_rowc 2 _ rfl _ 0 e0 119 _ (B0.kx hX (by simp <;> omega)) (.int .i64 (p : Int)) (caC_at _ _) _ Try.underlying2 rfl ?_
     exact hK _ _ _ rfl ⟨hB, hX, x1, q1, n1, V.step 1 rfl⟩
   · go_wp2_with fail
     exact hK _ (.pointer (some ⟨w.heap.size, 1, none⟩)) _ (by simp only [Act.put, pA, pB, pC ]) ⟨hB, hX, x1, q1, n1, V.step 2 rfl⟩
   · have e2 := V.at (zdq hd 2 rfl) rfl
     refine wp_load_mid 24 _ rfl _ 1 e2 _ _ ((B0.kx hX (by simp <;> omega)).ca) Try.underlying24 rfl (by rw [zl]; exact Try.size24) ?_
     exact hK _ _ _ rfl ⟨hB, hX, x1, q1, n1, V.step 3 rfl⟩
   · have e3 := V.at (zdq hd 3 rfl) rfl
     go_wp2_with (go_at_call 150; refine (degree_any m _).mono ?_; rintro e wy ⟨rfl, hy⟩)
     exact hK _ (.int .i64 (deg m)) _ (by simp only [Act.put, pA, pB, pC, e3]) ⟨hB.trans (hy.mono hB.size), hX.below hy, (let ⟨g, hg, h⟩ := x1; ⟨g, hg, h.zw hy⟩), (fun h => (q1 h).below hy (q1 h).lt), (fun h => (n1 h).below hy (n1 h).lt), V.step 4 rfl⟩
   · refine wp_load_rowv 119 _ rfl _ rfl 119 _ (B0.kx hX (by simp <;> omega)) _ Try.underlying119 rfl 65 Try.size119 (by simp [caC_len]) ?_
     exact hK _ _ _ rfl ⟨hB, hX, x1, q1, n1, V.step 5 rfl⟩
   · have e5 := V.at (zdq hd 5 rfl) rfl
     go_wp2_with fail
     exact hK _ (.func (.func 205) #[.agg (caC p m).toArray] #[]) _ (by simp only [Act.put, pA, pB, pC, e5]) ⟨hB, hX, x1, q1, n1, V.step 6 rfl⟩
   · have e1 := V.at (zdq hd 1 rfl) rfl
     have e4 := V.at (zdq hd 4 rfl) rfl
     have e6 := V.at (zdq hd 6 rfl) rfl
     refine wp_build_of 118 _ rfl (moC (p : Int) (deg m) (.func (.func 205) #[.agg (caC p m).toArray] #[])).toArray (by rw [Array.toList_map]; simp only [e1, e4, e6, Act.eval]; exact built_mo _ _ _ _ _) ?_
     exact hK _ _ _ rfl ⟨hB, hX, x1, q1, n1, V.step 7 rfl⟩
   have e7 := V.at (zdq hd 7 rfl) rfl
   obtain ⟨gz, hgz, hk⟩ := x1
   refine wp_store_rowv 118 _ _ rfl _ rfl ((moC (p : Int) (deg m) (.func (.func 205) #[.agg (caC p m).toArray] #[])).toArray) e7 118 gz hk 3 Try.size118 hgz (by simp [moC_len]) (moC_all _ _ _ rfl) ?_
   exact hK _ undef _ rfl ⟨zr hB (by omega) _, hX.row (by simp) _, ⟨_, by simp [moC_len], hk.row _⟩, (fun h => absurd h (by simp [setL])), (fun _ => hk.row _), V.skip 8 rfl⟩
 intro L v W2 hL ⟨hB, hX, x1, q1, n1, V⟩
 have r1 := n1 (hL 8 (by decide))
 have e0 := V.at (hL 0 (by decide)) rfl
 have e1 := V.at (hL 1 (by decide)) rfl
 have e2 := V.at (hL 2 (by decide)) rfl
 have e3 := V.at (hL 3 (by decide)) rfl
 have e4 := V.at (hL 4 (by decide)) rfl
 have e5 := V.at (hL 5 (by decide)) rfl
 have e6 := V.at (hL 6 (by decide)) rfl
 have e7 := V.at (hL 7 (by decide)) rfl
 clear hL x1 q1 n1 V
 replace B0 := B0.kx hX (by simp <;> omega)
 clear hX
 simp only [Exit.then, e0, e1, e2, e3, e4, e5, e6, e7]
 clear e0 e1 e2 e3 e4 e5 e6 e7
 replace B1 := r1
 clear r1
 replace hb := hB
 clear hB
 clear hbase lt_B0 lt_B1
 go_wp2_with fail
 refine bodyPost_ret (results_row rfl _ _ _ _ _ rfl B1 _ Try.underlying118 rfl (by rw [Try.size118]; rfl)) rfl ⟨rfl, hb⟩
theorem mact_any (p : Nat) (a f m : Nat → Nat) (w : World) (la : ∀ k, k < 64 → a k < p) (hpr : p = 2 ∨ p = 3 ∨ p = 5 ∨ p = 7) (lf : ∀ k, k < 64 → f k < p) (lm : ∀ k, k < 64 → m k < p) (h0 : 0 ≤ deg m) (h9 : deg m ≤ 9) (hdf : deg f < deg m) :
 Calls Try.prog 120 #[.agg (moC (p : Int) (deg m) (.func (.func 205) #[.agg (caC p m).toArray] #[])).toArray, .agg (zb 64 a), .agg (zb 64 f)] w fun e w' => e = .returned (.agg (zb 64 (acS p m a f (deg a + 1).toNat))) ∧ Below w.heap.size w w' := by
 have p0 : 0 < p := by omega
 have p2 : 2 ≤ p := by omega
 have p7 : p ≤ 7 := by omega
 obtain ⟨gb1, gb2⟩ := zdb a
 obtain ⟨NN, hNN⟩ : ∃ NN : Nat, deg a = (NN : Int) - 1 := ⟨(deg a + 1).toNat, by omega⟩
 have HD := Lib.hid hNN
 have hN6 : NN ≤ 64 := by omega
 have HT := Lib.hid (show (deg a + 1).toNat = NN by omega)
 have HST := Lib.hid (fun (x : Nat → Nat) (hx : ∀ k, k < 64 → x k < p) (hxd : deg x < deg m) W => step_any p x m W hpr hx lm h0 h9 hxd)
 have HH := Lib.hid (fun j (hj : j ≤ NN - 1 + 1) => acH_ok (a := a) (n := NN - 1) hpr lm h0 lf hdf j hj)
 have HV := Lib.hid (show zb 64 (acH p m a f (NN - 1) NN) = zb 64 (acS p m a f NN) from by
  rcases Nat.eq_zero_or_pos NN with h | h
  · subst h; unfold acH acS; rfl
  have := zbc (ac_same hpr lm h0 (a := a) (n := NN - 1) lf hdf)
  rw [show NN - 1 + 1 = NN by omega] at this; exact this)
 have HHS := Lib.hid (show ∀ j, acH p m a f (NN - 1) (j + 1) = addK p (stP p m (acH p m a f (NN - 1) j)) (sclP p f (a (NN - 1 - j))) 1 from fun j => by rw [acH])
 have HZ := Lib.hid (show acH p m a f (NN - 1) 0 = fun _ => 0 by unfold acH; rfl)
 clear hNN
 go_enter Try.func120, Try.ntmps120
 go_upto_region 1 with (fail)
 rw [← z64]
 obtain ⟨W1, hwo⟩ : ∃ v : World, v = ((((w.alloc (.cells (moC (p : Int) (deg m) (.func (.func 205) #[.agg (caC p m).toArray] #[])).toArray 118)).alloc (.cells (zb 64 (a)) 24)).alloc (.cells (zb 64 (f)) 24)).alloc (.cells (zb 64 (fun _ => 0)) 24)) := ⟨_, rfl⟩
 have B0 : Row W1 (w.heap.size) 118 (moC (p : Int) (deg m) (.func (.func 205) #[.agg (caC p m).toArray] #[])).toArray := by subst hwo; have := ((((Row.new w 118 (moC (p : Int) (deg m) (.func (.func 205) #[.agg (caC p m).toArray] #[])).toArray).alloc (.cells (zb 64 (a)) 24)).alloc (.cells (zb 64 (f)) 24)).alloc (.cells (zb 64 (fun _ => 0)) 24)); simpa using this
 have B1 : Blk W1 (w.heap.size + 1) 64 24 (a) := by subst hwo; have := (((Blk.new (w.alloc (.cells (moC (p : Int) (deg m) (.func (.func 205) #[.agg (caC p m).toArray] #[])).toArray 118)) 64 24 (a)).alloc (.cells (zb 64 (f)) 24)).alloc (.cells (zb 64 (fun _ => 0)) 24)); simpa using this
 have B2 : Blk W1 (w.heap.size + 1 + 1) 64 24 (f) := by subst hwo; have := ((Blk.new ((w.alloc (.cells (moC (p : Int) (deg m) (.func (.func 205) #[.agg (caC p m).toArray] #[])).toArray 118)).alloc (.cells (zb 64 (a)) 24)) 64 24 (f)).alloc (.cells (zb 64 (fun _ => 0)) 24)); simpa using this
 have B3 : Blk W1 (w.heap.size + 1 + 1 + 1) 64 24 (fun _ => 0) := by subst hwo; have := (Blk.new (((w.alloc (.cells (moC (p : Int) (deg m) (.func (.func 205) #[.agg (caC p m).toArray] #[])).toArray 118)).alloc (.cells (zb 64 (a)) 24)).alloc (.cells (zb 64 (f)) 24)) 64 24 (fun _ => 0)); simpa using this
 have hb : Below w.heap.size w W1 := by subst hwo; exact (((((Below.refl _ _).alloc (Nat.le_refl _) _).alloc (by simp) _).alloc (by simp; omega) _).alloc (by simp; omega) _)
 rw [← hwo]
 clear hwo
 go_upto_region 2 with (first | rw [← z64])
 have lt_B0 := B0.lt
 have lt_B1 := B1.lt
 have lt_B2 := B2.lt
 have lt_B3 := B3.lt
 have lhb := hb.size
 obtain ⟨W2, hwo, hzQ⟩ : ∃ v : World, v = (W1.alloc (.cells (zb 64 (fun _ => 0)) 24)) ∧ Row v (w.heap.size) 118 (moC (p : Int) (deg m) (.func (.func 205) #[.agg (caC p m).toArray] #[])).toArray ∧ Blk v (w.heap.size + 1) 64 24 (a) ∧ Blk v (w.heap.size + 1 + 1) 64 24 (f) ∧ Blk v (w.heap.size + 1 + 1 + 1) 64 24 (fun _ => 0) ∧ Blk v (W1.heap.size) 64 24 (fun _ => 0) ∧ Below w.heap.size w v := ⟨_, rfl, (B0.alloc (.cells (zb 64 (fun _ => 0)) 24)), (B1.alloc (.cells (zb 64 (fun _ => 0)) 24)), (B2.alloc (.cells (zb 64 (fun _ => 0)) 24)), (B3.alloc (.cells (zb 64 (fun _ => 0)) 24)), (Blk.new W1 64 24 (fun _ => 0)), (hb.alloc (by have := hb.size; simp; omega) (.cells (zb 64 (fun _ => 0)) 24))⟩
 rw [← hwo]
 clear hwo B0 B1 B2 B3 hb
 obtain ⟨B0, B1, B2, B3, B4, hb⟩ := hzQ
 obtain ⟨N1, hNN⟩ : ∃ n : Nat, n = W1.heap.size := ⟨_, rfl⟩
 rw [← hNN] at lt_B0 lt_B1 lt_B2 lt_B3 lhb B4 ⊢
 clear hNN
 have zN1_0 := lt_B0
 have zN1_1 := lt_B1
 have zN1_2 := lt_B2
 have zN1_3 := lt_B3
 have zN1 := lhb
 clear lt_B0 lt_B1 lt_B2 lt_B3 lhb
 try simp only [Act.put, pA, pB, pC]
 go_upto_region 99 with (first | (refine zla (.tmp 4) B1 Try.underlying24 Try.size24 ?_) | (go_at_call 150; refine (degree_any a _).mono ?_; rintro e W3 ⟨rfl, hW3⟩; replace B0 := B0.zw hW3; replace B1 := B1.zw hW3; replace B2 := B2.zw hW3; replace B3 := B3.zw hW3; replace B4 := B4.zw hW3; replace hb := (hb).trans (hW3.mono (hb).size); rw [HD.out]))
 go_loopw [8] (fun i wr => ∃ q j : Nat, Hid (q + j = NN) ∧ i = .int .i64 ((q : Int) - 1) ∧ Below w.heap.size w wr ∧ Row wr (w.heap.size) 118 (moC (p : Int) (deg m) (.func (.func 205) #[.agg (caC p m).toArray] #[])).toArray ∧ Blk wr (w.heap.size + 1) 64 24 a ∧ Blk wr (w.heap.size + 1 + 1) 64 24 f ∧ Blk wr (w.heap.size + 1 + 1 + 1) 64 24 (fun _ => 0) ∧ Blk wr (N1) 64 24 (acH p m a f (NN - 1) j)) (fun i _ => (intOf i + 1).toNat)
 case atStart => exact ⟨NN, 0, Lib.hid (by omega), rfl, hb, B0, B1, B2, B3, by rw [HZ.out]; exact B4⟩
 case round =>
  clear hb B0 B1 B2 B3 B4
  obtain ⟨q, j, hqj, rfl, hb, B0, B1, B2, B3, B4⟩ := hrel
  by_cases hq0 : q = 0
  · subst hq0
    have ej : j = NN := by have := hqj.out; omega
    rw [ej] at B4
    clear hqj ej
    go_upto_region 6 with (fail)
    have lt_B0 := B0.lt
    have lt_B1 := B1.lt
    have lt_B2 := B2.lt
    have lt_B3 := B3.lt
    have lt_B4 := B4.lt
    go_wp2_with (first | rw [← z64] | (refine zla (.tmp 7) B4 Try.underlying24 Try.size24 ?_) | (refine zsr (.tmp 6) (.tmp 29) (acH p m a f (NN - 1) NN) B3 Try.size24 ?_; try simp only [Act.put]))
    obtain ⟨W4, hwo, hzQ⟩ : ∃ v : World, v = (wr.setRow (w.heap.size + 1 + 1 + 1) (zb 64 (acH p m a f (NN - 1) NN))) ∧ Row v (w.heap.size) 118 (moC (p : Int) (deg m) (.func (.func 205) #[.agg (caC p m).toArray] #[])).toArray ∧ Blk v (w.heap.size + 1) 64 24 (a) ∧ Blk v (w.heap.size + 1 + 1) 64 24 (f) ∧ Blk v (w.heap.size + 1 + 1 + 1) 64 24 (acH p m a f (NN - 1) NN) ∧ Blk v (N1) 64 24 (acH p m a f (NN - 1) NN) ∧ Below w.heap.size w v := ⟨_, rfl, (B0.rowOther (by omega)), (B1.rowOther (by omega)), (B2.rowOther (by omega)), (B3.row (acH p m a f (NN - 1) NN)), (B4.rowOther (by omega)), (zr hb (by omega) _)⟩
    rw [← hwo]
    clear hwo B0 B1 B2 B3 B4 hb
    obtain ⟨B0, B1, B2, B3, B4, hb⟩ := hzQ
    try simp only [Act.put, pA, pB, pC]
    refine bodyPost_ret (zrb rfl _ _ _ 64 24 5 _ rfl B3 Try.underlying24 Try.size24) rfl ⟨by rw [HV.out, HT.out], hb⟩
  obtain ⟨q, rfl⟩ : ∃ t, q = t + 1 := ⟨q - 1, by omega⟩
  rw [show ((q + 1 : Nat) : Int) - 1 = (q : Int) by omega]
  have hq6 : q < 64 := by have := hqj.out; omega
  obtain ⟨s1, s2, _⟩ := HH.out j (by have := hqj.out; omega)
  obtain ⟨r1, r2, _⟩ := stP_ok hpr lm h0 (x := acH p m a f (NN - 1) j) (fun k _ => s1 k)
  have laq := la q hq6
  obtain ⟨C, hC⟩ : ∃ C, C = a q := ⟨_, rfl⟩
  rw [← hC] at laq
  have HC := Lib.hid hC
  have HS1 := Lib.hid (fun W => HST.out (acH p m a f (NN - 1) j) (fun k _ => s1 k) s2 W)
  have HSC := Lib.hid (fun W => scaled_any p f C W p2 p7 lf laq)
  have HSU := Lib.hid (show ∀ W, Calls Try.prog 177 #[.int .i64 (p : Int), .agg (zb 64 (stP p m (acH p m a f (NN - 1) j))), .agg (zb 64 (sclP p f C))] W fun e w' => e = .returned (.agg (zb 64 (acH p m a f (NN - 1) (j + 1)))) ∧ Below W.heap.size W w' from fun W => by
   have e : acH p m a f (NN - 1) (j + 1) = fun i => (stP p m (acH p m a f (NN - 1) j) i + sclP p f C i) % p := by rw [HHS.out, addK_one, HC.out, show NN - 1 - j = q by have := hqj.out; omega]
   rw [e]; exact sum_any p _ _ W p2 p7 (fun k _ => r1 k) (fun k _ => Nat.mod_lt _ p0))
  clear hC s1 s2 r1 r2
  go_upto_region 5 with (fail)
  have lt_B0 : (w.heap.size) < wr.heap.size := B0.lt
  have lt_B1 : (w.heap.size + 1) < wr.heap.size := B1.lt
  have lt_B2 : (w.heap.size + 1 + 1) < wr.heap.size := B2.lt
  have lt_B3 : (w.heap.size + 1 + 1 + 1) < wr.heap.size := B3.lt
  have lt_B4 : (N1) < wr.heap.size := B4.lt
  have hbase : w.heap.size ≤ wr.heap.size := hb.size
  refine zq Try.mixed (by kernel_rfl) (by kernel_rfl) (fun v => by (simp only [frL, Act.put, pA, pB, pC, Nat.reduceAdd, Nat.zero_add]; exact rfl))
   (fun L v W4 => Below w.heap.size w W4 ∧ Kx [N1] wr W4 ∧ (∃ g, Blk W4 (N1) 64 24 (g)) ∧ (L 14 = false → Blk W4 (N1) 64 24 (acH p m a f (NN - 1) j)) ∧ (L 14 = true → Blk W4 (N1) 64 24 (acH p m a f (NN - 1) (j + 1))) ∧ VF L v [some (.pointer (some ⟨w.heap.size, 0, none⟩)), some (.int .i64 (p : Int)), some (.pointer (some ⟨w.heap.size, 2, none⟩)), some (.func (.func 205) #[.agg (caC p m).toArray] #[]), some (.agg (zb 64 (acH p m a f (NN - 1) j))), some (.agg (zb 64 (stP p m (acH p m a f (NN - 1) j)))), some (.pointer (some ⟨w.heap.size, 0, none⟩)), some (.int .i64 (p : Int)), some (.agg (zb 64 (f))), some (.int .i64 (q : Int)), some (.pointer (some ⟨w.heap.size + 1, q, none⟩)), some (.int .u8 (C : Int)), some (.agg (zb 64 (sclP p f C))), some (.agg (zb 64 (acH p m a f (NN - 1) (j + 1)))), none]) ?_ ?_ ?_
  · intro v hv0
    exact ⟨hb.drew, Kx.start _ _, ⟨_, B4.drew⟩, (fun _ => B4.drew), (fun h => by cases h), VF.start⟩
  · refine (.cons rfl ?_ (.cons rfl ?_ (.cons rfl ?_ (.cons rfl ?_ (.cons rfl ?_ (.cons rfl ?_ (.cons rfl ?_ (.cons rfl ?_ (.cons rfl ?_ (.cons rfl ?_ (.cons rfl ?_ (.cons rfl ?_ (.cons rfl ?_ (.cons rfl ?_ (.cons rfl ?_ (.nil _))))))))))))))))
    all_goals intro L v W4 hd hn ⟨hB, hX, x4, q4, n4, V⟩ K hK
    · go_wp2_with fail
      exact hK _ (.pointer (some ⟨w.heap.size, 0, none⟩)) _ (by simp only [Act.put, pA, pB, pC ]) ⟨hB, hX, x4, q4, n4, V.step 0 rfl⟩
    · have e0 := V.at (zdq hd 0 rfl) rfl
      refine wp_load_rowc 2 _ rfl _ 0 e0 118 _ (B0.kx hX (by simp <;> omega)) (.int .i64 (p : Int)) (moC_at _ _ _) _ Try.underlying2 rfl ?_
      exact hK _ _ _ rfl ⟨hB, hX, x4, q4, n4, V.step 1 rfl⟩
    · go_wp2_with fail
      exact hK _ (.pointer (some ⟨w.heap.size, 2, none⟩)) _ (by simp only [Act.put, pA, pB, pC ]) ⟨hB, hX, x4, q4, n4, V.step 2 rfl⟩
    · have e2 := V.at (zdq hd 2 rfl) rfl
      refine wp_load_rowc 116 _ rfl _ 2 e2 118 _ (B0.kx hX (by simp <;> omega)) (.func (.func 205) #[.agg (caC p m).toArray] #[]) (moC_at2 _ _ _) _ Try.underlying116 rfl ?_
      exact hK _ _ _ rfl ⟨hB, hX, x4, q4, n4, V.step 3 rfl⟩
    · have s4 := q4 (by
       cases hL : L 14 with
       | false => rfl
       | true => exact absurd rfl (hn 14 _ rfl hL ⟨4, .phase⟩ (by simp) rfl))
      refine zlc s4 Try.underlying24 Try.size24 ?_
      exact hK _ _ _ rfl ⟨hB, hX, x4, q4, n4, V.step 4 rfl⟩
    · have e3 := V.at (zdq hd 3 rfl) rfl
      have e4 := V.at (zdq hd 4 rfl) rfl
      go_wp2_with (go_at_call 205; refine (HS1.out _).mono ?_; rintro e wy ⟨rfl, hy⟩)
      exact hK _ (.agg (zb 64 (stP p m (acH p m a f (NN - 1) j)))) _ (by simp only [Act.put, pA, pB, pC, e3, e4]) ⟨hB.trans (hy.mono hB.size), hX.below hy, (let ⟨g, h⟩ := x4; ⟨g, h.zw hy⟩), (fun h => (q4 h).below hy (q4 h).lt), (fun h => (n4 h).below hy (n4 h).lt), V.step 5 rfl⟩
    · go_wp2_with fail
      exact hK _ (.pointer (some ⟨w.heap.size, 0, none⟩)) _ (by simp only [Act.put, pA, pB, pC ]) ⟨hB, hX, x4, q4, n4, V.step 6 rfl⟩
    · have e6 := V.at (zdq hd 6 rfl) rfl
      refine wp_load_rowc 2 _ rfl _ 0 e6 118 _ (B0.kx hX (by simp <;> omega)) (.int .i64 (p : Int)) (moC_at _ _ _) _ Try.underlying2 rfl ?_
      exact hK _ _ _ rfl ⟨hB, hX, x4, q4, n4, V.step 7 rfl⟩
    · refine wp_load_any 24 _ rfl _ rfl 64 24 _ (B2.kx hX (by simp <;> omega)) _ Try.underlying24 rfl Try.size24 ?_
      exact hK _ _ _ rfl ⟨hB, hX, x4, q4, n4, V.step 8 rfl⟩
    · go_wp2_with fail
      exact hK _ (.int .i64 (q : Int)) _ (by simp only [Act.put, pA, pB, pC ]) ⟨hB, hX, x4, q4, n4, V.step 9 rfl⟩
    · have e9 := V.at (zdq hd 9 rfl) rfl
      go_wp2_with fail
      exact hK _ (.pointer (some ⟨w.heap.size + 1, q, none⟩)) _ (by simp only [Act.put, pA, pB, pC, e9]) ⟨hB, hX, x4, q4, n4, V.step 10 rfl⟩
    · have e10 := V.at (zdq hd 10 rfl) rfl
      have cc := (B1.kx hX (by simp <;> omega)).cell (i := q) hq6
      rw [← HC.out] at cc
      go_wp2_with fail
      exact hK _ (.int .u8 (C : Int)) _ (by simp only [Act.put, pA, pB, pC, e10]) ⟨hB, hX, x4, q4, n4, V.step 11 rfl⟩
    · have e7 := V.at (zdq hd 7 rfl) rfl
      have e8 := V.at (zdq hd 8 rfl) rfl
      have e11 := V.at (zdq hd 11 rfl) rfl
      go_wp2_with (go_at_call 178; refine (HSC.out _).mono ?_; rintro e wy ⟨rfl, hy⟩)
      exact hK _ (.agg (zb 64 (sclP p f C))) _ (by simp only [Act.put, pA, pB, pC, e7, e8, e11]) ⟨hB.trans (hy.mono hB.size), hX.below hy, (let ⟨g, h⟩ := x4; ⟨g, h.zw hy⟩), (fun h => (q4 h).below hy (q4 h).lt), (fun h => (n4 h).below hy (n4 h).lt), V.step 12 rfl⟩
    · have e1 := V.at (zdq hd 1 rfl) rfl
      have e5 := V.at (zdq hd 5 rfl) rfl
      have e12 := V.at (zdq hd 12 rfl) rfl
      go_wp2_with (go_at_call 177; refine (HSU.out _).mono ?_; rintro e wy ⟨rfl, hy⟩)
      exact hK _ (.agg (zb 64 (acH p m a f (NN - 1) (j + 1)))) _ (by simp only [Act.put, pA, pB, pC, e1, e5, e12]) ⟨hB.trans (hy.mono hB.size), hX.below hy, (let ⟨g, h⟩ := x4; ⟨g, h.zw hy⟩), (fun h => (q4 h).below hy (q4 h).lt), (fun h => (n4 h).below hy (n4 h).lt), V.step 13 rfl⟩
    have e13 := V.at (zdq hd 13 rfl) rfl
    obtain ⟨gz, hk⟩ := x4
    refine zsb 24 _ _ rfl _ 64 (acH p m a f (NN - 1) (j + 1)) rfl e13 24 gz hk Try.size24 ?_
    exact hK _ undef _ rfl ⟨zr hB (by omega) _, hX.row (by simp) _, ⟨_, hk.row _⟩, (fun h => absurd h (by simp [setL])), (fun _ => hk.row _), V.skip 14 rfl⟩
  intro L v W4 hL ⟨hB, hX, x4, q4, n4, V⟩
  have r4 := n4 (hL 14 (by decide))
  have e0 := V.at (hL 0 (by decide)) rfl
  have e1 := V.at (hL 1 (by decide)) rfl
  have e2 := V.at (hL 2 (by decide)) rfl
  have e3 := V.at (hL 3 (by decide)) rfl
  have e4 := V.at (hL 4 (by decide)) rfl
  have e5 := V.at (hL 5 (by decide)) rfl
  have e6 := V.at (hL 6 (by decide)) rfl
  have e7 := V.at (hL 7 (by decide)) rfl
  have e8 := V.at (hL 8 (by decide)) rfl
  have e9 := V.at (hL 9 (by decide)) rfl
  have e10 := V.at (hL 10 (by decide)) rfl
  have e11 := V.at (hL 11 (by decide)) rfl
  have e12 := V.at (hL 12 (by decide)) rfl
  have e13 := V.at (hL 13 (by decide)) rfl
  clear hL x4 q4 n4 V
  replace B0 := B0.kx hX (by simp <;> omega)
  replace B1 := B1.kx hX (by simp <;> omega)
  replace B2 := B2.kx hX (by simp <;> omega)
  replace B3 := B3.kx hX (by simp <;> omega)
  clear hX
  simp only [Exit.then, e0, e1, e2, e3, e4, e5, e6, e7, e8, e9, e10, e11, e12, e13]
  clear e0 e1 e2 e3 e4 e5 e6 e7 e8 e9 e10 e11 e12 e13
  replace B4 := r4
  clear r4
  replace hb := hB
  clear hB
  clear hbase lt_B0 lt_B1 lt_B2 lt_B3 lt_B4
  go_wp2_with fail
  go_roundw
  case rel => exact ⟨q, j + 1, Lib.hid (by have := hqj.out; omega), rfl, hb, B0, B1, B2, B3, B4⟩
  case measure => simp [intOf] <;> omega
end Go.Proofs.Yteloknnooebabaa
namespace Go.Proofs.Yteloknnooebabaa
open Go.ChangeShapes Go.WideShapes Go.ChangeAt Go.RowKit
section
variable {H : Type} {enc : TypeId × Value → H} {P : Program}
theorem trod_int_to {e : TypeId} {k : IntKind} (he : P.underlying e = some (.int k)) {w : World} (w' : World) {b : Nat} (b' : Nat) {s : Nat → Bool} (s' : Nat → Bool) {h : Bool} (h' : Bool) {m : Nat} {c : List Value} {x : DataW H × List MemPlace}
 (hx : DataW.trod enc P w b s h m e c = some x) : DataW.trod enc P w' b' s' h' m e c = some x := by
 cases m with
 | zero => simp [DataW.trod] at hx
 | succ m =>
  obtain ⟨n, rfl, rfl, hw⟩ := DataW.trod_int he hx
  unfold DataW.trod
  rw [he]
  simp [hw]
theorem trod_int_same {e : TypeId} {k : IntKind} (he : P.underlying e = some (.int k)) (w w' : World) (b b' : Nat) (s s' : Nat → Bool) (h h' : Bool) (m : Nat) (c : List Value) :
 DataW.trod enc P w b s h m e c = DataW.trod enc P w' b' s' h' m e c := by
 cases h1 : DataW.trod enc P w b s h m e c with
 | some x => rw [trod_int_to he w' b' s' h' h1]
 | none =>
  cases h2 : DataW.trod enc P w' b' s' h' m e c with
  | none => rfl
  | some x => rw [trod_int_to he w b s h h2] at h1; cases h1
theorem open_barr {t e : TypeId} {n : Nat} {w : World} {r : Reach} {b0 base : Nat} {spare : Nat → Bool} {held : Bool} {v : Value} {d : DataW H} {p : List MemPlace}
 (ht : P.underlying t = some (.array n e)) (he : P.underlying e = some (.int .u8)) (hC : P.cellsOf t = n) (hCe : P.cellsOf e = 1)
 (hv : Value.okWide P w r b0 t v) (h : DataW.Trod enc P w base spare held t v d p) :
 ∃ f : Nat → Nat, byte f ∧ v = .agg (zb n f) ∧ p = [] ∧ ∀ (w' : World) (base' : Nat) (spare' : Nat → Bool) (held' : Bool), DataW.Trod enc P w' base' spare' held' t v d [] := by
 unfold Value.okWide at hv
 rw [ht] at hv
 obtain ⟨cs, rfl, hsz, _⟩ := hv
 obtain ⟨fuel, hf⟩ := h
 obtain ⟨xs, m, hm, hx, hlen, hxl, hel⟩ := DataW.trod_array ht hf
 subst hm
 have hcs : cs.size = n := by rw [hsz, hC]
 have each : ∀ i, i < n → ∃ k : Nat, k < 256 ∧ cs[i]? = some (.int .u8 (k : Int)) ∧ xs[i]? = some (.lit (.int .u8 (k : Int)), []) := by
  intro i hi
  have h1 := hel i hi
  have hxi : xs[i]? = some (xs[i]'(by omega)) := List.getElem?_eq_getElem (by omega)
  rw [hxi, hCe] at h1
  obtain ⟨z, hz1, hz2, hz3⟩ := DataW.trod_int he h1
  have hb := bounds_u8 hz3
  obtain ⟨k, rfl⟩ := Int.eq_ofNat_of_zero_le hb.1
  refine ⟨k, by omega, ?_, by rw [hxi, hz2]⟩
  have h2 : ((cs.toList.drop (i * 1)).take 1)[0]? = some (.int .u8 (k : Int)) := by
   have h3 : (Value.agg cs).cells.toList = cs.toList := rfl
   rw [← h3, hz1]; rfl
  simpa using h2
 refine ⟨fun i => match cs[i]? with | some (.int _ z) => if i < n then z.toNat else 0 | _ => 0, ?_, ?_, ?_, ?_⟩
 · intro i
   by_cases hi : i < n
   · obtain ⟨k, hk, hc, _⟩ := each i hi
     simp only [hc, hi, if_true, Int.toNat_natCast]
     exact hk
   have : cs[i]? = none := Array.getElem?_eq_none (by omega)
   simp [this]
 · congr 1
   apply Array.ext_getElem?
   intro i
   by_cases hi : i < n
   · obtain ⟨k, hk, hc, _⟩ := each i hi
     rw [bcells_get hi]
     simp only [hc, hi, if_true, Int.toNat_natCast]
   rw [Array.getElem?_eq_none (by omega), Array.getElem?_eq_none (by rw [zbs]; omega)]
 · have hp : p = xs.flatMap (·.2) := by simpa using congrArg Prod.snd hx
   rw [hp]
   rw [List.flatMap_eq_nil_iff]
   intro x hxm
   obtain ⟨i, hi⟩ := List.getElem?_of_mem hxm
   have hin : i < n := by rw [← hxl]; exact (List.getElem?_eq_some_iff.1 hi).1
   obtain ⟨k, _, _, h2⟩ := each i hin
   rw [hi] at h2
   injection h2 with h2
   rw [h2]
 intro w' base' spare' held'
 refine ⟨m + 1, ?_⟩
 have e1 : DataW.trod enc P w' base' spare' held' (m + 1) t (Value.agg cs).cells.toList = DataW.trod enc P w base spare held (m + 1) t (Value.agg cs).cells.toList := by
  unfold DataW.trod
  rw [ht]
  simp only [trod_int_same he w' w base' base spare' spare held' held m]
 rw [e1, hf]
 have hp : p = xs.flatMap (·.2) := by simpa using congrArg Prod.snd hx
 have : p = [] := by
  rw [hp, List.flatMap_eq_nil_iff]
  intro x hxm
  obtain ⟨i, hi⟩ := List.getElem?_of_mem hxm
  have hin : i < n := by rw [← hxl]; exact (List.getElem?_eq_some_iff.1 hi).1
  obtain ⟨k, _, _, h2⟩ := each i hin
  rw [hi] at h2
  injection h2 with h2
  rw [h2]
 rw [this]
theorem post_of_below0 {f : Func} {s : ChangeSpec} {apart fresh handsOn : Bool} {W W' : World} {args : Array Value} {v : Value} {ds gs : List (DataW H)} {before pa pv : List MemPlace}
 (hW : DataW.Whole enc P f.params.toList s.vars apart W args.toList ds gs before)
 (hres : ∀ (b : Nat) (sp : Nat → Bool) (hd : Bool), DataW.TrodAll enc P W' b sp hd f.resultTypes.toList (v.resultList f.resultTypes.size) (s.fn H (ds ++ gs)).results [])
 (hargs : ∀ sp : Nat → Bool, (∀ p ∈ before, sp p.block = true) → DataW.TrodAll enc P W' 0 sp true f.params.toList args.toList (s.fn H (ds ++ gs)).args pa)
 (hvars : ∀ sp : Nat → Bool, (∀ p ∈ before, sp p.block = true) → DataW.TrodVars enc P W' sp s.vars (s.fn H (ds ++ gs)).vars pv)
 (hps : before = pa ++ pv) (hb : Below W.heap.size W W') : s.post enc P f apart fresh handsOn false W args v W' := by
 have held : ∀ p ∈ before, (fun b => decide (b < W.heap.size)) p.block = true := fun p hp => by simpa using hW.lt p hp
 refine ⟨ds, gs, before, [], pa, pv, hW, hres _ _ _, hargs _ held, hvars _ held, ?_, fun h => by cases h⟩
 refine World.keptBut_mono (fun p hp => ⟨hp, .inr ?_⟩) (hb.frame (· ∈ before))
 rw [hps, List.mem_append] at hp
 exact hp
end
end Go.Proofs.Yteloknnooebabaa
namespace Go.Proofs.Yteloknnooebabaa
open Go
def cutW : List Char := [Char.ofNat 99, Char.ofNat 117, Char.ofNat 116]
theorem strip_cut (rest : List (List Char)) : stripLifts liftWords (cutW :: rest) = ([], cutW :: rest) := by
 have key : ∀ os : List String, (os.all fun o => !(cutW == o.toList)) = true → stripLifts os (cutW :: rest) = ([], cutW :: rest) := by
  intro os
  induction os with
  | nil => intro _; rfl
  | cons o os ih =>
   intro h
   simp only [List.all_cons, Bool.and_eq_true, Bool.not_eq_true'] at h
   unfold stripLifts
   rw [h.1]
   exact ih h.2
 exact key _ (by decide +kernel)
theorem make_cut {P : Program} {rest : List (List Char)} (h : behindMainWord (wordsSigns P.initOrder.toList) = cutW :: rest) : P.make = some .cut := by
 unfold Program.make
 rw [h]
 have e1 : (cutW == "gc".toList || cutW == "spec".toList) = false := by decide +kernel
 have e2 : (cutW == "cut".toList) = true := by decide +kernel
 simp only [e1, e2, Bool.true_or]
 rfl
theorem mayEnter_cut {P : Program} {rest : List (List Char)} (h : behindMainWord (wordsSigns P.initOrder.toList) = cutW :: rest) (h1 : P.laysLater = false) (h2 : P.bearsReflect = false) (h3 : P.doorFits [] = true) : P.mayEnter = true := by
 unfold Program.mayEnter
 rw [h]
 have e2 : (some cutW == some "cut".toList) = true := by decide +kernel
 simp only [strip_cut, h1, h2, h3, List.head?_cons, e2]
 simp
theorem lifts_cut {P : Program} {rest : List (List Char)} (h : behindMainWord (wordsSigns P.initOrder.toList) = cutW :: rest) : P.liftsFinal = false := by
 unfold Program.liftsFinal Program.headLifts
 rw [h]
 have e2 : (some cutW == some "cut".toList) = true := by decide +kernel
 have e3 : (some cutW == some "carried".toList) = false := by decide +kernel
 simp only [strip_cut, List.head?_cons, e2, e3]
 simp
def initRest : List (List Nat) := [[97, 116], [108, 111, 111, 112, 46, 101, 120, 97, 109, 112, 108, 101, 47, 103, 48, 49, 50, 52, 53, 47, 108, 97, 119, 115, 46, 70, 110, 69, 120, 97, 99, 116, 77, 117, 108, 116, 105, 112, 108, 121, 83, 107, 101, 119, 115], [108, 111, 111, 112, 46, 101, 120, 97, 109, 112, 108, 101, 47, 103, 48, 49, 50, 52, 53, 47, 108, 97, 119, 115, 46, 70, 110, 69, 120, 97, 99, 116, 80, 111, 119, 101, 114, 79, 102, 83, 107, 101, 119], [108, 111, 111, 112, 46, 101, 120, 97, 109, 112, 108, 101, 47, 103, 48, 49, 50, 52, 53, 47, 108, 97, 119, 115, 46, 70, 110, 69, 120, 97, 99, 116, 68, 105, 118, 105, 100, 101, 82, 105, 103, 104, 116], [108, 111, 111, 112, 46, 101, 120, 97, 109, 112, 108, 101, 47, 103, 48, 49, 50, 52, 53, 47, 108, 97, 119, 115, 46, 70, 110, 69, 120, 97, 99, 116, 68, 105, 118, 105, 100, 101, 76, 101, 102, 116], [108, 111, 111, 112, 46, 101, 120, 97, 109, 112, 108, 101, 47, 103, 48, 49, 50, 52, 53, 47, 108, 97, 119, 115, 46, 70, 110, 69, 120, 97, 99, 116, 82, 105, 103, 104, 116, 68, 105, 118, 105, 115, 111, 114], [108, 111, 111, 112, 46, 101, 120, 97, 109, 112, 108, 101, 47, 103, 48, 49, 50, 52, 53, 47, 108, 97, 119, 115, 46, 70, 110, 69, 120, 97, 99, 116, 76, 101, 102, 116, 77, 117, 108, 116, 105, 112, 108, 101], [108, 111, 111, 112, 46, 101, 120, 97, 109, 112, 108, 101, 47, 103, 48, 49, 50, 52, 53, 47, 108, 97, 119, 115, 46, 70, 110, 69, 120, 97, 99, 116, 76, 101, 97, 115, 116, 83, 107, 101, 119], [108, 111, 111, 112, 46, 101, 120, 97, 109, 112, 108, 101, 47, 103, 48, 49, 50, 52, 53, 47, 108, 97, 119, 115, 46, 70, 110, 69, 120, 97, 99, 116, 65, 99, 116, 79, 110, 82, 101, 115, 105, 100, 117, 101], [108, 111, 111, 112, 46, 101, 120, 97, 109, 112, 108, 101, 47, 103, 48, 49, 50, 52, 53, 47, 108, 97, 119, 115, 46, 70, 110, 69, 120, 97, 99, 116, 68, 101, 101, 112, 82, 101, 115, 116], [108, 111, 111, 112, 46, 101, 120, 97, 109, 112, 108, 101, 47, 103, 48, 49, 50, 52, 53, 47, 108, 97, 119, 115, 46, 70, 110, 69, 120, 97, 99, 116, 65, 100, 100, 65, 99, 116, 105, 111, 110, 115], [108, 111, 111, 112, 46, 101, 120, 97, 109, 112, 108, 101, 47, 103, 48, 49, 50, 52, 53, 47, 108, 97, 119, 115, 46, 70, 110, 69, 120, 97, 99, 116, 67, 111, 109, 112, 111, 115, 101, 65, 99, 116, 105, 111, 110, 115], [108, 111, 111, 112, 46, 101, 120, 97, 109, 112, 108, 101, 47, 103, 48, 49, 50, 52, 53, 47, 108, 97, 119, 115, 46, 70, 110, 69, 120, 97, 99, 116, 73, 115, 68, 114, 105, 110, 102, 101, 108, 100], [108, 111, 111, 112, 46, 101, 120, 97, 109, 112, 108, 101, 47, 103, 48, 49, 50, 52, 53, 47, 108, 97, 119, 115, 46, 70, 110, 69, 120, 97, 99, 116, 68, 114, 105, 110, 102, 101, 108, 100, 65, 99, 116, 105, 111, 110], [108, 111, 111, 112, 46, 101, 120, 97, 109, 112, 108, 101, 47, 103, 48, 49, 50, 52, 53, 47, 108, 97, 119, 115, 46, 70, 110, 69, 120, 97, 99, 116, 68, 114, 105, 110, 102, 101, 108, 100, 86, 97, 108, 117, 101], [108, 111, 111, 112, 46, 101, 120, 97, 109, 112, 108, 101, 47, 103, 48, 49, 50, 52, 53, 47, 108, 97, 119, 115, 46, 70, 110, 69, 120, 97, 99, 116, 73, 110, 118, 97, 114, 105, 97, 110, 116, 79, 102], [108, 111, 111, 112, 46, 101, 120, 97, 109, 112, 108, 101, 47, 103, 48, 49, 50, 52, 53, 47, 108, 97, 119, 115, 46, 70, 110, 69, 120, 97, 99, 116, 84, 119, 105, 115, 116, 79, 102], [108, 111, 111, 112, 46, 101, 120, 97, 109, 112, 108, 101, 47, 103, 48, 49, 50, 52, 53, 47, 108, 97, 119, 115, 46, 70, 110, 69, 120, 97, 99, 116, 65, 114, 101, 73, 115, 111, 109, 111, 114, 112, 104, 105, 99], [108, 111, 111, 112, 46, 101, 120, 97, 109, 112, 108, 101, 47, 103, 48, 49, 50, 52, 53, 47, 108, 97, 119, 115, 46, 70, 110, 69, 120, 97, 99, 116, 73, 115, 73, 115, 111, 103, 101, 110, 121], [108, 111, 111, 112, 46, 101, 120, 97, 109, 112, 108, 101, 47, 103, 48, 49, 50, 52, 53, 47, 108, 97, 119, 115, 46, 70, 110, 69, 120, 97, 99, 116, 78, 111, 114, 109, 79, 102], [108, 111, 111, 112, 46, 101, 120, 97, 109, 112, 108, 101, 47, 103, 48, 49, 50, 52, 53, 47, 108, 97, 119, 115, 46, 70, 110, 69, 120, 97, 99, 116, 70, 114, 111, 98, 101, 110, 105, 117, 115, 79, 102], [108, 111, 111, 112, 46, 101, 120, 97, 109, 112, 108, 101, 47, 103, 48, 49, 50, 52, 53, 47, 108, 97, 119, 115, 46, 70, 110, 69, 120, 97, 99, 116, 73, 115, 83, 117, 112, 101, 114, 115, 105, 110, 103, 117, 108, 97, 114], [108, 111, 111, 112, 46, 101, 120, 97, 109, 112, 108, 101, 47, 103, 48, 49, 50, 52, 53, 47, 108, 97, 119, 115, 46, 70, 110, 69, 120, 97, 99, 116, 79, 114, 100, 101, 114, 80, 111, 108, 121, 110, 111, 109, 105, 97, 108], [108, 111, 111, 112, 46, 101, 120, 97, 109, 112, 108, 101, 47, 103, 48, 49, 50, 52, 53, 47, 108, 97, 119, 115, 46, 70, 110, 69, 120, 97, 99, 116, 65, 108, 108, 68, 114, 105, 110, 102, 101, 108, 100], [108, 111, 111, 112, 46, 101, 120, 97, 109, 112, 108, 101, 47, 103, 48, 49, 50, 52, 53, 47, 108, 97, 119, 115, 46, 70, 110, 69, 120, 97, 99, 116, 67, 111, 117, 110, 116, 66, 121, 84, 114, 97, 99, 101]]
def initSigns : List Nat := [104, 97, 114, 110, 101, 115, 115, 32, 99, 97, 100, 55, 48, 52, 57, 53, 51, 55, 102, 57, 101, 99, 48, 100, 52, 49, 51, 57, 54, 98, 101, 48, 101, 97, 55, 102, 56, 52, 49, 101, 55, 51, 98, 99, 100, 102, 57, 50, 52, 101, 57, 54, 52, 101, 55, 99, 56, 53, 101, 99, 51, 101, 49, 49, 100, 97, 101, 55, 53, 54, 57, 52, 32, 99, 117, 116] ++ initRest.flatMap fun x => 32 :: x
theorem init_split : behindMainWord (wordsSigns (initSigns.map Char.ofNat)) = cutW :: initRest.map (fun w => w.map Char.ofNat) := by kernel_rfl
theorem init_order : Try.prog.initOrder = String.ofList (initSigns.map Char.ofNat) := by kernel_rfl
theorem init_cut : behindMainWord (wordsSigns Try.prog.initOrder.toList) = cutW :: initRest.map (fun w => w.map Char.ofNat) :=
 (congrArg (fun s : String => behindMainWord (wordsSigns s.toList)) init_order).trans ((congrArg (fun l => behindMainWord (wordsSigns l)) String.toList_ofList).trans init_split)
theorem Try.laysLater : Try.prog.laysLater = false := by kernel_rfl
theorem Try.bearsReflect : Try.prog.bearsReflect = false := by kernel_rfl
theorem Try.doorFits : Try.prog.doorFits [] = true := by kernel_rfl
theorem Try.mayEnter : Try.pinned.checked.prog.mayEnter = true := mayEnter_cut init_cut Try.laysLater Try.bearsReflect Try.doorFits
theorem Try.liftsFinal : Try.pinned.checked.prog.liftsFinal = false := lifts_cut init_cut
theorem Try.make : Try.pinned.checked.prog.make = some .cut := make_cut init_cut
end Go.Proofs.Yteloknnooebabaa
