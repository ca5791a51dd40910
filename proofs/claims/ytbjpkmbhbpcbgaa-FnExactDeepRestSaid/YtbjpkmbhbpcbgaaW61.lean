/-
  Walks: what T makes of a residue, and what a polynomial makes of it (the program).
-/
import Derived.Test.YtbjpkmbhbpcbgaaW60
namespace Go.Proofs.Ytbjpkmbhbpcbgaa
open Go Go.RowKit
set_option linter.unusedVariables false
set_option linter.unusedSimpArgs false
/-- a prime with a modulus -/
def caC (p : Nat) (m : Nat → Nat) : List Value := .int .i64 (p : Int) :: bl 64 m
theorem caC_len (p : Nat) (m : Nat → Nat) : (caC p m).length = 65 := by simp [caC, bl]
theorem caC_at (p : Nat) (m : Nat → Nat) : (caC p m).toArray[0]? = some (.int .i64 (p : Int)) := by simp [caC]
theorem caC_all (p : Nat) (m : Nat → Nat) : (caC p m).toArray.all (·.oneCell') = true := Array.all_eq_true_iff_forall_mem.2 fun u hu => by
  have hu' : u ∈ caC p m := by simpa using hu
  unfold caC at hu'
  rcases List.mem_cons.1 hu' with h | h
  · subst h; rfl
  · unfold bl at h
    obtain ⟨i, _, rfl⟩ := List.mem_map.1 h
    rfl
theorem built_ca (p : Nat) (m : Nat → Nat) : Try.prog.built 95 [(0, .int .i64 (p : Int)), (1, .agg (bcells 64 m))] = some (caC p m).toArray := by unfold caC bcells bl; kernel_rfl
theorem Row.ca {w : World} {b p : Nat} {m : Nat → Nat} (h : Row w b 95 (caC p m).toArray) : w.rangeAt b 1 (bl 64 m) := by
  intro j v hv
  have := h.range (j + 1) v (by unfold caC; simpa using hv)
  rw [Nat.zero_add] at this
  rw [Nat.add_comm]; exact this
theorem wp_load_rowv {P : Program} {o : Oper} {a : Act} {w : World} {K : Act → World → Prop} {Q : Exit → Act → World → Prop} (ty : TypeId) (x : Operand) (ho : o.op = .load ty x)
    (b : Nat) (hx : a.eval x = .pointer (some ⟨b, 0, none⟩)) (t : TypeId) (cs : Array Value) (hb : Row w b t cs) (d : TypeDesc)
    (hu : P.underlying ty = some d) (hd : (match d with | .struct _ | .array _ _ => true | _ => false) = true) (n : Nat) (hi : (P.info? ty).map (·.size) = some n) (hn : cs.size = n) (h : K (a.put o.dst (.agg cs)) w) : o.wp P a w K Q := by
  have hb' : w.heap[b]? = some (.cells cs t (0, 0)) := by unfold Row at hb; exact hb
  exact wp_load_row ty x ho b hx t _ (0, 0) d hb' hu hd (by rw [hi, hn]) h
/-- a literal of two functions -/
theorem wpList_buildF {P : Program} {ops : Array Oper} {rest : List Oper} {o : Oper} {a : Act} {w : World} {Q : Exit → Act → World → Prop} (hg : o.guard = none) (t : TypeId) (parts : Array (Nat × Operand)) (f1 f2 : Fn) (r1 r2 c1 c2 : Array Value)
    (ho : o.op = .buildSlice t 2 parts) (e : TypeId) (hu : P.underlying t = some (.slice e)) (hie : (P.info? e).map (fun i => (i.size, i.zero.isSome)) = some (1, true))
    (hp : (parts.toList.map fun x => (x.1, a.eval x.2)) = [(0, Value.func f1 r1 c1), (1, Value.func f2 r2 c2)])
    (h : ∀ w', Row w' w.heap.size e #[.func f1 r1 c1, .func f2 r2 c2] → Below w.heap.size w w' → wpList P ops Q rest (a.put o.dst (.slice (some ⟨w.heap.size, 0, none⟩) 2 2)) w') : wpList P ops Q (o :: rest) a w := by
  cases hi : P.info? e with
  | none => simp [hi] at hie
  | some ie =>
    simp only [hi, Option.map_some, Option.some.injEq, Prod.mk.injEq] at hie
    obtain ⟨hs, hz⟩ := hie
    obtain ⟨z, hzz⟩ := Option.isSome_iff_exists.1 hz
    refine wpList_buildSlice hg t e 2 parts ho _ ie z hu hi hzz (by rw [hs]; omega) (by rw [hs]; omega) ?_ (h _ (Row.new w e #[.func f1 r1 c1, .func f2 r2 c2]) (below_alloc' _ _))
    rw [Array.toList_map, hp, hs]
    obtain ⟨old, hold⟩ : ∃ old, old = (Array.range (2 * 1)).map (z.cells[· % z.cells.size]!) := ⟨_, rfl⟩
    have hsz : old.size = 2 := by rw [hold]; simp
    rw [← hold]
    obtain ⟨l⟩ := old
    match l, hsz with
    | [u, v], _ => simp [Instr.fill, Value.cells]
theorem Try.size95 : (Try.prog.info? 95).map (·.size) = some 65 := by kernel_rfl
theorem Try.elemF : (Try.prog.info? 97).map (fun i => (i.size, i.zero.isSome)) = some (1, true) := by kernel_rfl
/-- the cells below j of the stretched polynomial -/
def spS (q : Nat) (x : Nat → Nat) (j : Nat) : Nat → Nat := fun k => if k % q = 0 ∧ k / q < j then x (k / q) else 0
theorem spS_z (q : Nat) (x : Nat → Nat) : spS q x 0 = fun _ => 0 := by funext k; unfold spS; rw [if_neg (fun h => Nat.not_lt_zero _ h.2)]
theorem spS_s {q j : Nat} {x : Nat → Nat} (hq : 1 ≤ q) (k : Nat) : (if k = j * q then x j else spS q x j k) = spS q x (j + 1) k := by
  unfold spS
  by_cases h : k = j * q
  · subst h
    have e1 : j * q % q = 0 := Nat.mul_mod_left j q
    have e2 : j * q / q = j := Nat.mul_div_cancel j (by omega)
    rw [if_pos rfl, e1, e2, if_pos ⟨rfl, by omega⟩]
  · rw [if_neg h]
    by_cases h1 : k % q = 0
    · have e := Nat.div_add_mod k q
      have : k / q ≠ j := by
        intro h2; rw [h2, h1, Nat.add_zero, Nat.mul_comm] at e; omega
      by_cases h3 : k / q < j
      · rw [if_pos ⟨h1, h3⟩, if_pos ⟨h1, by omega⟩]
      · rw [if_neg (fun h => h3 h.2), if_neg (fun h => by have := h.2; omega)]
    · rw [if_neg (fun h => h1 h.1), if_neg (fun h => h1 h.1)]
theorem spS_end {q n : Nat} {x : Nat → Nat} (h : deg x < (n : Int)) : ∀ k, k < 64 → spS q x n k = strP q x k := by
  intro k hk
  unfold spS strP
  by_cases h1 : k % q = 0
  · rw [if_pos h1]
    by_cases h2 : k / q < n
    · rw [if_pos ⟨h1, h2⟩]
    · rw [if_neg (fun h => h2 h.2)]
      have h3 : k / q < 64 := Nat.lt_of_le_of_lt (Nat.div_le_self _ _) hk
      rcases deg_spec x with ⟨_, h5⟩ | ⟨d, hd, h4, _, h5⟩
      · exact (h5 _ h3).symm
      · exact (h5 _ (by omega) h3).symm
  · rw [if_neg (fun h => h1 h.1), if_neg h1]
attribute [local irreducible] deg invN dS qS stp stpr quoP resP oneP upP upF hmR mmP shA addK pgR mmC pmI pmP TP stP stI strP caC
set_option maxRecDepth 100000 in
set_option maxHeartbeats 1600000 in
theorem stretched_any (q : Nat) (f : Nat → Nat) (w : World) (hq : 1 ≤ q) (hq2 : q ≤ 1000000) (hf : ∀ k, k < 64 → f k < 256) (hd : deg f * (q : Int) ≤ 63) :
    Calls Try.prog 190 #[.agg (bcells 64 f), .int .i64 (q : Int)] w fun e w' => e = .returned (.agg (bcells 64 (strP q f))) ∧ Below w.heap.size w w' := by
  obtain ⟨gb1, gb2⟩ := deg_bounds f
  obtain ⟨NN, hNN⟩ : ∃ NN : Nat, deg f = (NN : Int) - 1 := ⟨(deg f + 1).toNat, by omega⟩
  have HD := Lib.hid hNN
  have hN6 : NN ≤ 64 := by omega
  have HQ := Lib.hid (show ∀ j, j < NN → j * q ≤ 63 from fun j hj => by
    rw [hNN] at hd
    have h1 : (j : Int) * (q : Int) ≤ ((NN : Int) - 1) * (q : Int) := Int.mul_le_mul_of_nonneg_right (by omega) (by omega)
    have h2 : (j : Int) * (q : Int) ≤ 63 := by omega
    exact_mod_cast h2)
  have HV := Lib.hid (bcells_congr (spS_end (q := q) (x := f) (n := NN) (by omega)))
  have HSS := Lib.hid (fun j k => spS_s (q := q) (j := j) (x := f) hq k)
  have HZ := Lib.hid (spS_z q f)
  clear hNN hd
  go_enter Try.func190, Try.ntmps190
  go_upto_region 1 with (fail)
  rw [← zero64]
  obtain ⟨W1, hwo⟩ : ∃ v : World, v = ((w.alloc (.cells (bcells 64 (f)) 23)).alloc (.cells (bcells 64 fun _ => 0) 23)) := ⟨_, rfl⟩
  have B0 : Blk W1 (w.heap.size) 64 23 (f) := by subst hwo; have := ((Blk.new w 64 23 (f)).alloc (.cells (bcells 64 fun _ => 0) 23)); simpa using this
  have B1 : Blk W1 (w.heap.size + 1) 64 23 (fun _ => 0) := by subst hwo; have := (Blk.new (w.alloc (.cells (bcells 64 (f)) 23)) 64 23 (fun _ => 0)); simpa using this
  have hb : Below w.heap.size w W1 := by subst hwo; exact (((Below.refl _ _).alloc (Nat.le_refl _) _).alloc (by simp) _)
  rw [← hwo]
  clear hwo
  go_upto_region 2 with (first | rw [← zero64])
  have lt_B0 := B0.lt
  have lt_B1 := B1.lt
  have lhb := hb.size
  have qB0 : Blk (W1.alloc (.cells (bcells 64 fun _ => 0) 23)) (w.heap.size) 64 23 (f) := (B0.alloc (.cells (bcells 64 fun _ => 0) 23))
  have qB1 : Blk (W1.alloc (.cells (bcells 64 fun _ => 0) 23)) (w.heap.size + 1) 64 23 (fun _ => 0) := (B1.alloc (.cells (bcells 64 fun _ => 0) 23))
  have qB2 : Blk (W1.alloc (.cells (bcells 64 fun _ => 0) 23)) (W1.heap.size) 64 23 (fun _ => 0) := (Blk.new W1 64 23 (fun _ => 0))
  have qhb : Below w.heap.size w (W1.alloc (.cells (bcells 64 fun _ => 0) 23)) := (hb.alloc (by have := hb.size; simp; omega) (.cells (bcells 64 fun _ => 0) 23))
  obtain ⟨W2, hwo⟩ : ∃ v : World, v = (W1.alloc (.cells (bcells 64 fun _ => 0) 23)) := ⟨_, rfl⟩
  rw [← hwo] at qB0 qB1 qB2 qhb ⊢
  clear hwo
  clear B0 B1 hb
  have B0 := qB0
  have B1 := qB1
  have B2 := qB2
  have hb := qhb
  clear qB0 qB1 qB2 qhb
  obtain ⟨N1, hNN⟩ : ∃ n : Nat, n = W1.heap.size := ⟨_, rfl⟩
  rw [← hNN] at lt_B0 lt_B1 lhb B2 ⊢
  clear hNN
  have zN1_0 := lt_B0
  have zN1_1 := lt_B1
  have zN1 := lhb
  clear lt_B0 lt_B1 lhb
  try simp only [Act.put, List.setIfInBounds_toArray, List.set_cons_zero, List.set_cons_succ]
  go_upto_region 99 with (first | (refine wpList_load_any rfl 23 (.tmp 2) rfl _ rfl 64 23 _ (B0) _ Try.underlying23 rfl Try.size23 ?_) | (go_at_call 78; refine (degree_any f _).mono ?_; rintro e W3 ⟨rfl, hW3⟩; replace B0 := B0.below hW3 B0.lt; replace B1 := B1.below hW3 B1.lt; replace B2 := B2.below hW3 B2.lt; replace hb := (hb).trans (hW3.mono (hb).size); rw [HD.out]))
  have hcnt : ((NN : Int) - 1 + 1) = (NN : Int) := by omega
  go_loopw [10] (fun i wr => ∃ j : Nat, i = .int .i64 (j : Int) ∧ j ≤ NN ∧ Below w.heap.size w wr ∧ Blk wr (w.heap.size) 64 23 f ∧ Blk wr (w.heap.size + 1) 64 23 (fun _ => 0) ∧ Blk wr (N1) 64 23 (spS q f j)) (fun i _ => NN - (intOf i).toNat)
  case atStart => exact ⟨0, rfl, Nat.zero_le _, hb, B0, B1, by rw [HZ.out]; exact B2⟩
  case round =>
    clear hb B0 B1 B2
    obtain ⟨j, rfl, hjn, hb, B0, B1, B2⟩ := hrel
    by_cases hj : j < NN
    · have hji : (j : Int) < (NN : Int) - 1 + 1 := by omega
      have hj6 : j < 64 := by omega
      have hjq := HQ.out j hj
      obtain ⟨J, hJ⟩ : ∃ J, J = j * q := ⟨_, rfl⟩
      have hJi : (j : Int) * (q : Int) = (J : Int) := by rw [hJ]; push_cast; rfl
      have hJ6 : J < 64 := by omega
      have hC6 := hf j hj6
      have HSJ := Lib.hid (show ∀ k, (if k = J then f j else spS q f j k) = spS q f (j + 1) k from fun k => by rw [hJ]; exact HSS.out j k)
      clear hjq
      go_upto_region 5 with (fail)
      have cc := B0.cell (i := j) hj6
      have c5 := B2.cell (i := J) hJ6
      have zz := B2.frozen J
      clear hJ
      have hwr : ∀ x : Int, x = (J : Int) → 0 ≤ x ∧ x < 64 := fun x e => by omega
      go_upto_region 6 with (first | rw [hJi])
      clear cc c5 zz hwr
      have lt_B0 := B0.lt
      have lt_B1 := B1.lt
      have lt_B2 := B2.lt
      have qB0 : Blk (wr.setCell ⟨N1, J, none⟩ (.int .u8 ((f j : Int)))) (w.heap.size) 64 23 (f) := (B0.setOther (by show (w.heap.size) ≠ (N1); omega))
      have qB1 : Blk (wr.setCell ⟨N1, J, none⟩ (.int .u8 ((f j : Int)))) (w.heap.size + 1) 64 23 (fun _ => 0) := (B1.setOther (by show (w.heap.size + 1) ≠ (N1); omega))
      have qB2 : Blk (wr.setCell ⟨N1, J, none⟩ (.int .u8 ((f j : Int)))) (N1) 64 23 (spS q f (j + 1)) := ((B2.set (v := f j) (rfl)).congr (fun k _ => HSJ.out k))
      have qhb : Below w.heap.size w (wr.setCell ⟨N1, J, none⟩ (.int .u8 ((f j : Int)))) := (hb.setCell (by show w.heap.size ≤ (N1); omega) _)
      obtain ⟨W4, hwo⟩ : ∃ v : World, v = (wr.setCell ⟨N1, J, none⟩ (.int .u8 ((f j : Int)))) := ⟨_, rfl⟩
      rw [← hwo] at qB0 qB1 qB2 qhb ⊢
      clear hwo
      clear B0 B1 B2 hb
      have B0 := qB0
      have B1 := qB1
      have B2 := qB2
      have hb := qhb
      clear qB0 qB1 qB2 qhb
      try simp only [Act.put, List.setIfInBounds_toArray, List.set_cons_zero, List.set_cons_succ]
      go_wp2_with fail
      go_roundw
      case rel => exact ⟨j + 1, by go_num, by omega, hb, B0, B1, B2⟩
      case measure => simp [intOf] <;> omega
    · have hji : ¬ (j : Int) < (NN : Int) - 1 + 1 := by omega
      obtain rfl : j = NN := by omega
      go_upto_region 7 with (fail)
      have lt_B0 := B0.lt
      have lt_B1 := B1.lt
      have lt_B2 := B2.lt
      go_wp2_with (first | rw [← zero64] | (refine wpList_load_any rfl 23 (.tmp 5) rfl _ rfl 64 23 _ (B2) _ Try.underlying23 rfl Try.size23 ?_) | (refine wpList_store_blk rfl 23 (.tmp 4) (.tmp 21) rfl _ 64 (spS q f j) rfl rfl 23 _ (B1) Try.size23 ?_; try simp only [Act.put]))
      have qB0 : Blk (wr.setRow (w.heap.size + 1) (bcells 64 (spS q f j))) (w.heap.size) 64 23 (f) := (B0.rowOther (by omega))
      have qB1 : Blk (wr.setRow (w.heap.size + 1) (bcells 64 (spS q f j))) (w.heap.size + 1) 64 23 (spS q f j) := (B1.row (spS q f j))
      have qB2 : Blk (wr.setRow (w.heap.size + 1) (bcells 64 (spS q f j))) (N1) 64 23 (spS q f j) := (B2.rowOther (by omega))
      have qhb : Below w.heap.size w (wr.setRow (w.heap.size + 1) (bcells 64 (spS q f j))) := (below_row hb (by omega) _)
      obtain ⟨W4, hwo⟩ : ∃ v : World, v = (wr.setRow (w.heap.size + 1) (bcells 64 (spS q f j))) := ⟨_, rfl⟩
      rw [← hwo] at qB0 qB1 qB2 qhb ⊢
      clear hwo
      clear B0 B1 B2 hb
      have B0 := qB0
      have B1 := qB1
      have B2 := qB2
      have hb := qhb
      clear qB0 qB1 qB2 qhb
      try simp only [Act.put, List.setIfInBounds_toArray, List.set_cons_zero, List.set_cons_succ]
      refine bodyPost_ret (results_blk rfl _ _ _ 64 23 5 _ rfl B1 Try.underlying23 Try.size23) rfl ⟨by rw [HV.out], hb⟩
set_option maxRecDepth 100000 in
set_option maxHeartbeats 1600000 in
theorem shifted_any (p : Nat) (f m : Nat → Nat) (w : World) (hpr : p = 2 ∨ p = 3 ∨ p = 5 ∨ p = 7) (lf : ∀ k, k < 64 → f k < p) (lm : ∀ k, k < 64 → m k < p) (h0 : 0 ≤ deg m) :
    Calls Try.prog 191 #[.agg (caC p m).toArray, .agg (bcells 64 f)] w fun e w' => e = .returned (.agg (bcells 64 (resP p (prd p TP f) m))) ∧ Below w.heap.size w w' := by
  have p0 : 0 < p := by omega
  have p2 : 2 ≤ p := by omega
  have p7 : p ≤ 7 := by omega
  have lT : ∀ k, k < 64 → TP k < p := fun k _ => TP_lt p2 k
  have HPR := Lib.hid (fun W => product_any p TP f W p2 p7 lT lf)
  have HRO := Lib.hid (fun W => restOf_any p (prd p TP f) m W hpr (fun k _ => prd_lt p0 k) lm h0)
  go_enter Try.func191, Try.ntmps191
  go_upto_region 1 with (fail)
  rw [← zero64]
  obtain ⟨W1, hwo⟩ : ∃ v : World, v = (((w.alloc (.cells (caC p m).toArray 95)).alloc (.cells (bcells 64 (f)) 23)).alloc (.cells (bcells 64 fun _ => 0) 23)) := ⟨_, rfl⟩
  have B0 : Row W1 (w.heap.size) 95 (caC p m).toArray := by subst hwo; have := (((Row.new w 95 (caC p m).toArray).alloc (.cells (bcells 64 (f)) 23)).alloc (.cells (bcells 64 fun _ => 0) 23)); simpa using this
  have B1 : Blk W1 (w.heap.size + 1) 64 23 (f) := by subst hwo; have := ((Blk.new (w.alloc (.cells (caC p m).toArray 95)) 64 23 (f)).alloc (.cells (bcells 64 fun _ => 0) 23)); simpa using this
  have B2 : Blk W1 (w.heap.size + 1 + 1) 64 23 (fun _ => 0) := by subst hwo; have := (Blk.new ((w.alloc (.cells (caC p m).toArray 95)).alloc (.cells (bcells 64 (f)) 23)) 64 23 (fun _ => 0)); simpa using this
  have hb : Below w.heap.size w W1 := by subst hwo; exact ((((Below.refl _ _).alloc (Nat.le_refl _) _).alloc (by simp) _).alloc (by simp; omega) _)
  rw [← hwo]
  clear hwo
  have lt_B0 : (w.heap.size) < W1.heap.size := B0.lt
  have lt_B1 : (w.heap.size + 1) < W1.heap.size := B1.lt
  have lt_B2 : (w.heap.size + 1 + 1) < W1.heap.size := B2.lt
  have hbase : w.heap.size ≤ W1.heap.size := hb.size
  refine wp_region_steps0 Try.mixed (by kernel_rfl) (by kernel_rfl) (fun v => by (simp only [frL, Act.put, List.setIfInBounds_toArray, List.set_cons_zero, List.set_cons_succ, Nat.reduceAdd, Nat.zero_add]; exact rfl))
    (fun L v W2 => Below w.heap.size w W2 ∧ W1.heap.size ≤ W2.heap.size ∧ Row W2 (w.heap.size) 95 (caC p m).toArray ∧ Blk W2 (w.heap.size + 1) 64 23 (f) ∧ (∃ g, Blk W2 (w.heap.size + 1 + 1) 64 23 (g)) ∧ (L 10 = false → Blk W2 (w.heap.size + 1 + 1) 64 23 (fun _ => 0)) ∧ (L 10 = true → Blk W2 (w.heap.size + 1 + 1) 64 23 (resP p (prd p TP f) m)) ∧ (L 0 = true → v 0 = (.pointer (some ⟨w.heap.size, 0, none⟩))) ∧ (L 1 = true → v 1 = (.int .i64 (p : Int))) ∧ (L 2 = true → v 2 = (.pointer (some ⟨w.heap.size, 0, none⟩))) ∧ (L 3 = true → v 3 = (.int .i64 (p : Int))) ∧ (L 4 = true → v 4 = (.agg (bcells 64 (TP)))) ∧ (L 5 = true → v 5 = (.agg (bcells 64 (f)))) ∧ (L 6 = true → v 6 = (.agg (bcells 64 (prd p TP f)))) ∧ (L 7 = true → v 7 = (.pointer (some ⟨w.heap.size, 1, none⟩))) ∧ (L 8 = true → v 8 = (.agg (bcells 64 (m)))) ∧ (L 9 = true → v 9 = (.agg (bcells 64 (resP p (prd p TP f) m))))) ?_ ?_ ?_
  · intro v hv0
    exact ⟨hb.drew, Nat.le_refl _, B0.drew, B1.drew, ⟨_, B2.drew⟩, (fun _ => B2.drew), (fun h => by cases h), (fun h => by cases h), (fun h => by cases h), (fun h => by cases h), (fun h => by cases h), (fun h => by cases h), (fun h => by cases h), (fun h => by cases h), (fun h => by cases h), (fun h => by cases h), (fun h => by cases h)⟩
  · refine (.cons rfl ?_ (.cons rfl ?_ (.cons rfl ?_ (.cons rfl ?_ (.cons rfl ?_ (.cons rfl ?_ (.cons rfl ?_ (.cons rfl ?_ (.cons rfl ?_ (.cons rfl ?_ (.cons rfl ?_ (.nil _))))))))))))
    · intro L v W2 hd hn ⟨hB, hz, s0, s1, x2, q2, n2, h0, h1, h2, h3, h4, h5, h6, h7, h8, h9⟩ K hK
      go_wp2_with fail
      exact hK _ (.pointer (some ⟨w.heap.size, 0, none⟩)) _ (by simp only [Act.put, List.setIfInBounds_toArray, List.set_cons_zero, List.set_cons_succ ]) ⟨hB, hz, s0, s1, x2, q2, n2, (fun _ => rfl), h1, h2, h3, h4, h5, h6, h7, h8, h9⟩
    · intro L v W2 hd hn ⟨hB, hz, s0, s1, x2, q2, n2, h0, h1, h2, h3, h4, h5, h6, h7, h8, h9⟩ K hK
      have e0 := h0 (hd ⟨0, .data⟩ (by simp) rfl)
      have cc := s0.cell (i := 0) (v := .int .i64 (p : Int)) (caC_at p m)
      go_wp2_with fail
      exact hK _ (.int .i64 (p : Int)) _ (by simp only [Act.put, List.setIfInBounds_toArray, List.set_cons_zero, List.set_cons_succ, e0]) ⟨hB, hz, s0, s1, x2, q2, n2, h0, (fun _ => rfl), h2, h3, h4, h5, h6, h7, h8, h9⟩
    · intro L v W2 hd hn ⟨hB, hz, s0, s1, x2, q2, n2, h0, h1, h2, h3, h4, h5, h6, h7, h8, h9⟩ K hK
      go_wp2_with fail
      exact hK _ (.pointer (some ⟨w.heap.size, 0, none⟩)) _ (by simp only [Act.put, List.setIfInBounds_toArray, List.set_cons_zero, List.set_cons_succ ]) ⟨hB, hz, s0, s1, x2, q2, n2, h0, h1, (fun _ => rfl), h3, h4, h5, h6, h7, h8, h9⟩
    · intro L v W2 hd hn ⟨hB, hz, s0, s1, x2, q2, n2, h0, h1, h2, h3, h4, h5, h6, h7, h8, h9⟩ K hK
      have e2 := h2 (hd ⟨2, .data⟩ (by simp) rfl)
      have cc := s0.cell (i := 0) (v := .int .i64 (p : Int)) (caC_at p m)
      go_wp2_with fail
      exact hK _ (.int .i64 (p : Int)) _ (by simp only [Act.put, List.setIfInBounds_toArray, List.set_cons_zero, List.set_cons_succ, e2]) ⟨hB, hz, s0, s1, x2, q2, n2, h0, h1, h2, (fun _ => rfl), h4, h5, h6, h7, h8, h9⟩
    · intro L v W2 hd hn ⟨hB, hz, s0, s1, x2, q2, n2, h0, h1, h2, h3, h4, h5, h6, h7, h8, h9⟩ K hK
      refine wp_build_of 23 _ rfl (bcells 64 TP) (by rw [Array.toList_map]; exact built_T) ?_
      exact hK _ _ _ rfl ⟨hB, hz, s0, s1, x2, q2, n2, h0, h1, h2, h3, (fun _ => rfl), h5, h6, h7, h8, h9⟩
    · intro L v W2 hd hn ⟨hB, hz, s0, s1, x2, q2, n2, h0, h1, h2, h3, h4, h5, h6, h7, h8, h9⟩ K hK
      refine wp_load_any 23 _ rfl _ rfl 64 23 _ s1 _ Try.underlying23 rfl Try.size23 ?_
      exact hK _ _ _ rfl ⟨hB, hz, s0, s1, x2, q2, n2, h0, h1, h2, h3, h4, (fun _ => rfl), h6, h7, h8, h9⟩
    · intro L v W2 hd hn ⟨hB, hz, s0, s1, x2, q2, n2, h0, h1, h2, h3, h4, h5, h6, h7, h8, h9⟩ K hK
      have e3 := h3 (hd ⟨3, .data⟩ (by simp) rfl)
      have e4 := h4 (hd ⟨4, .data⟩ (by simp) rfl)
      have e5 := h5 (hd ⟨5, .data⟩ (by simp) rfl)
      go_wp2_with (go_at_call 80; refine (HPR.out _).mono ?_; rintro e wy ⟨rfl, hy⟩)
      exact hK _ (.agg (bcells 64 (prd p TP f))) _ (by simp only [Act.put, List.setIfInBounds_toArray, List.set_cons_zero, List.set_cons_succ, e3, e4, e5]) ⟨hB.trans (hy.mono hB.size), (Nat.le_trans hz hy.size), (s0).below hy (s0).lt, (s1).below hy (s1).lt, (let ⟨g, h⟩ := x2; ⟨g, (h).below hy (h).lt⟩), (fun h => (q2 h).below hy (q2 h).lt), (fun h => (n2 h).below hy (n2 h).lt), h0, h1, h2, h3, h4, h5, (fun _ => rfl), h7, h8, h9⟩
    · intro L v W2 hd hn ⟨hB, hz, s0, s1, x2, q2, n2, h0, h1, h2, h3, h4, h5, h6, h7, h8, h9⟩ K hK
      go_wp2_with fail
      exact hK _ (.pointer (some ⟨w.heap.size, 1, none⟩)) _ (by simp only [Act.put, List.setIfInBounds_toArray, List.set_cons_zero, List.set_cons_succ ]) ⟨hB, hz, s0, s1, x2, q2, n2, h0, h1, h2, h3, h4, h5, h6, (fun _ => rfl), h8, h9⟩
    · intro L v W2 hd hn ⟨hB, hz, s0, s1, x2, q2, n2, h0, h1, h2, h3, h4, h5, h6, h7, h8, h9⟩ K hK
      have e7 := h7 (hd ⟨7, .data⟩ (by simp) rfl)
      refine wp_load_mid 23 _ rfl _ 1 e7 _ _ (s0.ca) Try.underlying23 rfl (by rw [bl_length]; exact Try.size23) ?_
      exact hK _ _ _ rfl ⟨hB, hz, s0, s1, x2, q2, n2, h0, h1, h2, h3, h4, h5, h6, h7, (fun _ => rfl), h9⟩
    · intro L v W2 hd hn ⟨hB, hz, s0, s1, x2, q2, n2, h0, h1, h2, h3, h4, h5, h6, h7, h8, h9⟩ K hK
      have e1 := h1 (hd ⟨1, .data⟩ (by simp) rfl)
      have e6 := h6 (hd ⟨6, .data⟩ (by simp) rfl)
      have e8 := h8 (hd ⟨8, .data⟩ (by simp) rfl)
      go_wp2_with (go_at_call 113; refine (HRO.out _).mono ?_; rintro e wy ⟨rfl, hy⟩)
      exact hK _ (.agg (bcells 64 (resP p (prd p TP f) m))) _ (by simp only [Act.put, List.setIfInBounds_toArray, List.set_cons_zero, List.set_cons_succ, e1, e6, e8]) ⟨hB.trans (hy.mono hB.size), (Nat.le_trans hz hy.size), (s0).below hy (s0).lt, (s1).below hy (s1).lt, (let ⟨g, h⟩ := x2; ⟨g, (h).below hy (h).lt⟩), (fun h => (q2 h).below hy (q2 h).lt), (fun h => (n2 h).below hy (n2 h).lt), h0, h1, h2, h3, h4, h5, h6, h7, h8, (fun _ => rfl)⟩
    · intro L v W2 hd hn ⟨hB, hz, s0, s1, x2, q2, n2, h0, h1, h2, h3, h4, h5, h6, h7, h8, h9⟩ K hK
      have e9 := h9 (hd ⟨9, .data⟩ (by simp) rfl)
      obtain ⟨gz, hk⟩ := x2
      refine wp_store_blk 23 _ _ rfl _ 64 (resP p (prd p TP f) m) rfl e9 23 gz hk Try.size23 ?_
      exact hK _ undef _ rfl ⟨below_row hB (by omega) _, (by simpa [World.setRow] using hz), (s0).rowOther (by omega), (s1).rowOther (by omega), ⟨_, hk.row _⟩, (fun h => absurd h (by simp [setL])), (fun _ => hk.row _), h0, h1, h2, h3, h4, h5, h6, h7, h8, h9⟩
  · intro L v W2 hL ⟨hB, hz, s0, s1, x2, q2, n2, h0, h1, h2, h3, h4, h5, h6, h7, h8, h9⟩
    have r2 := n2 (hL 10 (by decide))
    have e0 := h0 (hL 0 (by decide))
    have e1 := h1 (hL 1 (by decide))
    have e2 := h2 (hL 2 (by decide))
    have e3 := h3 (hL 3 (by decide))
    have e4 := h4 (hL 4 (by decide))
    have e5 := h5 (hL 5 (by decide))
    have e6 := h6 (hL 6 (by decide))
    have e7 := h7 (hL 7 (by decide))
    have e8 := h8 (hL 8 (by decide))
    have e9 := h9 (hL 9 (by decide))
    clear hL x2 q2 n2 h0 h1 h2 h3 h4 h5 h6 h7 h8 h9
    simp only [Exit.then, e0, e1, e2, e3, e4, e5, e6, e7, e8, e9]
    clear e0 e1 e2 e3 e4 e5 e6 e7 e8 e9
    clear B0
    have B0 := s0
    clear s0
    clear B1
    have B1 := s1
    clear s1
    clear B2
    have B2 := r2
    clear r2
    clear hb
    have hb := hB
    clear hB
    clear hbase hz lt_B0 lt_B1 lt_B2
    go_wp2_with fail
    refine bodyPost_ret (results_blk rfl _ _ _ 64 23 5 _ rfl B2 Try.underlying23 Try.size23) rfl ⟨rfl, hb⟩
set_option maxRecDepth 100000 in
set_option maxHeartbeats 1600000 in
theorem frobeniusC_any (p : Nat) (f m : Nat → Nat) (w : World) (hpr : p = 2 ∨ p = 3 ∨ p = 5 ∨ p = 7) (lf : ∀ k, k < 64 → f k < p) (lm : ∀ k, k < 64 → m k < p) (h0 : 0 ≤ deg m) (hd : deg f * (p : Int) ≤ 63) :
    Calls Try.prog 192 #[.agg (caC p m).toArray, .agg (bcells 64 f)] w fun e w' => e = .returned (.agg (bcells 64 (resP p (strP p f) m))) ∧ Below w.heap.size w w' := by
  have p0 : 0 < p := by omega
  have p2 : 2 ≤ p := by omega
  have p7 : p ≤ 7 := by omega
  have HPR := Lib.hid (fun W => stretched_any p f W (by omega) (by omega) (fun k hk => by have := lf k hk; omega) hd)
  have HRO := Lib.hid (fun W => restOf_any p (strP p f) m W hpr (strP_lt p0 (by omega) lf) lm h0)
  go_enter Try.func192, Try.ntmps192
  go_upto_region 1 with (fail)
  rw [← zero64]
  obtain ⟨W1, hwo⟩ : ∃ v : World, v = (((w.alloc (.cells (caC p m).toArray 95)).alloc (.cells (bcells 64 (f)) 23)).alloc (.cells (bcells 64 fun _ => 0) 23)) := ⟨_, rfl⟩
  have B0 : Row W1 (w.heap.size) 95 (caC p m).toArray := by subst hwo; have := (((Row.new w 95 (caC p m).toArray).alloc (.cells (bcells 64 (f)) 23)).alloc (.cells (bcells 64 fun _ => 0) 23)); simpa using this
  have B1 : Blk W1 (w.heap.size + 1) 64 23 (f) := by subst hwo; have := ((Blk.new (w.alloc (.cells (caC p m).toArray 95)) 64 23 (f)).alloc (.cells (bcells 64 fun _ => 0) 23)); simpa using this
  have B2 : Blk W1 (w.heap.size + 1 + 1) 64 23 (fun _ => 0) := by subst hwo; have := (Blk.new ((w.alloc (.cells (caC p m).toArray 95)).alloc (.cells (bcells 64 (f)) 23)) 64 23 (fun _ => 0)); simpa using this
  have hb : Below w.heap.size w W1 := by subst hwo; exact ((((Below.refl _ _).alloc (Nat.le_refl _) _).alloc (by simp) _).alloc (by simp; omega) _)
  rw [← hwo]
  clear hwo
  have lt_B0 : (w.heap.size) < W1.heap.size := B0.lt
  have lt_B1 : (w.heap.size + 1) < W1.heap.size := B1.lt
  have lt_B2 : (w.heap.size + 1 + 1) < W1.heap.size := B2.lt
  have hbase : w.heap.size ≤ W1.heap.size := hb.size
  refine wp_region_steps0 Try.mixed (by kernel_rfl) (by kernel_rfl) (fun v => by (simp only [frL, Act.put, List.setIfInBounds_toArray, List.set_cons_zero, List.set_cons_succ, Nat.reduceAdd, Nat.zero_add]; exact rfl))
    (fun L v W2 => Below w.heap.size w W2 ∧ W1.heap.size ≤ W2.heap.size ∧ Row W2 (w.heap.size) 95 (caC p m).toArray ∧ Blk W2 (w.heap.size + 1) 64 23 (f) ∧ (∃ g, Blk W2 (w.heap.size + 1 + 1) 64 23 (g)) ∧ (L 9 = false → Blk W2 (w.heap.size + 1 + 1) 64 23 (fun _ => 0)) ∧ (L 9 = true → Blk W2 (w.heap.size + 1 + 1) 64 23 (resP p (strP p f) m)) ∧ (L 0 = true → v 0 = (.pointer (some ⟨w.heap.size, 0, none⟩))) ∧ (L 1 = true → v 1 = (.int .i64 (p : Int))) ∧ (L 2 = true → v 2 = (.agg (bcells 64 (f)))) ∧ (L 3 = true → v 3 = (.pointer (some ⟨w.heap.size, 0, none⟩))) ∧ (L 4 = true → v 4 = (.int .i64 (p : Int))) ∧ (L 5 = true → v 5 = (.agg (bcells 64 (strP p f)))) ∧ (L 6 = true → v 6 = (.pointer (some ⟨w.heap.size, 1, none⟩))) ∧ (L 7 = true → v 7 = (.agg (bcells 64 (m)))) ∧ (L 8 = true → v 8 = (.agg (bcells 64 (resP p (strP p f) m))))) ?_ ?_ ?_
  · intro v hv0
    exact ⟨hb.drew, Nat.le_refl _, B0.drew, B1.drew, ⟨_, B2.drew⟩, (fun _ => B2.drew), (fun h => by cases h), (fun h => by cases h), (fun h => by cases h), (fun h => by cases h), (fun h => by cases h), (fun h => by cases h), (fun h => by cases h), (fun h => by cases h), (fun h => by cases h), (fun h => by cases h)⟩
  · refine (.cons rfl ?_ (.cons rfl ?_ (.cons rfl ?_ (.cons rfl ?_ (.cons rfl ?_ (.cons rfl ?_ (.cons rfl ?_ (.cons rfl ?_ (.cons rfl ?_ (.cons rfl ?_ (.nil _)))))))))))
    · intro L v W2 hd hn ⟨hB, hz, s0, s1, x2, q2, n2, h0, h1, h2, h3, h4, h5, h6, h7, h8⟩ K hK
      go_wp2_with fail
      exact hK _ (.pointer (some ⟨w.heap.size, 0, none⟩)) _ (by simp only [Act.put, List.setIfInBounds_toArray, List.set_cons_zero, List.set_cons_succ ]) ⟨hB, hz, s0, s1, x2, q2, n2, (fun _ => rfl), h1, h2, h3, h4, h5, h6, h7, h8⟩
    · intro L v W2 hd hn ⟨hB, hz, s0, s1, x2, q2, n2, h0, h1, h2, h3, h4, h5, h6, h7, h8⟩ K hK
      have e0 := h0 (hd ⟨0, .data⟩ (by simp) rfl)
      have cc := s0.cell (i := 0) (v := .int .i64 (p : Int)) (caC_at p m)
      go_wp2_with fail
      exact hK _ (.int .i64 (p : Int)) _ (by simp only [Act.put, List.setIfInBounds_toArray, List.set_cons_zero, List.set_cons_succ, e0]) ⟨hB, hz, s0, s1, x2, q2, n2, h0, (fun _ => rfl), h2, h3, h4, h5, h6, h7, h8⟩
    · intro L v W2 hd hn ⟨hB, hz, s0, s1, x2, q2, n2, h0, h1, h2, h3, h4, h5, h6, h7, h8⟩ K hK
      refine wp_load_any 23 _ rfl _ rfl 64 23 _ s1 _ Try.underlying23 rfl Try.size23 ?_
      exact hK _ _ _ rfl ⟨hB, hz, s0, s1, x2, q2, n2, h0, h1, (fun _ => rfl), h3, h4, h5, h6, h7, h8⟩
    · intro L v W2 hd hn ⟨hB, hz, s0, s1, x2, q2, n2, h0, h1, h2, h3, h4, h5, h6, h7, h8⟩ K hK
      go_wp2_with fail
      exact hK _ (.pointer (some ⟨w.heap.size, 0, none⟩)) _ (by simp only [Act.put, List.setIfInBounds_toArray, List.set_cons_zero, List.set_cons_succ ]) ⟨hB, hz, s0, s1, x2, q2, n2, h0, h1, h2, (fun _ => rfl), h4, h5, h6, h7, h8⟩
    · intro L v W2 hd hn ⟨hB, hz, s0, s1, x2, q2, n2, h0, h1, h2, h3, h4, h5, h6, h7, h8⟩ K hK
      have e3 := h3 (hd ⟨3, .data⟩ (by simp) rfl)
      have cc := s0.cell (i := 0) (v := .int .i64 (p : Int)) (caC_at p m)
      go_wp2_with fail
      exact hK _ (.int .i64 (p : Int)) _ (by simp only [Act.put, List.setIfInBounds_toArray, List.set_cons_zero, List.set_cons_succ, e3]) ⟨hB, hz, s0, s1, x2, q2, n2, h0, h1, h2, h3, (fun _ => rfl), h5, h6, h7, h8⟩
    · intro L v W2 hd hn ⟨hB, hz, s0, s1, x2, q2, n2, h0, h1, h2, h3, h4, h5, h6, h7, h8⟩ K hK
      have e2 := h2 (hd ⟨2, .data⟩ (by simp) rfl)
      have e4 := h4 (hd ⟨4, .data⟩ (by simp) rfl)
      go_wp2_with (go_at_call 190; refine (HPR.out _).mono ?_; rintro e wy ⟨rfl, hy⟩)
      exact hK _ (.agg (bcells 64 (strP p f))) _ (by simp only [Act.put, List.setIfInBounds_toArray, List.set_cons_zero, List.set_cons_succ, e2, e4]) ⟨hB.trans (hy.mono hB.size), (Nat.le_trans hz hy.size), (s0).below hy (s0).lt, (s1).below hy (s1).lt, (let ⟨g, h⟩ := x2; ⟨g, (h).below hy (h).lt⟩), (fun h => (q2 h).below hy (q2 h).lt), (fun h => (n2 h).below hy (n2 h).lt), h0, h1, h2, h3, h4, (fun _ => rfl), h6, h7, h8⟩
    · intro L v W2 hd hn ⟨hB, hz, s0, s1, x2, q2, n2, h0, h1, h2, h3, h4, h5, h6, h7, h8⟩ K hK
      go_wp2_with fail
      exact hK _ (.pointer (some ⟨w.heap.size, 1, none⟩)) _ (by simp only [Act.put, List.setIfInBounds_toArray, List.set_cons_zero, List.set_cons_succ ]) ⟨hB, hz, s0, s1, x2, q2, n2, h0, h1, h2, h3, h4, h5, (fun _ => rfl), h7, h8⟩
    · intro L v W2 hd hn ⟨hB, hz, s0, s1, x2, q2, n2, h0, h1, h2, h3, h4, h5, h6, h7, h8⟩ K hK
      have e6 := h6 (hd ⟨6, .data⟩ (by simp) rfl)
      refine wp_load_mid 23 _ rfl _ 1 e6 _ _ (s0.ca) Try.underlying23 rfl (by rw [bl_length]; exact Try.size23) ?_
      exact hK _ _ _ rfl ⟨hB, hz, s0, s1, x2, q2, n2, h0, h1, h2, h3, h4, h5, h6, (fun _ => rfl), h8⟩
    · intro L v W2 hd hn ⟨hB, hz, s0, s1, x2, q2, n2, h0, h1, h2, h3, h4, h5, h6, h7, h8⟩ K hK
      have e1 := h1 (hd ⟨1, .data⟩ (by simp) rfl)
      have e5 := h5 (hd ⟨5, .data⟩ (by simp) rfl)
      have e7 := h7 (hd ⟨7, .data⟩ (by simp) rfl)
      go_wp2_with (go_at_call 113; refine (HRO.out _).mono ?_; rintro e wy ⟨rfl, hy⟩)
      exact hK _ (.agg (bcells 64 (resP p (strP p f) m))) _ (by simp only [Act.put, List.setIfInBounds_toArray, List.set_cons_zero, List.set_cons_succ, e1, e5, e7]) ⟨hB.trans (hy.mono hB.size), (Nat.le_trans hz hy.size), (s0).below hy (s0).lt, (s1).below hy (s1).lt, (let ⟨g, h⟩ := x2; ⟨g, (h).below hy (h).lt⟩), (fun h => (q2 h).below hy (q2 h).lt), (fun h => (n2 h).below hy (n2 h).lt), h0, h1, h2, h3, h4, h5, h6, h7, (fun _ => rfl)⟩
    · intro L v W2 hd hn ⟨hB, hz, s0, s1, x2, q2, n2, h0, h1, h2, h3, h4, h5, h6, h7, h8⟩ K hK
      have e8 := h8 (hd ⟨8, .data⟩ (by simp) rfl)
      obtain ⟨gz, hk⟩ := x2
      refine wp_store_blk 23 _ _ rfl _ 64 (resP p (strP p f) m) rfl e8 23 gz hk Try.size23 ?_
      exact hK _ undef _ rfl ⟨below_row hB (by omega) _, (by simpa [World.setRow] using hz), (s0).rowOther (by omega), (s1).rowOther (by omega), ⟨_, hk.row _⟩, (fun h => absurd h (by simp [setL])), (fun _ => hk.row _), h0, h1, h2, h3, h4, h5, h6, h7, h8⟩
  · intro L v W2 hL ⟨hB, hz, s0, s1, x2, q2, n2, h0, h1, h2, h3, h4, h5, h6, h7, h8⟩
    have r2 := n2 (hL 9 (by decide))
    have e0 := h0 (hL 0 (by decide))
    have e1 := h1 (hL 1 (by decide))
    have e2 := h2 (hL 2 (by decide))
    have e3 := h3 (hL 3 (by decide))
    have e4 := h4 (hL 4 (by decide))
    have e5 := h5 (hL 5 (by decide))
    have e6 := h6 (hL 6 (by decide))
    have e7 := h7 (hL 7 (by decide))
    have e8 := h8 (hL 8 (by decide))
    clear hL x2 q2 n2 h0 h1 h2 h3 h4 h5 h6 h7 h8
    simp only [Exit.then, e0, e1, e2, e3, e4, e5, e6, e7, e8]
    clear e0 e1 e2 e3 e4 e5 e6 e7 e8
    clear B0
    have B0 := s0
    clear s0
    clear B1
    have B1 := s1
    clear s1
    clear B2
    have B2 := r2
    clear r2
    clear hb
    have hb := hB
    clear hB
    clear hbase hz lt_B0 lt_B1 lt_B2
    go_wp2_with fail
    refine bodyPost_ret (results_blk rfl _ _ _ 64 23 5 _ rfl B2 Try.underlying23 Try.size23) rfl ⟨rfl, hb⟩
set_option maxRecDepth 100000 in
set_option maxHeartbeats 1600000 in
theorem step_any (p : Nat) (f m : Nat → Nat) (w : World) (hpr : p = 2 ∨ p = 3 ∨ p = 5 ∨ p = 7) (lf : ∀ k, k < 64 → f k < p) (lm : ∀ k, k < 64 → m k < p) (h0 : 0 ≤ deg m) (h9 : deg m ≤ 9) (hdf : deg f < deg m) :
    Calls Try.prog 169 #[.agg (caC p m).toArray, .agg (bcells 64 f)] w fun e w' => e = .returned (.agg (bcells 64 (stP p m f))) ∧ Below w.heap.size w w' := by
  have p0 : 0 < p := by omega
  have p2 : 2 ≤ p := by omega
  have p7 : p ≤ 7 := by omega
  have hdp : deg f * (p : Int) ≤ 63 := by rcases hpr with rfl | rfl | rfl | rfl <;> omega
  have HSH := Lib.hid (fun W => shifted_any p f m W hpr lf lm h0)
  have HFR := Lib.hid (fun W => frobeniusC_any p f m W hpr lf lm h0 hdp)
  have l1 : ∀ k, k < 64 → resP p (prd p TP f) m k < p := resP_lt p0 (fun k _ => prd_lt p0 k)
  have l2 : ∀ k, k < 64 → resP p (strP p f) m k < p := resP_lt p0 (strP_lt p0 (by omega) lf)
  have HS1 := Lib.hid (show ∀ W, Calls Try.prog 162 #[.int .i64 (p : Int), .agg (bcells 64 fun _ => 0), .agg (bcells 64 (resP p (prd p TP f) m))] W fun e w' => e = .returned (.agg (bcells 64 (addK p (fun _ => 0) (resP p (prd p TP f) m) 1))) ∧ Below W.heap.size W w' from fun W => by
    rw [addK_one]; exact sum_any p _ _ W p2 p7 (fun _ _ => p0) l1)
  have HS2 := Lib.hid (show ∀ W, Calls Try.prog 162 #[.int .i64 (p : Int), .agg (bcells 64 (addK p (fun _ => 0) (resP p (prd p TP f) m) 1)), .agg (bcells 64 (resP p (strP p f) m))] W fun e w' => e = .returned (.agg (bcells 64 (stI p m f))) ∧ Below W.heap.size W w' from fun W => by
    have e : stI p m f = fun i => (addK p (fun _ => 0) (resP p (prd p TP f) m) 1 i + resP p (strP p f) m i) % p := by unfold stI; rw [addK_one]
    rw [e]; exact sum_any p _ _ W p2 p7 (fun k _ => addK_lt p0 k) l2)
  have HV := Lib.hid (bcells_congr (stI_eq hpr lm h0 h9 lf hdf))
  have hmf : ∀ (fn : Fn) (first cap : Array Value) (w : World), (Instr.makeFunc fn first cap).run Try.prog w = .ok (.func fn first cap) w := fun _ _ _ _ => rfl
  go_enter Try.func169, Try.ntmps169
  go_upto_region 1 with (fail)
  rw [← zero64]
  obtain ⟨W1, hwo⟩ : ∃ v : World, v = (((w.alloc (.cells (caC p m).toArray 95)).alloc (.cells (bcells 64 (f)) 23)).alloc (.cells (bcells 64 fun _ => 0) 23)) := ⟨_, rfl⟩
  have B0 : Row W1 (w.heap.size) 95 (caC p m).toArray := by subst hwo; have := (((Row.new w 95 (caC p m).toArray).alloc (.cells (bcells 64 (f)) 23)).alloc (.cells (bcells 64 fun _ => 0) 23)); simpa using this
  have B1 : Blk W1 (w.heap.size + 1) 64 23 (f) := by subst hwo; have := ((Blk.new (w.alloc (.cells (caC p m).toArray 95)) 64 23 (f)).alloc (.cells (bcells 64 fun _ => 0) 23)); simpa using this
  have B2 : Blk W1 (w.heap.size + 1 + 1) 64 23 (fun _ => 0) := by subst hwo; have := (Blk.new ((w.alloc (.cells (caC p m).toArray 95)).alloc (.cells (bcells 64 (f)) 23)) 64 23 (fun _ => 0)); simpa using this
  have hb : Below w.heap.size w W1 := by subst hwo; exact ((((Below.refl _ _).alloc (Nat.le_refl _) _).alloc (by simp) _).alloc (by simp; omega) _)
  rw [← hwo]
  clear hwo
  go_upto_region 2 with (first | rw [← zero64])
  have lt_B0 := B0.lt
  have lt_B1 := B1.lt
  have lt_B2 := B2.lt
  have lhb := hb.size
  have qB0 : Row (W1.alloc (.cells (bcells 64 fun _ => 0) 23)) (w.heap.size) 95 (caC p m).toArray := (B0.alloc (.cells (bcells 64 fun _ => 0) 23))
  have qB1 : Blk (W1.alloc (.cells (bcells 64 fun _ => 0) 23)) (w.heap.size + 1) 64 23 (f) := (B1.alloc (.cells (bcells 64 fun _ => 0) 23))
  have qB2 : Blk (W1.alloc (.cells (bcells 64 fun _ => 0) 23)) (w.heap.size + 1 + 1) 64 23 (fun _ => 0) := (B2.alloc (.cells (bcells 64 fun _ => 0) 23))
  have qB3 : Blk (W1.alloc (.cells (bcells 64 fun _ => 0) 23)) (W1.heap.size) 64 23 (fun _ => 0) := (Blk.new W1 64 23 (fun _ => 0))
  have qhb : Below w.heap.size w (W1.alloc (.cells (bcells 64 fun _ => 0) 23)) := (hb.alloc (by have := hb.size; simp; omega) (.cells (bcells 64 fun _ => 0) 23))
  obtain ⟨W2, hwo⟩ : ∃ v : World, v = (W1.alloc (.cells (bcells 64 fun _ => 0) 23)) := ⟨_, rfl⟩
  rw [← hwo] at qB0 qB1 qB2 qB3 qhb ⊢
  clear hwo
  clear B0 B1 B2 hb
  have B0 := qB0
  have B1 := qB1
  have B2 := qB2
  have B3 := qB3
  have hb := qhb
  clear qB0 qB1 qB2 qB3 qhb
  obtain ⟨N1, hNN⟩ : ∃ n : Nat, n = W1.heap.size := ⟨_, rfl⟩
  rw [← hNN] at lt_B0 lt_B1 lt_B2 lhb B3 ⊢
  clear hNN
  have zN1_0 := lt_B0
  have zN1_1 := lt_B1
  have zN1_2 := lt_B2
  have zN1 := lhb
  clear lt_B0 lt_B1 lt_B2 lhb
  try simp only [Act.put, List.setIfInBounds_toArray, List.set_cons_zero, List.set_cons_succ]
  have lt_B0 := B0.lt
  have lt_B1 := B1.lt
  have lt_B2 := B2.lt
  have lt_B3 := B3.lt
  have lhb := hb.size
  obtain ⟨NF, hNF⟩ : ∃ n, n = W2.heap.size := ⟨_, rfl⟩
  go_wp2_with (first | (refine wpList_load_rowv rfl 95 (.tmp 2) rfl _ rfl 95 (caC p m).toArray (B0) _ Try.underlying95 rfl 65 Try.size95 (by simp [caC_len]) ?_) | (refine wpList_buildF rfl 147 _ (.func 191) (.func 192) #[.agg (caC p m).toArray] #[.agg (caC p m).toArray] #[] #[] rfl 97 Try.underlying147 Try.elemF rfl ?_; intro wa hps hba; have eB0 := B0.below hba B0.lt; have eB1 := B1.below hba B1.lt; have eB2 := B2.below hba B2.lt; have eB3 := B3.below hba B3.lt; have ehb := hb.trans (hba.mono hb.size)))
  rw [← hNF] at hps lt_B0 lt_B1 lt_B2 lt_B3 lhb ⊢
  clear hmf B0 B1 B2 B3 hb
  have ltn_0 := lt_B0
  have ltn_1 := lt_B1
  have ltn_2 := lt_B2
  have ltn_3 := lt_B3
  clear lt_B0 lt_B1 lt_B2 lt_B3
  go_loopw [14] (fun i wr => ∃ j : Nat, i = .int .i64 (j : Int) ∧ j ≤ 2 ∧ Below w.heap.size w wr ∧ Row wr (w.heap.size) 95 (caC p m).toArray ∧ Blk wr (w.heap.size + 1) 64 23 f ∧ Blk wr (w.heap.size + 1 + 1) 64 23 (fun _ => 0) ∧ Row wr NF 97 #[(.func (.func 191) #[.agg (caC p m).toArray] #[]), (.func (.func 192) #[.agg (caC p m).toArray] #[])] ∧ Blk wr (N1) 64 23 (if j = 0 then fun _ => 0 else if j = 1 then addK p (fun _ => 0) (resP p (prd p TP f) m) 1 else stI p m f)) (fun i _ => 2 - (intOf i).toNat)
  case atStart => exact ⟨0, rfl, Nat.zero_le _, ehb, eB0, eB1, eB2, hps, by rw [if_pos rfl]; exact eB3⟩
  case round =>
    clear ehb eB0 eB1 eB2 eB3 hps hNF hba
    obtain ⟨j, rfl, hj2, hb, B0, B1, B2, B4, B3⟩ := hrel
    have hjc : j = 0 ∨ j = 1 ∨ j = 2 := by omega
    clear hj2
    rcases hjc with rfl | rfl | rfl
    · rw [show ((0 : Nat) : Int) = 0 from rfl]
      rw [if_pos rfl] at B3
      have cc := B4.cell (i := 0) (v := (.func (.func 191) #[.agg (caC p m).toArray] #[])) rfl
      go_upto_region 5 with (fail)
      clear cc
      have lt_B0 : (w.heap.size) < wr.heap.size := B0.lt
      have lt_B1 : (w.heap.size + 1) < wr.heap.size := B1.lt
      have lt_B2 : (w.heap.size + 1 + 1) < wr.heap.size := B2.lt
      have lt_B3 : (N1) < wr.heap.size := B3.lt
      have lt_B4 : (NF) < wr.heap.size := B4.lt
      have hbase : w.heap.size ≤ wr.heap.size := hb.size
      refine wp_region_steps0 Try.mixed (by kernel_rfl) (by kernel_rfl) (fun v => by (simp only [frL, Act.put, List.setIfInBounds_toArray, List.set_cons_zero, List.set_cons_succ, Nat.reduceAdd, Nat.zero_add]; exact rfl))
        (fun L v W3 => Below w.heap.size w W3 ∧ wr.heap.size ≤ W3.heap.size ∧ Row W3 (w.heap.size) 95 (caC p m).toArray ∧ Blk W3 (w.heap.size + 1) 64 23 (f) ∧ Blk W3 (w.heap.size + 1 + 1) 64 23 (fun _ => 0) ∧ (∃ g, Blk W3 (N1) 64 23 (g)) ∧ (L 7 = false → Blk W3 (N1) 64 23 (fun _ => 0)) ∧ (L 7 = true → Blk W3 (N1) 64 23 (addK p (fun _ => 0) (resP p (prd p TP f) m) 1)) ∧ Row W3 (NF) 97 #[(.func (.func 191) #[.agg (caC p m).toArray] #[]), (.func (.func 192) #[.agg (caC p m).toArray] #[])] ∧ (L 0 = true → v 0 = (.pointer (some ⟨w.heap.size, 0, none⟩))) ∧ (L 1 = true → v 1 = (.int .i64 (p : Int))) ∧ (L 2 = true → v 2 = (.agg (bcells 64 (fun _ => 0)))) ∧ (L 3 = true → v 3 = (.func (.func 191) #[.agg (caC p m).toArray] #[])) ∧ (L 4 = true → v 4 = (.agg (bcells 64 (f)))) ∧ (L 5 = true → v 5 = (.agg (bcells 64 (resP p (prd p TP f) m)))) ∧ (L 6 = true → v 6 = (.agg (bcells 64 (addK p (fun _ => 0) (resP p (prd p TP f) m) 1))))) ?_ ?_ ?_
      · intro v hv0
        exact ⟨hb.drew, Nat.le_refl _, B0.drew, B1.drew, B2.drew, ⟨_, B3.drew⟩, (fun _ => B3.drew), (fun h => by cases h), B4.drew, (fun h => by cases h), (fun h => by cases h), (fun h => by cases h), (fun h => by cases h), (fun h => by cases h), (fun h => by cases h), (fun h => by cases h)⟩
      · refine (.cons rfl ?_ (.cons rfl ?_ (.cons rfl ?_ (.cons rfl ?_ (.cons rfl ?_ (.cons rfl ?_ (.cons rfl ?_ (.cons rfl ?_ (.nil _)))))))))
        · intro L v W3 hd hn ⟨hB, hz, s0, s1, s2, x3, q3, n3, s4, h0, h1, h2, h3, h4, h5, h6⟩ K hK
          go_wp2_with fail
          exact hK _ (.pointer (some ⟨w.heap.size, 0, none⟩)) _ (by simp only [Act.put, List.setIfInBounds_toArray, List.set_cons_zero, List.set_cons_succ ]) ⟨hB, hz, s0, s1, s2, x3, q3, n3, s4, (fun _ => rfl), h1, h2, h3, h4, h5, h6⟩
        · intro L v W3 hd hn ⟨hB, hz, s0, s1, s2, x3, q3, n3, s4, h0, h1, h2, h3, h4, h5, h6⟩ K hK
          have e0 := h0 (hd ⟨0, .data⟩ (by simp) rfl)
          have cc := s0.cell (i := 0) (v := .int .i64 (p : Int)) (caC_at p m)
          go_wp2_with fail
          exact hK _ (.int .i64 (p : Int)) _ (by simp only [Act.put, List.setIfInBounds_toArray, List.set_cons_zero, List.set_cons_succ, e0]) ⟨hB, hz, s0, s1, s2, x3, q3, n3, s4, h0, (fun _ => rfl), h2, h3, h4, h5, h6⟩
        · intro L v W3 hd hn ⟨hB, hz, s0, s1, s2, x3, q3, n3, s4, h0, h1, h2, h3, h4, h5, h6⟩ K hK
          have s3 := q3 (by
            cases hL : L 7 with
            | false => rfl
            | true => exact absurd rfl (hn 7 _ rfl hL ⟨2, .phase⟩ (by simp) rfl))
          refine wp_load_any 23 _ rfl _ rfl 64 23 _ s3 _ Try.underlying23 rfl Try.size23 ?_
          exact hK _ _ _ rfl ⟨hB, hz, s0, s1, s2, x3, q3, n3, s4, h0, h1, (fun _ => rfl), h3, h4, h5, h6⟩
        · intro L v W3 hd hn ⟨hB, hz, s0, s1, s2, x3, q3, n3, s4, h0, h1, h2, h3, h4, h5, h6⟩ K hK
          go_wp2_with fail
          exact hK _ (.func (.func 191) #[.agg (caC p m).toArray] #[]) _ (by simp only [Act.put, List.setIfInBounds_toArray, List.set_cons_zero, List.set_cons_succ ]) ⟨hB, hz, s0, s1, s2, x3, q3, n3, s4, h0, h1, h2, (fun _ => rfl), h4, h5, h6⟩
        · intro L v W3 hd hn ⟨hB, hz, s0, s1, s2, x3, q3, n3, s4, h0, h1, h2, h3, h4, h5, h6⟩ K hK
          refine wp_load_any 23 _ rfl _ rfl 64 23 _ s1 _ Try.underlying23 rfl Try.size23 ?_
          exact hK _ _ _ rfl ⟨hB, hz, s0, s1, s2, x3, q3, n3, s4, h0, h1, h2, h3, (fun _ => rfl), h5, h6⟩
        · intro L v W3 hd hn ⟨hB, hz, s0, s1, s2, x3, q3, n3, s4, h0, h1, h2, h3, h4, h5, h6⟩ K hK
          have e3 := h3 (hd ⟨3, .data⟩ (by simp) rfl)
          have e4 := h4 (hd ⟨4, .data⟩ (by simp) rfl)
          go_wp2_with (go_at_call 191; refine (HSH.out _).mono ?_; rintro e wy ⟨rfl, hy⟩)
          exact hK _ (.agg (bcells 64 (resP p (prd p TP f) m))) _ (by simp only [Act.put, List.setIfInBounds_toArray, List.set_cons_zero, List.set_cons_succ, e3, e4]) ⟨hB.trans (hy.mono hB.size), (Nat.le_trans hz hy.size), (s0).below hy (s0).lt, (s1).below hy (s1).lt, (s2).below hy (s2).lt, (let ⟨g, h⟩ := x3; ⟨g, (h).below hy (h).lt⟩), (fun h => (q3 h).below hy (q3 h).lt), (fun h => (n3 h).below hy (n3 h).lt), (s4).below hy (s4).lt, h0, h1, h2, h3, h4, (fun _ => rfl), h6⟩
        · intro L v W3 hd hn ⟨hB, hz, s0, s1, s2, x3, q3, n3, s4, h0, h1, h2, h3, h4, h5, h6⟩ K hK
          have e1 := h1 (hd ⟨1, .data⟩ (by simp) rfl)
          have e2 := h2 (hd ⟨2, .data⟩ (by simp) rfl)
          have e5 := h5 (hd ⟨5, .data⟩ (by simp) rfl)
          go_wp2_with (go_at_call 162; refine (HS1.out _).mono ?_; rintro e wy ⟨rfl, hy⟩)
          exact hK _ (.agg (bcells 64 (addK p (fun _ => 0) (resP p (prd p TP f) m) 1))) _ (by simp only [Act.put, List.setIfInBounds_toArray, List.set_cons_zero, List.set_cons_succ, e1, e2, e5]) ⟨hB.trans (hy.mono hB.size), (Nat.le_trans hz hy.size), (s0).below hy (s0).lt, (s1).below hy (s1).lt, (s2).below hy (s2).lt, (let ⟨g, h⟩ := x3; ⟨g, (h).below hy (h).lt⟩), (fun h => (q3 h).below hy (q3 h).lt), (fun h => (n3 h).below hy (n3 h).lt), (s4).below hy (s4).lt, h0, h1, h2, h3, h4, h5, (fun _ => rfl)⟩
        · intro L v W3 hd hn ⟨hB, hz, s0, s1, s2, x3, q3, n3, s4, h0, h1, h2, h3, h4, h5, h6⟩ K hK
          have e6 := h6 (hd ⟨6, .data⟩ (by simp) rfl)
          obtain ⟨gz, hk⟩ := x3
          refine wp_store_blk 23 _ _ rfl _ 64 (addK p (fun _ => 0) (resP p (prd p TP f) m) 1) rfl e6 23 gz hk Try.size23 ?_
          exact hK _ undef _ rfl ⟨below_row hB (by omega) _, (by simpa [World.setRow] using hz), (s0).rowOther (by omega), (s1).rowOther (by omega), (s2).rowOther (by omega), ⟨_, hk.row _⟩, (fun h => absurd h (by simp [setL])), (fun _ => hk.row _), (s4).rowOther (by omega), h0, h1, h2, h3, h4, h5, h6⟩
      · intro L v W3 hL ⟨hB, hz, s0, s1, s2, x3, q3, n3, s4, h0, h1, h2, h3, h4, h5, h6⟩
        have r3 := n3 (hL 7 (by decide))
        have e0 := h0 (hL 0 (by decide))
        have e1 := h1 (hL 1 (by decide))
        have e2 := h2 (hL 2 (by decide))
        have e3 := h3 (hL 3 (by decide))
        have e4 := h4 (hL 4 (by decide))
        have e5 := h5 (hL 5 (by decide))
        have e6 := h6 (hL 6 (by decide))
        clear hL x3 q3 n3 h0 h1 h2 h3 h4 h5 h6
        simp only [Exit.then, e0, e1, e2, e3, e4, e5, e6]
        clear e0 e1 e2 e3 e4 e5 e6
        clear B0
        have B0 := s0
        clear s0
        clear B1
        have B1 := s1
        clear s1
        clear B2
        have B2 := s2
        clear s2
        clear B3
        have B3 := r3
        clear r3
        clear B4
        have B4 := s4
        clear s4
        clear hb
        have hb := hB
        clear hB
        clear hbase hz lt_B0 lt_B1 lt_B2 lt_B3 lt_B4
        go_wp2_with fail
        go_roundw
        case rel => exact ⟨0 + 1, by go_num, by omega, hb, B0, B1, B2, B4, by rw [if_neg (by omega), if_pos rfl]; exact B3⟩
        case measure => simp [intOf] <;> omega
    · rw [show ((1 : Nat) : Int) = 1 from rfl]
      rw [if_neg (by omega), if_pos rfl] at B3
      have cc := B4.cell (i := 1) (v := (.func (.func 192) #[.agg (caC p m).toArray] #[])) rfl
      go_upto_region 5 with (fail)
      clear cc
      have lt_B0 : (w.heap.size) < wr.heap.size := B0.lt
      have lt_B1 : (w.heap.size + 1) < wr.heap.size := B1.lt
      have lt_B2 : (w.heap.size + 1 + 1) < wr.heap.size := B2.lt
      have lt_B3 : (N1) < wr.heap.size := B3.lt
      have lt_B4 : (NF) < wr.heap.size := B4.lt
      have hbase : w.heap.size ≤ wr.heap.size := hb.size
      refine wp_region_steps0 Try.mixed (by kernel_rfl) (by kernel_rfl) (fun v => by (simp only [frL, Act.put, List.setIfInBounds_toArray, List.set_cons_zero, List.set_cons_succ, Nat.reduceAdd, Nat.zero_add]; exact rfl))
        (fun L v W3 => Below w.heap.size w W3 ∧ wr.heap.size ≤ W3.heap.size ∧ Row W3 (w.heap.size) 95 (caC p m).toArray ∧ Blk W3 (w.heap.size + 1) 64 23 (f) ∧ Blk W3 (w.heap.size + 1 + 1) 64 23 (fun _ => 0) ∧ (∃ g, Blk W3 (N1) 64 23 (g)) ∧ (L 7 = false → Blk W3 (N1) 64 23 (addK p (fun _ => 0) (resP p (prd p TP f) m) 1)) ∧ (L 7 = true → Blk W3 (N1) 64 23 (stI p m f)) ∧ Row W3 (NF) 97 #[(.func (.func 191) #[.agg (caC p m).toArray] #[]), (.func (.func 192) #[.agg (caC p m).toArray] #[])] ∧ (L 0 = true → v 0 = (.pointer (some ⟨w.heap.size, 0, none⟩))) ∧ (L 1 = true → v 1 = (.int .i64 (p : Int))) ∧ (L 2 = true → v 2 = (.agg (bcells 64 (addK p (fun _ => 0) (resP p (prd p TP f) m) 1)))) ∧ (L 3 = true → v 3 = (.func (.func 192) #[.agg (caC p m).toArray] #[])) ∧ (L 4 = true → v 4 = (.agg (bcells 64 (f)))) ∧ (L 5 = true → v 5 = (.agg (bcells 64 (resP p (strP p f) m)))) ∧ (L 6 = true → v 6 = (.agg (bcells 64 (stI p m f))))) ?_ ?_ ?_
      · intro v hv0
        exact ⟨hb.drew, Nat.le_refl _, B0.drew, B1.drew, B2.drew, ⟨_, B3.drew⟩, (fun _ => B3.drew), (fun h => by cases h), B4.drew, (fun h => by cases h), (fun h => by cases h), (fun h => by cases h), (fun h => by cases h), (fun h => by cases h), (fun h => by cases h), (fun h => by cases h)⟩
      · refine (.cons rfl ?_ (.cons rfl ?_ (.cons rfl ?_ (.cons rfl ?_ (.cons rfl ?_ (.cons rfl ?_ (.cons rfl ?_ (.cons rfl ?_ (.nil _)))))))))
        · intro L v W3 hd hn ⟨hB, hz, s0, s1, s2, x3, q3, n3, s4, h0, h1, h2, h3, h4, h5, h6⟩ K hK
          go_wp2_with fail
          exact hK _ (.pointer (some ⟨w.heap.size, 0, none⟩)) _ (by simp only [Act.put, List.setIfInBounds_toArray, List.set_cons_zero, List.set_cons_succ ]) ⟨hB, hz, s0, s1, s2, x3, q3, n3, s4, (fun _ => rfl), h1, h2, h3, h4, h5, h6⟩
        · intro L v W3 hd hn ⟨hB, hz, s0, s1, s2, x3, q3, n3, s4, h0, h1, h2, h3, h4, h5, h6⟩ K hK
          have e0 := h0 (hd ⟨0, .data⟩ (by simp) rfl)
          have cc := s0.cell (i := 0) (v := .int .i64 (p : Int)) (caC_at p m)
          go_wp2_with fail
          exact hK _ (.int .i64 (p : Int)) _ (by simp only [Act.put, List.setIfInBounds_toArray, List.set_cons_zero, List.set_cons_succ, e0]) ⟨hB, hz, s0, s1, s2, x3, q3, n3, s4, h0, (fun _ => rfl), h2, h3, h4, h5, h6⟩
        · intro L v W3 hd hn ⟨hB, hz, s0, s1, s2, x3, q3, n3, s4, h0, h1, h2, h3, h4, h5, h6⟩ K hK
          have s3 := q3 (by
            cases hL : L 7 with
            | false => rfl
            | true => exact absurd rfl (hn 7 _ rfl hL ⟨2, .phase⟩ (by simp) rfl))
          refine wp_load_any 23 _ rfl _ rfl 64 23 _ s3 _ Try.underlying23 rfl Try.size23 ?_
          exact hK _ _ _ rfl ⟨hB, hz, s0, s1, s2, x3, q3, n3, s4, h0, h1, (fun _ => rfl), h3, h4, h5, h6⟩
        · intro L v W3 hd hn ⟨hB, hz, s0, s1, s2, x3, q3, n3, s4, h0, h1, h2, h3, h4, h5, h6⟩ K hK
          go_wp2_with fail
          exact hK _ (.func (.func 192) #[.agg (caC p m).toArray] #[]) _ (by simp only [Act.put, List.setIfInBounds_toArray, List.set_cons_zero, List.set_cons_succ ]) ⟨hB, hz, s0, s1, s2, x3, q3, n3, s4, h0, h1, h2, (fun _ => rfl), h4, h5, h6⟩
        · intro L v W3 hd hn ⟨hB, hz, s0, s1, s2, x3, q3, n3, s4, h0, h1, h2, h3, h4, h5, h6⟩ K hK
          refine wp_load_any 23 _ rfl _ rfl 64 23 _ s1 _ Try.underlying23 rfl Try.size23 ?_
          exact hK _ _ _ rfl ⟨hB, hz, s0, s1, s2, x3, q3, n3, s4, h0, h1, h2, h3, (fun _ => rfl), h5, h6⟩
        · intro L v W3 hd hn ⟨hB, hz, s0, s1, s2, x3, q3, n3, s4, h0, h1, h2, h3, h4, h5, h6⟩ K hK
          have e3 := h3 (hd ⟨3, .data⟩ (by simp) rfl)
          have e4 := h4 (hd ⟨4, .data⟩ (by simp) rfl)
          go_wp2_with (go_at_call 192; refine (HFR.out _).mono ?_; rintro e wy ⟨rfl, hy⟩)
          exact hK _ (.agg (bcells 64 (resP p (strP p f) m))) _ (by simp only [Act.put, List.setIfInBounds_toArray, List.set_cons_zero, List.set_cons_succ, e3, e4]) ⟨hB.trans (hy.mono hB.size), (Nat.le_trans hz hy.size), (s0).below hy (s0).lt, (s1).below hy (s1).lt, (s2).below hy (s2).lt, (let ⟨g, h⟩ := x3; ⟨g, (h).below hy (h).lt⟩), (fun h => (q3 h).below hy (q3 h).lt), (fun h => (n3 h).below hy (n3 h).lt), (s4).below hy (s4).lt, h0, h1, h2, h3, h4, (fun _ => rfl), h6⟩
        · intro L v W3 hd hn ⟨hB, hz, s0, s1, s2, x3, q3, n3, s4, h0, h1, h2, h3, h4, h5, h6⟩ K hK
          have e1 := h1 (hd ⟨1, .data⟩ (by simp) rfl)
          have e2 := h2 (hd ⟨2, .data⟩ (by simp) rfl)
          have e5 := h5 (hd ⟨5, .data⟩ (by simp) rfl)
          go_wp2_with (go_at_call 162; refine (HS2.out _).mono ?_; rintro e wy ⟨rfl, hy⟩)
          exact hK _ (.agg (bcells 64 (stI p m f))) _ (by simp only [Act.put, List.setIfInBounds_toArray, List.set_cons_zero, List.set_cons_succ, e1, e2, e5]) ⟨hB.trans (hy.mono hB.size), (Nat.le_trans hz hy.size), (s0).below hy (s0).lt, (s1).below hy (s1).lt, (s2).below hy (s2).lt, (let ⟨g, h⟩ := x3; ⟨g, (h).below hy (h).lt⟩), (fun h => (q3 h).below hy (q3 h).lt), (fun h => (n3 h).below hy (n3 h).lt), (s4).below hy (s4).lt, h0, h1, h2, h3, h4, h5, (fun _ => rfl)⟩
        · intro L v W3 hd hn ⟨hB, hz, s0, s1, s2, x3, q3, n3, s4, h0, h1, h2, h3, h4, h5, h6⟩ K hK
          have e6 := h6 (hd ⟨6, .data⟩ (by simp) rfl)
          obtain ⟨gz, hk⟩ := x3
          refine wp_store_blk 23 _ _ rfl _ 64 (stI p m f) rfl e6 23 gz hk Try.size23 ?_
          exact hK _ undef _ rfl ⟨below_row hB (by omega) _, (by simpa [World.setRow] using hz), (s0).rowOther (by omega), (s1).rowOther (by omega), (s2).rowOther (by omega), ⟨_, hk.row _⟩, (fun h => absurd h (by simp [setL])), (fun _ => hk.row _), (s4).rowOther (by omega), h0, h1, h2, h3, h4, h5, h6⟩
      · intro L v W3 hL ⟨hB, hz, s0, s1, s2, x3, q3, n3, s4, h0, h1, h2, h3, h4, h5, h6⟩
        have r3 := n3 (hL 7 (by decide))
        have e0 := h0 (hL 0 (by decide))
        have e1 := h1 (hL 1 (by decide))
        have e2 := h2 (hL 2 (by decide))
        have e3 := h3 (hL 3 (by decide))
        have e4 := h4 (hL 4 (by decide))
        have e5 := h5 (hL 5 (by decide))
        have e6 := h6 (hL 6 (by decide))
        clear hL x3 q3 n3 h0 h1 h2 h3 h4 h5 h6
        simp only [Exit.then, e0, e1, e2, e3, e4, e5, e6]
        clear e0 e1 e2 e3 e4 e5 e6
        clear B0
        have B0 := s0
        clear s0
        clear B1
        have B1 := s1
        clear s1
        clear B2
        have B2 := s2
        clear s2
        clear B3
        have B3 := r3
        clear r3
        clear B4
        have B4 := s4
        clear s4
        clear hb
        have hb := hB
        clear hB
        clear hbase hz lt_B0 lt_B1 lt_B2 lt_B3 lt_B4
        go_wp2_with fail
        go_roundw
        case rel => exact ⟨1 + 1, by go_num, by omega, hb, B0, B1, B2, B4, by rw [if_neg (by omega), if_neg (by omega)]; exact B3⟩
        case measure => simp [intOf] <;> omega
    · rw [show ((2 : Nat) : Int) = 2 from rfl]
      rw [if_neg (by omega), if_neg (by omega)] at B3
      go_upto_region 7 with (fail)
      have lt_B0 := B0.lt
      have lt_B1 := B1.lt
      have lt_B2 := B2.lt
      have lt_B3 := B3.lt
      have lt_B4 := B4.lt
      go_wp2_with (first | rw [← zero64] | (refine wpList_load_any rfl 23 (.tmp 5) rfl _ rfl 64 23 _ (B3) _ Try.underlying23 rfl Try.size23 ?_) | (refine wpList_store_blk rfl 23 (.tmp 4) (.tmp 26) rfl _ 64 (stI p m f) rfl rfl 23 _ (B2) Try.size23 ?_; try simp only [Act.put]))
      have qB0 : Row (wr.setRow (w.heap.size + 1 + 1) (bcells 64 (stI p m f))) (w.heap.size) 95 (caC p m).toArray := (B0.rowOther (by omega))
      have qB1 : Blk (wr.setRow (w.heap.size + 1 + 1) (bcells 64 (stI p m f))) (w.heap.size + 1) 64 23 (f) := (B1.rowOther (by omega))
      have qB2 : Blk (wr.setRow (w.heap.size + 1 + 1) (bcells 64 (stI p m f))) (w.heap.size + 1 + 1) 64 23 (stI p m f) := (B2.row (stI p m f))
      have qB3 : Blk (wr.setRow (w.heap.size + 1 + 1) (bcells 64 (stI p m f))) (N1) 64 23 (stI p m f) := (B3.rowOther (by omega))
      have qB4 : Row (wr.setRow (w.heap.size + 1 + 1) (bcells 64 (stI p m f))) (NF) 97 #[(.func (.func 191) #[.agg (caC p m).toArray] #[]), (.func (.func 192) #[.agg (caC p m).toArray] #[])] := (B4.rowOther (by omega))
      have qhb : Below w.heap.size w (wr.setRow (w.heap.size + 1 + 1) (bcells 64 (stI p m f))) := (below_row hb (by omega) _)
      obtain ⟨W3, hwo⟩ : ∃ v : World, v = (wr.setRow (w.heap.size + 1 + 1) (bcells 64 (stI p m f))) := ⟨_, rfl⟩
      rw [← hwo] at qB0 qB1 qB2 qB3 qB4 qhb ⊢
      clear hwo
      clear B0 B1 B2 B3 B4 hb
      have B0 := qB0
      have B1 := qB1
      have B2 := qB2
      have B3 := qB3
      have B4 := qB4
      have hb := qhb
      clear qB0 qB1 qB2 qB3 qB4 qhb
      try simp only [Act.put, List.setIfInBounds_toArray, List.set_cons_zero, List.set_cons_succ]
      refine bodyPost_ret (results_blk rfl _ _ _ 64 23 5 _ rfl B2 Try.underlying23 Try.size23) rfl ⟨by rw [HV.out], hb⟩
set_option maxRecDepth 100000 in
set_option maxHeartbeats 1600000 in
theorem act_any (p : Nat) (a f m : Nat → Nat) (w : World) (la : ∀ k, k < 64 → a k < p) (hpr : p = 2 ∨ p = 3 ∨ p = 5 ∨ p = 7) (lf : ∀ k, k < 64 → f k < p) (lm : ∀ k, k < 64 → m k < p) (h0 : 0 ≤ deg m) (h9 : deg m ≤ 9) (hdf : deg f < deg m) :
    Calls Try.prog 112 #[.agg (caC p m).toArray, .agg (bcells 64 a), .agg (bcells 64 f)] w fun e w' => e = .returned (.agg (bcells 64 (acS p m a f (deg a + 1).toNat))) ∧ Below w.heap.size w w' := by
  have p0 : 0 < p := by omega
  have p2 : 2 ≤ p := by omega
  have p7 : p ≤ 7 := by omega
  obtain ⟨gb1, gb2⟩ := deg_bounds a
  obtain ⟨NN, hNN⟩ : ∃ NN : Nat, deg a = (NN : Int) - 1 := ⟨(deg a + 1).toNat, by omega⟩
  have HD := Lib.hid hNN
  have hN6 : NN ≤ 64 := by omega
  have HT := Lib.hid (show (deg a + 1).toNat = NN by omega)
  have HST := Lib.hid (fun (x : Nat → Nat) (hx : ∀ k, k < 64 → x k < p) (hxd : deg x < deg m) W => step_any p x m W hpr hx lm h0 h9 hxd)
  have HH := Lib.hid (fun j (hj : j ≤ NN - 1 + 1) => acH_ok (a := a) (n := NN - 1) hpr lm h0 lf hdf j hj)
  have HV := Lib.hid (show bcells 64 (acH p m a f (NN - 1) NN) = bcells 64 (acS p m a f NN) from by
    rcases Nat.eq_zero_or_pos NN with h | h
    · subst h; unfold acH acS; rfl
    · have := bcells_congr (ac_same hpr lm h0 (a := a) (n := NN - 1) lf hdf)
      rw [show NN - 1 + 1 = NN by omega] at this; exact this)
  have HHS := Lib.hid (show ∀ j, acH p m a f (NN - 1) (j + 1) = addK p (stP p m (acH p m a f (NN - 1) j)) (sclP p f (a (NN - 1 - j))) 1 from fun j => by rw [acH])
  have HZ := Lib.hid (show acH p m a f (NN - 1) 0 = fun _ => 0 by unfold acH; rfl)
  clear hNN
  go_enter Try.func112, Try.ntmps112
  go_upto_region 1 with (fail)
  rw [← zero64]
  obtain ⟨W1, hwo⟩ : ∃ v : World, v = ((((w.alloc (.cells (caC p m).toArray 95)).alloc (.cells (bcells 64 (a)) 23)).alloc (.cells (bcells 64 (f)) 23)).alloc (.cells (bcells 64 fun _ => 0) 23)) := ⟨_, rfl⟩
  have B0 : Row W1 (w.heap.size) 95 (caC p m).toArray := by subst hwo; have := ((((Row.new w 95 (caC p m).toArray).alloc (.cells (bcells 64 (a)) 23)).alloc (.cells (bcells 64 (f)) 23)).alloc (.cells (bcells 64 fun _ => 0) 23)); simpa using this
  have B1 : Blk W1 (w.heap.size + 1) 64 23 (a) := by subst hwo; have := (((Blk.new (w.alloc (.cells (caC p m).toArray 95)) 64 23 (a)).alloc (.cells (bcells 64 (f)) 23)).alloc (.cells (bcells 64 fun _ => 0) 23)); simpa using this
  have B2 : Blk W1 (w.heap.size + 1 + 1) 64 23 (f) := by subst hwo; have := ((Blk.new ((w.alloc (.cells (caC p m).toArray 95)).alloc (.cells (bcells 64 (a)) 23)) 64 23 (f)).alloc (.cells (bcells 64 fun _ => 0) 23)); simpa using this
  have B3 : Blk W1 (w.heap.size + 1 + 1 + 1) 64 23 (fun _ => 0) := by subst hwo; have := (Blk.new (((w.alloc (.cells (caC p m).toArray 95)).alloc (.cells (bcells 64 (a)) 23)).alloc (.cells (bcells 64 (f)) 23)) 64 23 (fun _ => 0)); simpa using this
  have hb : Below w.heap.size w W1 := by subst hwo; exact (((((Below.refl _ _).alloc (Nat.le_refl _) _).alloc (by simp) _).alloc (by simp; omega) _).alloc (by simp; omega) _)
  rw [← hwo]
  clear hwo
  go_upto_region 2 with (first | rw [← zero64])
  have lt_B0 := B0.lt
  have lt_B1 := B1.lt
  have lt_B2 := B2.lt
  have lt_B3 := B3.lt
  have lhb := hb.size
  have qB0 : Row (W1.alloc (.cells (bcells 64 fun _ => 0) 23)) (w.heap.size) 95 (caC p m).toArray := (B0.alloc (.cells (bcells 64 fun _ => 0) 23))
  have qB1 : Blk (W1.alloc (.cells (bcells 64 fun _ => 0) 23)) (w.heap.size + 1) 64 23 (a) := (B1.alloc (.cells (bcells 64 fun _ => 0) 23))
  have qB2 : Blk (W1.alloc (.cells (bcells 64 fun _ => 0) 23)) (w.heap.size + 1 + 1) 64 23 (f) := (B2.alloc (.cells (bcells 64 fun _ => 0) 23))
  have qB3 : Blk (W1.alloc (.cells (bcells 64 fun _ => 0) 23)) (w.heap.size + 1 + 1 + 1) 64 23 (fun _ => 0) := (B3.alloc (.cells (bcells 64 fun _ => 0) 23))
  have qB4 : Blk (W1.alloc (.cells (bcells 64 fun _ => 0) 23)) (W1.heap.size) 64 23 (fun _ => 0) := (Blk.new W1 64 23 (fun _ => 0))
  have qhb : Below w.heap.size w (W1.alloc (.cells (bcells 64 fun _ => 0) 23)) := (hb.alloc (by have := hb.size; simp; omega) (.cells (bcells 64 fun _ => 0) 23))
  obtain ⟨W2, hwo⟩ : ∃ v : World, v = (W1.alloc (.cells (bcells 64 fun _ => 0) 23)) := ⟨_, rfl⟩
  rw [← hwo] at qB0 qB1 qB2 qB3 qB4 qhb ⊢
  clear hwo
  clear B0 B1 B2 B3 hb
  have B0 := qB0
  have B1 := qB1
  have B2 := qB2
  have B3 := qB3
  have B4 := qB4
  have hb := qhb
  clear qB0 qB1 qB2 qB3 qB4 qhb
  obtain ⟨N1, hNN⟩ : ∃ n : Nat, n = W1.heap.size := ⟨_, rfl⟩
  rw [← hNN] at lt_B0 lt_B1 lt_B2 lt_B3 lhb B4 ⊢
  clear hNN
  have zN1_0 := lt_B0
  have zN1_1 := lt_B1
  have zN1_2 := lt_B2
  have zN1_3 := lt_B3
  have zN1 := lhb
  clear lt_B0 lt_B1 lt_B2 lt_B3 lhb
  try simp only [Act.put, List.setIfInBounds_toArray, List.set_cons_zero, List.set_cons_succ]
  go_upto_region 99 with (first | (refine wpList_load_any rfl 23 (.tmp 4) rfl _ rfl 64 23 _ (B1) _ Try.underlying23 rfl Try.size23 ?_) | (go_at_call 78; refine (degree_any a _).mono ?_; rintro e W3 ⟨rfl, hW3⟩; replace B0 := B0.below hW3 B0.lt; replace B1 := B1.below hW3 B1.lt; replace B2 := B2.below hW3 B2.lt; replace B3 := B3.below hW3 B3.lt; replace B4 := B4.below hW3 B4.lt; replace hb := (hb).trans (hW3.mono (hb).size); rw [HD.out]))
  go_loopw [8] (fun i wr => ∃ q j : Nat, Hid (q + j = NN) ∧ i = .int .i64 ((q : Int) - 1) ∧ Below w.heap.size w wr ∧ Row wr (w.heap.size) 95 (caC p m).toArray ∧ Blk wr (w.heap.size + 1) 64 23 a ∧ Blk wr (w.heap.size + 1 + 1) 64 23 f ∧ Blk wr (w.heap.size + 1 + 1 + 1) 64 23 (fun _ => 0) ∧ Blk wr (N1) 64 23 (acH p m a f (NN - 1) j)) (fun i _ => (intOf i + 1).toNat)
  case atStart => exact ⟨NN, 0, Lib.hid (by omega), rfl, hb, B0, B1, B2, B3, by rw [HZ.out]; exact B4⟩
  case round =>
    clear hb B0 B1 B2 B3 B4
    obtain ⟨q, j, hqj, rfl, hb, B0, B1, B2, B3, B4⟩ := hrel
    by_cases hq0 : q = 0
    · subst hq0
      have ej : j = NN := by have := hqj.out; omega
      rw [ej] at B4
      clear hqj ej
      go_upto_region 6 with (fail)
      have lt_B0 := B0.lt
      have lt_B1 := B1.lt
      have lt_B2 := B2.lt
      have lt_B3 := B3.lt
      have lt_B4 := B4.lt
      go_wp2_with (first | rw [← zero64] | (refine wpList_load_any rfl 23 (.tmp 7) rfl _ rfl 64 23 _ (B4) _ Try.underlying23 rfl Try.size23 ?_) | (refine wpList_store_blk rfl 23 (.tmp 6) (.tmp 28) rfl _ 64 (acH p m a f (NN - 1) NN) rfl rfl 23 _ (B3) Try.size23 ?_; try simp only [Act.put]))
      have qB0 : Row (wr.setRow (w.heap.size + 1 + 1 + 1) (bcells 64 (acH p m a f (NN - 1) NN))) (w.heap.size) 95 (caC p m).toArray := (B0.rowOther (by omega))
      have qB1 : Blk (wr.setRow (w.heap.size + 1 + 1 + 1) (bcells 64 (acH p m a f (NN - 1) NN))) (w.heap.size + 1) 64 23 (a) := (B1.rowOther (by omega))
      have qB2 : Blk (wr.setRow (w.heap.size + 1 + 1 + 1) (bcells 64 (acH p m a f (NN - 1) NN))) (w.heap.size + 1 + 1) 64 23 (f) := (B2.rowOther (by omega))
      have qB3 : Blk (wr.setRow (w.heap.size + 1 + 1 + 1) (bcells 64 (acH p m a f (NN - 1) NN))) (w.heap.size + 1 + 1 + 1) 64 23 (acH p m a f (NN - 1) NN) := (B3.row (acH p m a f (NN - 1) NN))
      have qB4 : Blk (wr.setRow (w.heap.size + 1 + 1 + 1) (bcells 64 (acH p m a f (NN - 1) NN))) (N1) 64 23 (acH p m a f (NN - 1) NN) := (B4.rowOther (by omega))
      have qhb : Below w.heap.size w (wr.setRow (w.heap.size + 1 + 1 + 1) (bcells 64 (acH p m a f (NN - 1) NN))) := (below_row hb (by omega) _)
      obtain ⟨W4, hwo⟩ : ∃ v : World, v = (wr.setRow (w.heap.size + 1 + 1 + 1) (bcells 64 (acH p m a f (NN - 1) NN))) := ⟨_, rfl⟩
      rw [← hwo] at qB0 qB1 qB2 qB3 qB4 qhb ⊢
      clear hwo
      clear B0 B1 B2 B3 B4 hb
      have B0 := qB0
      have B1 := qB1
      have B2 := qB2
      have B3 := qB3
      have B4 := qB4
      have hb := qhb
      clear qB0 qB1 qB2 qB3 qB4 qhb
      try simp only [Act.put, List.setIfInBounds_toArray, List.set_cons_zero, List.set_cons_succ]
      refine bodyPost_ret (results_blk rfl _ _ _ 64 23 5 _ rfl B3 Try.underlying23 Try.size23) rfl ⟨by rw [HV.out, HT.out], hb⟩
    · obtain ⟨q, rfl⟩ : ∃ t, q = t + 1 := ⟨q - 1, by omega⟩
      rw [show ((q + 1 : Nat) : Int) - 1 = (q : Int) by omega]
      have hq6 : q < 64 := by have := hqj.out; omega
      obtain ⟨s1, s2, _⟩ := HH.out j (by have := hqj.out; omega)
      obtain ⟨r1, r2, _⟩ := stP_ok hpr lm h0 (x := acH p m a f (NN - 1) j) (fun k _ => s1 k)
      have laq := la q hq6
      obtain ⟨C, hC⟩ : ∃ C, C = a q := ⟨_, rfl⟩
      rw [← hC] at laq
      have HC := Lib.hid hC
      have HS1 := Lib.hid (fun W => HST.out (acH p m a f (NN - 1) j) (fun k _ => s1 k) s2 W)
      have HSC := Lib.hid (fun W => scaled_any p f C W p2 p7 lf laq)
      have HSU := Lib.hid (show ∀ W, Calls Try.prog 162 #[.int .i64 (p : Int), .agg (bcells 64 (stP p m (acH p m a f (NN - 1) j))), .agg (bcells 64 (sclP p f C))] W fun e w' => e = .returned (.agg (bcells 64 (acH p m a f (NN - 1) (j + 1)))) ∧ Below W.heap.size W w' from fun W => by
        have e : acH p m a f (NN - 1) (j + 1) = fun i => (stP p m (acH p m a f (NN - 1) j) i + sclP p f C i) % p := by rw [HHS.out, addK_one, HC.out, show NN - 1 - j = q by have := hqj.out; omega]
        rw [e]; exact sum_any p _ _ W p2 p7 (fun k _ => r1 k) (fun k _ => Nat.mod_lt _ p0))
      clear hC s1 s2 r1 r2
      go_upto_region 5 with (fail)
      have lt_B0 : (w.heap.size) < wr.heap.size := B0.lt
      have lt_B1 : (w.heap.size + 1) < wr.heap.size := B1.lt
      have lt_B2 : (w.heap.size + 1 + 1) < wr.heap.size := B2.lt
      have lt_B3 : (w.heap.size + 1 + 1 + 1) < wr.heap.size := B3.lt
      have lt_B4 : (N1) < wr.heap.size := B4.lt
      have hbase : w.heap.size ≤ wr.heap.size := hb.size
      refine wp_region_steps0 Try.mixed (by kernel_rfl) (by kernel_rfl) (fun v => by (simp only [frL, Act.put, List.setIfInBounds_toArray, List.set_cons_zero, List.set_cons_succ, Nat.reduceAdd, Nat.zero_add]; exact rfl))
        (fun L v W4 => Below w.heap.size w W4 ∧ wr.heap.size ≤ W4.heap.size ∧ Row W4 (w.heap.size) 95 (caC p m).toArray ∧ Blk W4 (w.heap.size + 1) 64 23 (a) ∧ Blk W4 (w.heap.size + 1 + 1) 64 23 (f) ∧ Blk W4 (w.heap.size + 1 + 1 + 1) 64 23 (fun _ => 0) ∧ (∃ g, Blk W4 (N1) 64 23 (g)) ∧ (L 13 = false → Blk W4 (N1) 64 23 (acH p m a f (NN - 1) j)) ∧ (L 13 = true → Blk W4 (N1) 64 23 (acH p m a f (NN - 1) (j + 1))) ∧ (L 0 = true → v 0 = (.pointer (some ⟨w.heap.size, 0, none⟩))) ∧ (L 1 = true → v 1 = (.int .i64 (p : Int))) ∧ (L 2 = true → v 2 = (.agg (caC p m).toArray)) ∧ (L 3 = true → v 3 = (.agg (bcells 64 (acH p m a f (NN - 1) j)))) ∧ (L 4 = true → v 4 = (.agg (bcells 64 (stP p m (acH p m a f (NN - 1) j))))) ∧ (L 5 = true → v 5 = (.pointer (some ⟨w.heap.size, 0, none⟩))) ∧ (L 6 = true → v 6 = (.int .i64 (p : Int))) ∧ (L 7 = true → v 7 = (.agg (bcells 64 (f)))) ∧ (L 8 = true → v 8 = (.int .i64 (q : Int))) ∧ (L 9 = true → v 9 = (.pointer (some ⟨w.heap.size + 1, q, none⟩))) ∧ (L 10 = true → v 10 = (.int .u8 (C : Int))) ∧ (L 11 = true → v 11 = (.agg (bcells 64 (sclP p f C)))) ∧ (L 12 = true → v 12 = (.agg (bcells 64 (acH p m a f (NN - 1) (j + 1)))))) ?_ ?_ ?_
      · intro v hv0
        exact ⟨hb.drew, Nat.le_refl _, B0.drew, B1.drew, B2.drew, B3.drew, ⟨_, B4.drew⟩, (fun _ => B4.drew), (fun h => by cases h), (fun h => by cases h), (fun h => by cases h), (fun h => by cases h), (fun h => by cases h), (fun h => by cases h), (fun h => by cases h), (fun h => by cases h), (fun h => by cases h), (fun h => by cases h), (fun h => by cases h), (fun h => by cases h), (fun h => by cases h), (fun h => by cases h)⟩
      · refine (.cons rfl ?_ (.cons rfl ?_ (.cons rfl ?_ (.cons rfl ?_ (.cons rfl ?_ (.cons rfl ?_ (.cons rfl ?_ (.cons rfl ?_ (.cons rfl ?_ (.cons rfl ?_ (.cons rfl ?_ (.cons rfl ?_ (.cons rfl ?_ (.cons rfl ?_ (.nil _)))))))))))))))
        · intro L v W4 hd hn ⟨hB, hz, s0, s1, s2, s3, x4, q4, n4, h0, h1, h2, h3, h4, h5, h6, h7, h8, h9, h10, h11, h12⟩ K hK
          go_wp2_with fail
          exact hK _ (.pointer (some ⟨w.heap.size, 0, none⟩)) _ (by simp only [Act.put, List.setIfInBounds_toArray, List.set_cons_zero, List.set_cons_succ ]) ⟨hB, hz, s0, s1, s2, s3, x4, q4, n4, (fun _ => rfl), h1, h2, h3, h4, h5, h6, h7, h8, h9, h10, h11, h12⟩
        · intro L v W4 hd hn ⟨hB, hz, s0, s1, s2, s3, x4, q4, n4, h0, h1, h2, h3, h4, h5, h6, h7, h8, h9, h10, h11, h12⟩ K hK
          have e0 := h0 (hd ⟨0, .data⟩ (by simp) rfl)
          have cc := s0.cell (i := 0) (v := .int .i64 (p : Int)) (caC_at p m)
          go_wp2_with fail
          exact hK _ (.int .i64 (p : Int)) _ (by simp only [Act.put, List.setIfInBounds_toArray, List.set_cons_zero, List.set_cons_succ, e0]) ⟨hB, hz, s0, s1, s2, s3, x4, q4, n4, h0, (fun _ => rfl), h2, h3, h4, h5, h6, h7, h8, h9, h10, h11, h12⟩
        · intro L v W4 hd hn ⟨hB, hz, s0, s1, s2, s3, x4, q4, n4, h0, h1, h2, h3, h4, h5, h6, h7, h8, h9, h10, h11, h12⟩ K hK
          refine wp_load_rowv 95 _ rfl _ rfl 95 _ s0 _ Try.underlying95 rfl 65 Try.size95 (by simp [caC_len]) ?_
          exact hK _ _ _ rfl ⟨hB, hz, s0, s1, s2, s3, x4, q4, n4, h0, h1, (fun _ => rfl), h3, h4, h5, h6, h7, h8, h9, h10, h11, h12⟩
        · intro L v W4 hd hn ⟨hB, hz, s0, s1, s2, s3, x4, q4, n4, h0, h1, h2, h3, h4, h5, h6, h7, h8, h9, h10, h11, h12⟩ K hK
          have s4 := q4 (by
            cases hL : L 13 with
            | false => rfl
            | true => exact absurd rfl (hn 13 _ rfl hL ⟨3, .phase⟩ (by simp) rfl))
          refine wp_load_any 23 _ rfl _ rfl 64 23 _ s4 _ Try.underlying23 rfl Try.size23 ?_
          exact hK _ _ _ rfl ⟨hB, hz, s0, s1, s2, s3, x4, q4, n4, h0, h1, h2, (fun _ => rfl), h4, h5, h6, h7, h8, h9, h10, h11, h12⟩
        · intro L v W4 hd hn ⟨hB, hz, s0, s1, s2, s3, x4, q4, n4, h0, h1, h2, h3, h4, h5, h6, h7, h8, h9, h10, h11, h12⟩ K hK
          have e2 := h2 (hd ⟨2, .data⟩ (by simp) rfl)
          have e3 := h3 (hd ⟨3, .data⟩ (by simp) rfl)
          go_wp2_with (go_at_call 169; refine (HS1.out _).mono ?_; rintro e wy ⟨rfl, hy⟩)
          exact hK _ (.agg (bcells 64 (stP p m (acH p m a f (NN - 1) j)))) _ (by simp only [Act.put, List.setIfInBounds_toArray, List.set_cons_zero, List.set_cons_succ, e2, e3]) ⟨hB.trans (hy.mono hB.size), (Nat.le_trans hz hy.size), (s0).below hy (s0).lt, (s1).below hy (s1).lt, (s2).below hy (s2).lt, (s3).below hy (s3).lt, (let ⟨g, h⟩ := x4; ⟨g, (h).below hy (h).lt⟩), (fun h => (q4 h).below hy (q4 h).lt), (fun h => (n4 h).below hy (n4 h).lt), h0, h1, h2, h3, (fun _ => rfl), h5, h6, h7, h8, h9, h10, h11, h12⟩
        · intro L v W4 hd hn ⟨hB, hz, s0, s1, s2, s3, x4, q4, n4, h0, h1, h2, h3, h4, h5, h6, h7, h8, h9, h10, h11, h12⟩ K hK
          go_wp2_with fail
          exact hK _ (.pointer (some ⟨w.heap.size, 0, none⟩)) _ (by simp only [Act.put, List.setIfInBounds_toArray, List.set_cons_zero, List.set_cons_succ ]) ⟨hB, hz, s0, s1, s2, s3, x4, q4, n4, h0, h1, h2, h3, h4, (fun _ => rfl), h6, h7, h8, h9, h10, h11, h12⟩
        · intro L v W4 hd hn ⟨hB, hz, s0, s1, s2, s3, x4, q4, n4, h0, h1, h2, h3, h4, h5, h6, h7, h8, h9, h10, h11, h12⟩ K hK
          have e5 := h5 (hd ⟨5, .data⟩ (by simp) rfl)
          have cc := s0.cell (i := 0) (v := .int .i64 (p : Int)) (caC_at p m)
          go_wp2_with fail
          exact hK _ (.int .i64 (p : Int)) _ (by simp only [Act.put, List.setIfInBounds_toArray, List.set_cons_zero, List.set_cons_succ, e5]) ⟨hB, hz, s0, s1, s2, s3, x4, q4, n4, h0, h1, h2, h3, h4, h5, (fun _ => rfl), h7, h8, h9, h10, h11, h12⟩
        · intro L v W4 hd hn ⟨hB, hz, s0, s1, s2, s3, x4, q4, n4, h0, h1, h2, h3, h4, h5, h6, h7, h8, h9, h10, h11, h12⟩ K hK
          refine wp_load_any 23 _ rfl _ rfl 64 23 _ s2 _ Try.underlying23 rfl Try.size23 ?_
          exact hK _ _ _ rfl ⟨hB, hz, s0, s1, s2, s3, x4, q4, n4, h0, h1, h2, h3, h4, h5, h6, (fun _ => rfl), h8, h9, h10, h11, h12⟩
        · intro L v W4 hd hn ⟨hB, hz, s0, s1, s2, s3, x4, q4, n4, h0, h1, h2, h3, h4, h5, h6, h7, h8, h9, h10, h11, h12⟩ K hK
          go_wp2_with fail
          exact hK _ (.int .i64 (q : Int)) _ (by simp only [Act.put, List.setIfInBounds_toArray, List.set_cons_zero, List.set_cons_succ ]) ⟨hB, hz, s0, s1, s2, s3, x4, q4, n4, h0, h1, h2, h3, h4, h5, h6, h7, (fun _ => rfl), h9, h10, h11, h12⟩
        · intro L v W4 hd hn ⟨hB, hz, s0, s1, s2, s3, x4, q4, n4, h0, h1, h2, h3, h4, h5, h6, h7, h8, h9, h10, h11, h12⟩ K hK
          have e8 := h8 (hd ⟨8, .data⟩ (by simp) rfl)
          go_wp2_with fail
          exact hK _ (.pointer (some ⟨w.heap.size + 1, q, none⟩)) _ (by simp only [Act.put, List.setIfInBounds_toArray, List.set_cons_zero, List.set_cons_succ, e8]) ⟨hB, hz, s0, s1, s2, s3, x4, q4, n4, h0, h1, h2, h3, h4, h5, h6, h7, h8, (fun _ => rfl), h10, h11, h12⟩
        · intro L v W4 hd hn ⟨hB, hz, s0, s1, s2, s3, x4, q4, n4, h0, h1, h2, h3, h4, h5, h6, h7, h8, h9, h10, h11, h12⟩ K hK
          have e9 := h9 (hd ⟨9, .data⟩ (by simp) rfl)
          have cc := s1.cell (i := q) hq6
          rw [← HC.out] at cc
          go_wp2_with fail
          exact hK _ (.int .u8 (C : Int)) _ (by simp only [Act.put, List.setIfInBounds_toArray, List.set_cons_zero, List.set_cons_succ, e9]) ⟨hB, hz, s0, s1, s2, s3, x4, q4, n4, h0, h1, h2, h3, h4, h5, h6, h7, h8, h9, (fun _ => rfl), h11, h12⟩
        · intro L v W4 hd hn ⟨hB, hz, s0, s1, s2, s3, x4, q4, n4, h0, h1, h2, h3, h4, h5, h6, h7, h8, h9, h10, h11, h12⟩ K hK
          have e6 := h6 (hd ⟨6, .data⟩ (by simp) rfl)
          have e7 := h7 (hd ⟨7, .data⟩ (by simp) rfl)
          have e10 := h10 (hd ⟨10, .data⟩ (by simp) rfl)
          go_wp2_with (go_at_call 170; refine (HSC.out _).mono ?_; rintro e wy ⟨rfl, hy⟩)
          exact hK _ (.agg (bcells 64 (sclP p f C))) _ (by simp only [Act.put, List.setIfInBounds_toArray, List.set_cons_zero, List.set_cons_succ, e6, e7, e10]) ⟨hB.trans (hy.mono hB.size), (Nat.le_trans hz hy.size), (s0).below hy (s0).lt, (s1).below hy (s1).lt, (s2).below hy (s2).lt, (s3).below hy (s3).lt, (let ⟨g, h⟩ := x4; ⟨g, (h).below hy (h).lt⟩), (fun h => (q4 h).below hy (q4 h).lt), (fun h => (n4 h).below hy (n4 h).lt), h0, h1, h2, h3, h4, h5, h6, h7, h8, h9, h10, (fun _ => rfl), h12⟩
        · intro L v W4 hd hn ⟨hB, hz, s0, s1, s2, s3, x4, q4, n4, h0, h1, h2, h3, h4, h5, h6, h7, h8, h9, h10, h11, h12⟩ K hK
          have e1 := h1 (hd ⟨1, .data⟩ (by simp) rfl)
          have e4 := h4 (hd ⟨4, .data⟩ (by simp) rfl)
          have e11 := h11 (hd ⟨11, .data⟩ (by simp) rfl)
          go_wp2_with (go_at_call 162; refine (HSU.out _).mono ?_; rintro e wy ⟨rfl, hy⟩)
          exact hK _ (.agg (bcells 64 (acH p m a f (NN - 1) (j + 1)))) _ (by simp only [Act.put, List.setIfInBounds_toArray, List.set_cons_zero, List.set_cons_succ, e1, e4, e11]) ⟨hB.trans (hy.mono hB.size), (Nat.le_trans hz hy.size), (s0).below hy (s0).lt, (s1).below hy (s1).lt, (s2).below hy (s2).lt, (s3).below hy (s3).lt, (let ⟨g, h⟩ := x4; ⟨g, (h).below hy (h).lt⟩), (fun h => (q4 h).below hy (q4 h).lt), (fun h => (n4 h).below hy (n4 h).lt), h0, h1, h2, h3, h4, h5, h6, h7, h8, h9, h10, h11, (fun _ => rfl)⟩
        · intro L v W4 hd hn ⟨hB, hz, s0, s1, s2, s3, x4, q4, n4, h0, h1, h2, h3, h4, h5, h6, h7, h8, h9, h10, h11, h12⟩ K hK
          have e12 := h12 (hd ⟨12, .data⟩ (by simp) rfl)
          obtain ⟨gz, hk⟩ := x4
          refine wp_store_blk 23 _ _ rfl _ 64 (acH p m a f (NN - 1) (j + 1)) rfl e12 23 gz hk Try.size23 ?_
          exact hK _ undef _ rfl ⟨below_row hB (by omega) _, (by simpa [World.setRow] using hz), (s0).rowOther (by omega), (s1).rowOther (by omega), (s2).rowOther (by omega), (s3).rowOther (by omega), ⟨_, hk.row _⟩, (fun h => absurd h (by simp [setL])), (fun _ => hk.row _), h0, h1, h2, h3, h4, h5, h6, h7, h8, h9, h10, h11, h12⟩
      · intro L v W4 hL ⟨hB, hz, s0, s1, s2, s3, x4, q4, n4, h0, h1, h2, h3, h4, h5, h6, h7, h8, h9, h10, h11, h12⟩
        have r4 := n4 (hL 13 (by decide))
        have e0 := h0 (hL 0 (by decide))
        have e1 := h1 (hL 1 (by decide))
        have e2 := h2 (hL 2 (by decide))
        have e3 := h3 (hL 3 (by decide))
        have e4 := h4 (hL 4 (by decide))
        have e5 := h5 (hL 5 (by decide))
        have e6 := h6 (hL 6 (by decide))
        have e7 := h7 (hL 7 (by decide))
        have e8 := h8 (hL 8 (by decide))
        have e9 := h9 (hL 9 (by decide))
        have e10 := h10 (hL 10 (by decide))
        have e11 := h11 (hL 11 (by decide))
        have e12 := h12 (hL 12 (by decide))
        clear hL x4 q4 n4 h0 h1 h2 h3 h4 h5 h6 h7 h8 h9 h10 h11 h12
        simp only [Exit.then, e0, e1, e2, e3, e4, e5, e6, e7, e8, e9, e10, e11, e12]
        clear e0 e1 e2 e3 e4 e5 e6 e7 e8 e9 e10 e11 e12
        clear B0
        have B0 := s0
        clear s0
        clear B1
        have B1 := s1
        clear s1
        clear B2
        have B2 := s2
        clear s2
        clear B3
        have B3 := s3
        clear s3
        clear B4
        have B4 := r4
        clear r4
        clear hb
        have hb := hB
        clear hB
        clear hbase hz lt_B0 lt_B1 lt_B2 lt_B3 lt_B4
        go_wp2_with fail
        go_roundw
        case rel => exact ⟨q, j + 1, Lib.hid (by have := hqj.out; omega), rfl, hb, B0, B1, B2, B3, B4⟩
        case measure => simp [intOf] <;> omega
end Go.Proofs.Ytbjpkmbhbpcbgaa
