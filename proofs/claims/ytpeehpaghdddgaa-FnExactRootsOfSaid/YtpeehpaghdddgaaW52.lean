/-
  Walks: lists of numbers, compared, marked, held; roots.
-/
import Derived.Test.YtpeehpaghdddgaaWt
namespace Go.Proofs.Ytpeehpaghdddgaa
open Go Go.RowKit
set_option linter.unusedVariables false
set_option linter.unusedSimpArgs false
/-- the rows of numbers -/
def ilR (L : List Nat) : List (List Value) := L.map fun (x : Nat) => [.int .i64 (x : Int)]
theorem ilR_snoc (L : List Nat) (x : Nat) : ilR (L ++ [x]) = ilR L ++ [[.int .i64 (x : Int)]] := by simp [ilR]
theorem ilR_len (L : List Nat) : (ilR L).length = L.length := by simp [ilR]
theorem ilR_nil : ilR [] = [] := rfl
attribute [irreducible] ilR
theorem Try.infoInt : (Try.prog.info? 2).map (fun i => (i.zero, i.size, i.bytes)) = some (some (.int .i64 0), 1, 8) := by kernel_rfl
theorem Try.elemInt : (Try.prog.info? 2).map (fun i => (i.size, i.zero.isSome)) = some (1, true) := by kernel_rfl
theorem wpList_buildI {P : Program} {ops : Array Oper} {rest : List Oper} {o : Oper} {a : Act} {w : World} {Q : Exit → Act → World → Prop} (hg : o.guard = none) (t : TypeId) (parts : Array (Nat × Operand)) (x : Int)
    (ho : o.op = .buildSlice t 1 parts) (e : TypeId) (hu : P.underlying t = some (.slice e)) (hie : (P.info? e).map (fun i => (i.size, i.zero.isSome)) = some (1, true))
    (hp : (parts.toList.map fun x => (x.1, a.eval x.2)) = [(0, Value.int .i64 x)])
    (h : ∀ w', Row w' w.heap.size e #[.int .i64 x] → Below w.heap.size w w' → wpList P ops Q rest (a.put o.dst (.slice (some ⟨w.heap.size, 0, none⟩) 1 1)) w') : wpList P ops Q (o :: rest) a w := by
  cases hi : P.info? e with
  | none => simp [hi] at hie
  | some ie =>
    simp only [hi, Option.map_some, Option.some.injEq, Prod.mk.injEq] at hie
    obtain ⟨hs, hz⟩ := hie
    obtain ⟨z, hzz⟩ := Option.isSome_iff_exists.1 hz
    refine wpList_buildSlice hg t e 1 parts ho _ ie z hu hi hzz (by rw [hs]; omega) (by rw [hs]; omega) ?_ (h _ (Row.new w e #[.int .i64 x]) (below_alloc' _ _))
    rw [Array.toList_map, hp, hs]
    obtain ⟨old, hold⟩ : ∃ old, old = (Array.range (1 * 1)).map (z.cells[· % z.cells.size]!) := ⟨_, rfl⟩
    have hsz : old.size = 1 := by rw [hold]; simp
    rw [← hold]
    obtain ⟨l⟩ := old
    match l, hsz with
    | [u], _ => simp [Instr.fill, Value.cells]
/-- the mark of a cell -/
def mkI (q : Nat) : Value := .int .i64 (1 + (q : Int))
/-- the first q cells of a slice are marked -/
def MkI (w : World) (base : Nat) (v : Value) (n q : Nat) : Prop := ∃ ys, w.ownsRow base 2 1 v n ys ∧ ∀ k, k < q → ys[k]? = some (mkI k)
theorem mkI_some {w : World} {base n q cap : Nat} {a : Option Addr} (h : MkI w base (.slice a n cap) n q) (hn : 0 < n) : ∃ g, a = some ⟨g, 0, none⟩ := by
  obtain ⟨ys, h1, _⟩ := h
  rcases h1.2 with ⟨h2, h3⟩ | ⟨g, c, cur, h2, _⟩
  · omega
  · injection h2 with h2; exact ⟨g, h2⟩
theorem MkI.len {w : World} {base n q : Nat} {v : Value} (h : MkI w base v n q) : True := trivial
theorem SlL.marksI {w : World} {base n : Nat} {v : Value} {cs : List (List Value)} (h : SlL w base 2 1 v cs) (hn : cs.length = n) : MkI w base v n 0 := by
  delta SlL at h
  exact ⟨cs.flatten, hn ▸ h.2.2, fun k hk => absurd hk (by omega)⟩
theorem MkI.own {w : World} {base n q : Nat} {v : Value} (h : MkI w base v n q) : ∀ r, v.ownBlock = Option.some r → base ≤ r ∧ r < w.heap.size := by
  obtain ⟨ys, h1, _⟩ := h
  exact fun r hr => h1.lt r hr
theorem MkI.grown {w w' : World} {base n q : Nat} {v : Value} {row : Option Nat} (h : MkI w base v n q) (hg : w.grownBy w' row) (hr : v.ownBlock = none ∨ v.ownBlock ≠ row) : MkI w' base v n q := by
  obtain ⟨ys, h1, h2⟩ := h
  exact ⟨ys, h1.kept hg hr, h2⟩
theorem MkI.below {w w' : World} {base n q : Nat} {v : Value} (h : MkI w base v n q) (hb : Below w.heap.size w w') : MkI w' base v n q :=
  h.grown (row := none) ⟨hb.os, hb.tape, hb.output, hb.size, fun k hk _ => hb.block k hk⟩ (by
    cases hv : v.ownBlock with
    | none => exact .inl rfl
    | some k => exact .inr (by simp))
theorem MkI.step {w : World} {base n q g cap : Nat} (h : MkI w base (.slice (some ⟨g, 0, none⟩) n cap) n q) (hq : q < n * 1) :
    (∃ u, w.cell? ⟨g, q, none⟩ = Option.some u) ∧ w.frozen? ⟨g, q, none⟩ = false ∧ MkI (w.setCell ⟨g, q, none⟩ (mkI q)) base (.slice (some ⟨g, 0, none⟩) n cap) n (q + 1) ∧ w.grownBy (w.setCell ⟨g, q, none⟩ (mkI q)) (Option.some g) := by
  obtain ⟨ys, h1, h2⟩ := h
  have hl : q < ys.length := by rw [h1.1]; exact hq
  obtain ⟨s1, s2⟩ := h1.stored q (mkI q)
  refine ⟨⟨ys[q], by rw [h1.cellAt q hq]; exact List.getElem?_eq_getElem hl⟩, h1.frozenAt q, ⟨_, s1, fun k hk => ?_⟩, s2⟩
  rw [List.getElem?_set]
  by_cases e : q = k
  · subst e; rw [if_pos rfl, if_pos hl]
  · rw [if_neg e]; exact h2 k (by omega)
theorem MkI.cell {w : World} {base n q g cap k : Nat} (h : MkI w base (.slice (some ⟨g, 0, none⟩) n cap) n q) (hk : k < q) (hq : q ≤ n * 1) : w.cell? ⟨g, k, none⟩ = Option.some (mkI k) := by
  obtain ⟨ys, h1, h2⟩ := h
  rw [h1.cellAt k (by omega)]
  exact h2 k hk
theorem MkI.same {w : World} {base n q : Nat} {v : Value} (h : MkI w base v n q) (r : Nat) (e : r = q) : MkI w base v n r := e ▸ h
attribute [local irreducible] mkI MkI
set_option maxRecDepth 100000 in
set_option maxHeartbeats 3200000 in
theorem eqInt64S_same (R : List Nat) (a1 a2 : Option Addr) (cap1 cap2 base1 base2 : Nat) (w : World) (h1 : SlL w base1 2 1 (.slice a1 R.length cap1) (ilR R)) (h2 : SlL w base2 2 1 (.slice a2 R.length cap2) (ilR R)) (hR : R.length ≤ 1000) :
    Calls Try.prog 26 #[.slice a1 R.length cap1, .slice a2 R.length cap2] w fun e w' => e = .returned (.bool true) ∧ Below w.heap.size w w' := by
  go_enter Try.func26, Try.ntmps26
  go_wp2_with fail
  go_loopw [5] (fun i wr => ∃ j : Nat, i = .int .i64 (j : Int) ∧ j ≤ R.length ∧ Below w.heap.size w wr) (fun i _ => R.length - (intOf i).toNat)
  case atStart => exact ⟨0, rfl, Nat.zero_le _, Below.refl _ _⟩
  case round =>
    obtain ⟨j, rfl, hjR, hb⟩ := hrel
    by_cases hj : j < R.length
    · obtain ⟨x, hx⟩ : ∃ x, R[j]? = some x := ⟨_, List.getElem?_eq_getElem hj⟩
      obtain ⟨g1, rfl⟩ := h1.some (by rw [ilR_len]; omega)
      obtain ⟨g2, rfl⟩ := h2.some (by rw [ilR_len]; omega)
      have hrow : (ilR R)[j]? = some [.int .i64 (x : Int)] := by unfold ilR; rw [List.getElem?_map, hx]; rfl
      have B0 : SlL wr base1 2 1 (.slice (some ⟨g1, 0, none⟩) R.length cap1) (ilR R) := h1.below hb h1.lt
      have B1 : SlL wr base2 2 1 (.slice (some ⟨g2, 0, none⟩) R.length cap2) (ilR R) := h2.below hb h2.lt
      have hjl : (j : Int) < (R.length : Int) := by omega
      have hne : ((x : Int) != (x : Int)) = false := by simp
      clear h1 h2
      go_upto_region 6 with (fail)
      have lt_B0 : (base1) ≤ wr.heap.size := B0.lt
      have lt_B1 : (base2) ≤ wr.heap.size := B1.lt
      have hbase : w.heap.size ≤ wr.heap.size := hb.size
      refine wp_region_steps0 Try.mixed (by kernel_rfl) (by kernel_rfl) (fun v => by (simp only [frL, Act.put, List.setIfInBounds_toArray, List.set_cons_zero, List.set_cons_succ, Nat.reduceAdd, Nat.zero_add]; exact rfl))
        (fun L v W1 => Below w.heap.size w W1 ∧ wr.heap.size ≤ W1.heap.size ∧ SlL W1 base1 2 1 (.slice (some ⟨g1, 0, none⟩) R.length cap1) (ilR R) ∧ SlL W1 base2 2 1 (.slice (some ⟨g2, 0, none⟩) R.length cap2) (ilR R) ∧ (L 0 = true → v 0 = (.slice (some ⟨g1, 0, none⟩) R.length cap1)) ∧ (L 1 = true → v 1 = (.int .i64 (j : Int))) ∧ (L 2 = true → v 2 = (.pointer (some ⟨g1, j, none⟩))) ∧ (L 3 = true → v 3 = (.int .i64 (x : Int))) ∧ (L 4 = true → v 4 = (.slice (some ⟨g2, 0, none⟩) R.length cap2)) ∧ (L 5 = true → v 5 = (.int .i64 (j : Int))) ∧ (L 6 = true → v 6 = (.pointer (some ⟨g2, j, none⟩))) ∧ (L 7 = true → v 7 = (.int .i64 (x : Int))) ∧ (L 8 = true → v 8 = (.bool false))) ?_ ?_ ?_
      · intro v hv0
        exact ⟨hb.drew, Nat.le_refl _, B0.drew, B1.drew, (fun h => by cases h), (fun h => by cases h), (fun h => by cases h), (fun h => by cases h), (fun h => by cases h), (fun h => by cases h), (fun h => by cases h), (fun h => by cases h), (fun h => by cases h)⟩
      · refine (.cons rfl ?_ (.cons rfl ?_ (.cons rfl ?_ (.cons rfl ?_ (.cons rfl ?_ (.cons rfl ?_ (.cons rfl ?_ (.cons rfl ?_ (.cons rfl ?_ (.nil _))))))))))
        · intro L v W1 hd hn ⟨hB, hz, s0, s1, h0, h1, h2, h3, h4, h5, h6, h7, h8⟩ K hK
          go_wp2_with fail
          exact hK _ (.slice (some ⟨g1, 0, none⟩) R.length cap1) _ (by simp only [Act.put, List.setIfInBounds_toArray, List.set_cons_zero, List.set_cons_succ ]) ⟨hB, hz, s0, s1, (fun _ => rfl), h1, h2, h3, h4, h5, h6, h7, h8⟩
        · intro L v W1 hd hn ⟨hB, hz, s0, s1, h0, h1, h2, h3, h4, h5, h6, h7, h8⟩ K hK
          go_wp2_with fail
          exact hK _ (.int .i64 (j : Int)) _ (by simp only [Act.put, List.setIfInBounds_toArray, List.set_cons_zero, List.set_cons_succ ]) ⟨hB, hz, s0, s1, h0, (fun _ => rfl), h2, h3, h4, h5, h6, h7, h8⟩
        · intro L v W1 hd hn ⟨hB, hz, s0, s1, h0, h1, h2, h3, h4, h5, h6, h7, h8⟩ K hK
          have e0 := h0 (hd ⟨0, .data⟩ (by simp) rfl)
          have e1 := h1 (hd ⟨1, .data⟩ (by simp) rfl)
          go_wp2_with fail
          exact hK _ (.pointer (some ⟨g1, j, none⟩)) _ (by simp only [Act.put, List.setIfInBounds_toArray, List.set_cons_zero, List.set_cons_succ, e0, e1]) ⟨hB, hz, s0, s1, h0, h1, (fun _ => rfl), h3, h4, h5, h6, h7, h8⟩
        · intro L v W1 hd hn ⟨hB, hz, s0, s1, h0, h1, h2, h3, h4, h5, h6, h7, h8⟩ K hK
          have e2 := h2 (hd ⟨2, .data⟩ (by simp) rfl)
          have cc := (s0).range hrow 0 (.int .i64 (x : Int)) rfl
          simp only [Nat.mul_one, Nat.add_zero] at cc
          go_wp2_with fail
          exact hK _ (.int .i64 (x : Int)) _ (by simp only [Act.put, List.setIfInBounds_toArray, List.set_cons_zero, List.set_cons_succ, e2]) ⟨hB, hz, s0, s1, h0, h1, h2, (fun _ => rfl), h4, h5, h6, h7, h8⟩
        · intro L v W1 hd hn ⟨hB, hz, s0, s1, h0, h1, h2, h3, h4, h5, h6, h7, h8⟩ K hK
          go_wp2_with fail
          exact hK _ (.slice (some ⟨g2, 0, none⟩) R.length cap2) _ (by simp only [Act.put, List.setIfInBounds_toArray, List.set_cons_zero, List.set_cons_succ ]) ⟨hB, hz, s0, s1, h0, h1, h2, h3, (fun _ => rfl), h5, h6, h7, h8⟩
        · intro L v W1 hd hn ⟨hB, hz, s0, s1, h0, h1, h2, h3, h4, h5, h6, h7, h8⟩ K hK
          go_wp2_with fail
          exact hK _ (.int .i64 (j : Int)) _ (by simp only [Act.put, List.setIfInBounds_toArray, List.set_cons_zero, List.set_cons_succ ]) ⟨hB, hz, s0, s1, h0, h1, h2, h3, h4, (fun _ => rfl), h6, h7, h8⟩
        · intro L v W1 hd hn ⟨hB, hz, s0, s1, h0, h1, h2, h3, h4, h5, h6, h7, h8⟩ K hK
          have e4 := h4 (hd ⟨4, .data⟩ (by simp) rfl)
          have e5 := h5 (hd ⟨5, .data⟩ (by simp) rfl)
          go_wp2_with fail
          exact hK _ (.pointer (some ⟨g2, j, none⟩)) _ (by simp only [Act.put, List.setIfInBounds_toArray, List.set_cons_zero, List.set_cons_succ, e4, e5]) ⟨hB, hz, s0, s1, h0, h1, h2, h3, h4, h5, (fun _ => rfl), h7, h8⟩
        · intro L v W1 hd hn ⟨hB, hz, s0, s1, h0, h1, h2, h3, h4, h5, h6, h7, h8⟩ K hK
          have e6 := h6 (hd ⟨6, .data⟩ (by simp) rfl)
          have cc := (s1).range hrow 0 (.int .i64 (x : Int)) rfl
          simp only [Nat.mul_one, Nat.add_zero] at cc
          go_wp2_with fail
          exact hK _ (.int .i64 (x : Int)) _ (by simp only [Act.put, List.setIfInBounds_toArray, List.set_cons_zero, List.set_cons_succ, e6]) ⟨hB, hz, s0, s1, h0, h1, h2, h3, h4, h5, h6, (fun _ => rfl), h8⟩
        · intro L v W1 hd hn ⟨hB, hz, s0, s1, h0, h1, h2, h3, h4, h5, h6, h7, h8⟩ K hK
          have e3 := h3 (hd ⟨3, .data⟩ (by simp) rfl)
          have e7 := h7 (hd ⟨7, .data⟩ (by simp) rfl)
          go_wp2_with fail
          exact hK _ (.bool false) _ (by simp only [Act.put, List.setIfInBounds_toArray, List.set_cons_zero, List.set_cons_succ, e3, e7]) ⟨hB, hz, s0, s1, h0, h1, h2, h3, h4, h5, h6, h7, (fun _ => rfl)⟩
      · intro L v W1 hL ⟨hB, hz, s0, s1, h0, h1, h2, h3, h4, h5, h6, h7, h8⟩
        have e0 := h0 (hL 0 (by decide))
        have e1 := h1 (hL 1 (by decide))
        have e2 := h2 (hL 2 (by decide))
        have e3 := h3 (hL 3 (by decide))
        have e4 := h4 (hL 4 (by decide))
        have e5 := h5 (hL 5 (by decide))
        have e6 := h6 (hL 6 (by decide))
        have e7 := h7 (hL 7 (by decide))
        have e8 := h8 (hL 8 (by decide))
        clear hL h0 h1 h2 h3 h4 h5 h6 h7 h8
        simp only [Exit.then, e0, e1, e2, e3, e4, e5, e6, e7, e8]
        clear e0 e1 e2 e3 e4 e5 e6 e7 e8
        clear B0
        have B0 := s0
        clear s0
        clear B1
        have B1 := s1
        clear s1
        clear hb
        have hb := hB
        clear hB
        clear hbase hz lt_B0 lt_B1
        go_wp2_with fail
        go_roundw
        case rel => exact ⟨j + 1, by go_num, by omega, hb⟩
        case measure => simp [intOf] <;> omega
    · have hjl : ¬ (j : Int) < (R.length : Int) := by omega
      go_wp2_with fail
      go_ret
      exact ⟨rfl, hb⟩
set_option maxRecDepth 100000 in
set_option maxHeartbeats 3200000 in
theorem markInt64S_any (n : Nat) (a0 : Option Addr) (cap base : Nat) (w : World) (h : MkI w base (.slice a0 n cap) n 0) (hn : n ≤ 1000) :
    Calls Try.prog 27 #[.slice a0 n cap, .int .i64 1] w fun e w' => e = .returned (.int .i64 ((1 + n : Nat) : Int)) ∧ MkI w' base (.slice a0 n cap) n n ∧ w.grownBy w' (Value.slice a0 n cap).ownBlock := by
  go_enter Try.func27, Try.ntmps27
  go_wp2_with fail
  go_loopw [1, 5] (fun x i wr => ∃ j X : Nat, x = .int .i64 (X : Int) ∧ X = 1 + j ∧ i = .int .i64 (j : Int) ∧ j ≤ n ∧ MkI wr base (.slice a0 n cap) n j ∧ w.grownBy wr (Value.slice a0 n cap).ownBlock) (fun _ i _ => n - (intOf i).toNat)
  case atStart => exact ⟨0, 1, rfl, rfl, rfl, Nat.zero_le _, h, grown_refl _ _⟩
  case round =>
    clear h; obtain ⟨j, X, rfl, hX, rfl, hjn, hM, hG⟩ := hrel
    by_cases hj : j < n
    · have hjl : (j : Int) < (n : Int) := by omega
      obtain ⟨g, rfl⟩ := mkI_some hM (by omega)
      have hX2 : X ≤ 1001 := by omega
      have e1 : mkI j = .int .i64 (X : Int) := by unfold mkI; rw [show (1 + (j : Int)) = (X : Int) by omega]
      have HX := Lib.hid hX
      clear hX
      obtain ⟨⟨u, hc⟩, hz, hM2, hG2⟩ := hM.step (by omega)
      rw [e1] at hM2 hG2
      have HM2 := Lib.hid hM2
      have HG2 := Lib.hid (grown_trans hG hG2)
      clear hM2 hG2 hM hG e1
      go_wp2_with fail
      go_roundw
      case rel => exact ⟨j + 1, X + 1, by go_num, by have := HX.out; omega, by go_num, by omega, HM2.out, HG2.out⟩
      case measure => simp [intOf] <;> omega
    · have hjl : ¬ (j : Int) < (n : Int) := by omega
      have e : j = n := by omega
      subst e
      go_wp2_with fail
      go_ret
      exact ⟨ret_int (by push_cast; rfl), hM, hG⟩
set_option maxRecDepth 100000 in
set_option maxHeartbeats 3200000 in
theorem heldInt64S_any (n : Nat) (a0 : Option Addr) (cap base : Nat) (w : World) (h : MkI w base (.slice a0 n cap) n n) (hn : n ≤ 1000) :
    Calls Try.prog 28 #[.slice a0 n cap, .int .i64 1] w fun e w' => e = .returned (.int .i64 ((1 + n : Nat) : Int)) ∧ w = w' := by
  go_enter Try.func28, Try.ntmps28
  go_wp2_with fail
  go_loopw [1, 5] (fun x i wr => ∃ j X : Nat, x = .int .i64 (X : Int) ∧ X = 1 + j ∧ i = .int .i64 (j : Int) ∧ j ≤ n ∧ wr = w) (fun _ i _ => n - (intOf i).toNat)
  case atStart => exact ⟨0, 1, rfl, rfl, rfl, Nat.zero_le _, rfl⟩
  case round =>
    obtain ⟨j, X, rfl, hX, rfl, hjn, rfl⟩ := hrel
    by_cases hj : j < n
    · have hjl : (j : Int) < (n : Int) := by omega
      obtain ⟨g, rfl⟩ := mkI_some h (by omega)
      have hX2 : X ≤ 1001 := by omega
      have e1 : mkI j = .int .i64 (X : Int) := by unfold mkI; rw [show (1 + (j : Int)) = (X : Int) by omega]
      have HX := Lib.hid hX
      clear hX
      have hc := MkI.cell h (k := j) (by omega) (by omega)
      rw [e1] at hc
      have hne : ((X : Int) != (X : Int)) = false := by simp
      clear e1
      go_wp2_with fail
      go_roundw
      case rel => exact ⟨j + 1, X + 1, by go_num, by have := HX.out; omega, by go_num, by omega, trivial⟩
      case measure => simp [intOf] <;> omega
    · have hjl : ¬ (j : Int) < (n : Int) := by omega
      have e : j = n := by omega
      subst e
      go_wp2_with fail
      go_ret
      exact ⟨ret_int (by push_cast; rfl), rfl⟩
end Go.Proofs.Ytpeehpaghdddgaa
