/-
  Walks: marks in lists of factors.
-/
import Derived.Test.YtpeehpaghdddgaaW48
namespace Go.Proofs.Ytpeehpaghdddgaa
open Go Go.RowKit
set_option linter.unusedVariables false
set_option linter.unusedSimpArgs false
/-- the mark of a cell -/
def mkF (q : Nat) : Value := if q % 65 = 64 then .int .i64 (1 + (q : Int)) else .int .u8 ((1 + (q : Int)) % 256)
theorem mkF_u {q : Nat} (h : ¬ q % 65 = 64) : mkF q = .int .u8 ((1 + (q : Int)) % 256) := by unfold mkF; rw [if_neg h]
theorem mkF_i {q : Nat} (h : q % 65 = 64) : mkF q = .int .i64 (1 + (q : Int)) := by unfold mkF; rw [if_pos h]
/-- the first q cells of a slice are marked -/
def MkF (w : World) (base : Nat) (v : Value) (n q : Nat) : Prop := ∃ ys, w.ownsRow base 102 65 v n ys ∧ ∀ k, k < q → ys[k]? = some (mkF k)
theorem mkF_some {w : World} {base n q cap : Nat} {a : Option Addr} (h : MkF w base (.slice a n cap) n q) (hn : 0 < n) : ∃ g, a = some ⟨g, 0, none⟩ := by
  obtain ⟨ys, h1, _⟩ := h
  rcases h1.2 with ⟨h2, h3⟩ | ⟨g, c, cur, h2, _⟩
  · omega
  · injection h2 with h2; exact ⟨g, h2⟩
theorem MkF.len {w : World} {base n q : Nat} {v : Value} (h : MkF w base v n q) : True := trivial
theorem SlL.marks {w : World} {base n : Nat} {v : Value} {cs : List (List Value)} (h : SlL w base 102 65 v cs) (hn : cs.length = n) : MkF w base v n 0 := by
  delta SlL at h
  exact ⟨cs.flatten, hn ▸ h.2.2, fun k hk => absurd hk (by omega)⟩
theorem MkF.own {w : World} {base n q : Nat} {v : Value} (h : MkF w base v n q) : ∀ r, v.ownBlock = Option.some r → base ≤ r ∧ r < w.heap.size := by
  obtain ⟨ys, h1, _⟩ := h
  exact fun r hr => h1.lt r hr
theorem MkF.grown {w w' : World} {base n q : Nat} {v : Value} {row : Option Nat} (h : MkF w base v n q) (hg : w.grownBy w' row) (hr : v.ownBlock = none ∨ v.ownBlock ≠ row) : MkF w' base v n q := by
  obtain ⟨ys, h1, h2⟩ := h
  exact ⟨ys, h1.kept hg hr, h2⟩
theorem MkF.below {w w' : World} {base n q : Nat} {v : Value} (h : MkF w base v n q) (hb : Below w.heap.size w w') : MkF w' base v n q :=
  h.grown (row := none) ⟨hb.os, hb.tape, hb.output, hb.size, fun k hk _ => hb.block k hk⟩ (by
    cases hv : v.ownBlock with
    | none => exact .inl rfl
    | some k => exact .inr (by simp))
theorem MkF.step {w : World} {base n q g cap : Nat} (h : MkF w base (.slice (some ⟨g, 0, none⟩) n cap) n q) (hq : q < n * 65) :
    (∃ u, w.cell? ⟨g, q, none⟩ = Option.some u) ∧ w.frozen? ⟨g, q, none⟩ = false ∧ MkF (w.setCell ⟨g, q, none⟩ (mkF q)) base (.slice (some ⟨g, 0, none⟩) n cap) n (q + 1) ∧ w.grownBy (w.setCell ⟨g, q, none⟩ (mkF q)) (Option.some g) := by
  obtain ⟨ys, h1, h2⟩ := h
  have hl : q < ys.length := by rw [h1.1]; exact hq
  obtain ⟨s1, s2⟩ := h1.stored q (mkF q)
  refine ⟨⟨ys[q], by rw [h1.cellAt q hq]; exact List.getElem?_eq_getElem hl⟩, h1.frozenAt q, ⟨_, s1, fun k hk => ?_⟩, s2⟩
  rw [List.getElem?_set]
  by_cases e : q = k
  · subst e; rw [if_pos rfl, if_pos hl]
  · rw [if_neg e]; exact h2 k (by omega)
theorem MkF.cell {w : World} {base n q g cap k : Nat} (h : MkF w base (.slice (some ⟨g, 0, none⟩) n cap) n q) (hk : k < q) (hq : q ≤ n * 65) : w.cell? ⟨g, k, none⟩ = Option.some (mkF k) := by
  obtain ⟨ys, h1, h2⟩ := h
  rw [h1.cellAt k (by omega)]
  exact h2 k hk
theorem MkF.same {w : World} {base n q : Nat} {v : Value} (h : MkF w base v n q) (r : Nat) (e : r = q) : MkF w base v n r := e ▸ h
theorem grown_trans {w w1 w2 : World} {row : Option Nat} (h1 : w.grownBy w1 row) (h2 : w1.grownBy w2 row) : w.grownBy w2 row :=
  ⟨h2.os.trans h1.os, h2.tape.trans h1.tape, h2.output.trans h1.output, Nat.le_trans h1.size h2.size, fun k hk hr => (h2.block k (Nat.lt_of_lt_of_le hk h1.size) hr).trans (h1.block k hk hr)⟩
theorem grown_refl (w : World) (row : Option Nat) : w.grownBy w row := ⟨rfl, rfl, rfl, Nat.le_refl _, fun _ _ _ => rfl⟩
theorem slL_apart {w w' : World} {base size : Nat} {e : TypeId} {v : Value} {cs : List (List Value)} {row : Option Nat} (h : SlL w base e size v cs) (hg : w.grownBy w' row) (hr : v.ownBlock = none ∨ v.ownBlock ≠ row) : SlL w' base e size v cs := by
  delta SlL at *
  exact ⟨Nat.le_trans h.1 hg.size, h.2.1, h.2.2.kept hg hr⟩
attribute [local irreducible] mkF MkF
set_option maxRecDepth 100000 in
set_option maxHeartbeats 3200000 in
theorem markFactorS_any (n : Nat) (a0 : Option Addr) (cap base : Nat) (w : World) (h : MkF w base (.slice a0 n cap) n 0) (hn : n ≤ 12) :
    Calls Try.prog 50 #[.slice a0 n cap, .int .i64 1] w fun e w' => e = .returned (.int .i64 ((1 + 65 * n : Nat) : Int)) ∧ MkF w' base (.slice a0 n cap) n (65 * n) ∧ w.grownBy w' (Value.slice a0 n cap).ownBlock := by
  go_enter Try.func50, Try.ntmps50
  go_wp2_with fail
  go_loopw [1, 5] (fun x i wr => ∃ j X : Nat, x = .int .i64 (X : Int) ∧ X = 1 + 65 * j ∧ i = .int .i64 (j : Int) ∧ j ≤ n ∧ MkF wr base (.slice a0 n cap) n (65 * j) ∧ w.grownBy wr (Value.slice a0 n cap).ownBlock) (fun _ i _ => n - (intOf i).toNat)
  case atStart => exact ⟨0, 1, rfl, rfl, rfl, Nat.zero_le _, h, grown_refl _ _⟩
  case round =>
    clear h
    obtain ⟨j, X, rfl, hX, rfl, hjn, hM, hG⟩ := hrel
    by_cases hj : j < n
    · have hjl : (j : Int) < (n : Int) := by omega
      obtain ⟨g, rfl⟩ := mkF_some hM (by omega)
      have hX2 : X ≤ 781 := by omega
      have HX := Lib.hid hX
      clear hX
      go_wp2_with fail
      go_loopw [1, 6] (fun x i wr => ∃ k X : Nat, x = .int .i64 (X : Int) ∧ X = 1 + 65 * j + k ∧ i = .int .i64 (k : Int) ∧ k ≤ 64 ∧ MkF wr base (.slice (some ⟨g, 0, none⟩) n cap) n (65 * j + k) ∧ w.grownBy wr (some g)) (fun _ i _ => 64 - (intOf i).toNat)
      case atStart => exact ⟨0, X, rfl, by have := HX.out; omega, rfl, by omega, hM, hG⟩
      case round =>
        clear hM hG HX
        obtain ⟨k, X, rfl, hX, rfl, hk, hM, hG⟩ := hrel
        have hX2 : X ≤ 845 := by omega
        have HX := Lib.hid hX
        clear hX
        have HQ := Lib.hid (show j * 65 + k = 65 * j + k by omega)
        by_cases hlt : k < 64
        · obtain ⟨⟨u, hc⟩, hz, hM2, hG2⟩ := hM.step (by omega)
          have e1 : mkF (65 * j + k) = .int .u8 ((X : Int) % 256) := by
            rw [mkF_u (by omega), show (1 + ((65 * j + k : Nat) : Int)) = (X : Int) by have := HX.out; omega]
          rw [e1, ← HQ.out] at hM2 hG2
          rw [← HQ.out] at hc hz
          have HM2 := Lib.hid hM2
          have HG2 := Lib.hid (grown_trans hG hG2)
          clear hM2 hG2 hM hG e1
          go_wp2_with fail
          go_roundw
          case rel => exact ⟨k + 1, X + 1, by go_num, by have := HX.out; omega, by go_num, by omega, HM2.out.same _ (by omega), HG2.out⟩
          case measure => simp [intOf] <;> omega
        · have e : k = 64 := by omega
          subst e
          obtain ⟨⟨u, hc⟩, hz, hM2, hG2⟩ := hM.step (by omega)
          have e1 : mkF (65 * j + 64) = .int .i64 (X : Int) := by
            rw [mkF_i (by omega), show (1 + ((65 * j + 64 : Nat) : Int)) = (X : Int) by have := HX.out; omega]
          rw [e1, ← HQ.out] at hM2 hG2
          rw [← HQ.out] at hc hz
          have HM2 := Lib.hid hM2
          have HG2 := Lib.hid (grown_trans hG hG2)
          clear hM2 hG2 hM hG e1
          go_wp2_with fail
          go_roundw
          case rel => exact ⟨j + 1, X + 1, by go_num, by have := HX.out; omega, by go_num, by omega, HM2.out.same _ (by omega), HG2.out⟩
          case measure => simp [intOf] <;> omega
    · have hjl : ¬ (j : Int) < (n : Int) := by omega
      have e : j = n := by omega
      subst e
      go_wp2_with fail
      go_ret
      exact ⟨ret_int (by push_cast; rfl), hM, hG⟩
set_option maxRecDepth 100000 in
set_option maxHeartbeats 3200000 in
theorem heldFactorS_any (n : Nat) (a0 : Option Addr) (cap base : Nat) (w : World) (h : MkF w base (.slice a0 n cap) n (65 * n)) (hn : n ≤ 12) :
    Calls Try.prog 51 #[.slice a0 n cap, .int .i64 1] w fun e w' => e = .returned (.int .i64 ((1 + 65 * n : Nat) : Int)) ∧ w = w' := by
  go_enter Try.func51, Try.ntmps51
  go_wp2_with fail
  go_loopw [1, 5] (fun x i wr => ∃ j X : Nat, x = .int .i64 (X : Int) ∧ X = 1 + 65 * j ∧ i = .int .i64 (j : Int) ∧ j ≤ n ∧ wr = w) (fun _ i _ => n - (intOf i).toNat)
  case atStart => exact ⟨0, 1, rfl, rfl, rfl, Nat.zero_le _, rfl⟩
  case round =>
    obtain ⟨j, X, rfl, hX, rfl, hjn, rfl⟩ := hrel
    by_cases hj : j < n
    · have hjl : (j : Int) < (n : Int) := by omega
      obtain ⟨g, rfl⟩ := mkF_some h (by omega)
      have hX2 : X ≤ 781 := by omega
      have HX := Lib.hid hX
      clear hX
      go_wp2_with fail
      go_loopw [1, 6] (fun x i wr2 => ∃ k X : Nat, x = .int .i64 (X : Int) ∧ X = 1 + 65 * j + k ∧ i = .int .i64 (k : Int) ∧ k ≤ 64 ∧ wr2 = wr) (fun _ i _ => 64 - (intOf i).toNat)
      case atStart => exact ⟨0, X, rfl, by have := HX.out; omega, rfl, by omega, rfl⟩
      case round =>
        clear HX
        obtain ⟨k, X, rfl, hX, rfl, hk, rfl⟩ := hrel
        have hX2 : X ≤ 845 := by omega
        have HX := Lib.hid hX
        clear hX
        have HQ := Lib.hid (show j * 65 + k = 65 * j + k by omega)
        by_cases hlt : k < 64
        · have e1 : mkF (65 * j + k) = .int .u8 ((X : Int) % 256) := by
            rw [mkF_u (by omega), show (1 + ((65 * j + k : Nat) : Int)) = (X : Int) by have := HX.out; omega]
          have hc := MkF.cell h (k := 65 * j + k) (by omega) (by omega)
          rw [e1, ← HQ.out] at hc
          have hne : (((X : Int) % 256) != ((X : Int) % 256)) = false := by simp
          clear e1
          go_wp2_with fail
          go_roundw
          case rel => exact ⟨k + 1, X + 1, by go_num, by have := HX.out; omega, by go_num, by omega, trivial⟩
          case measure => simp [intOf] <;> omega
        · have e : k = 64 := by omega
          subst e
          have e1 : mkF (65 * j + 64) = .int .i64 (X : Int) := by
            rw [mkF_i (by omega), show (1 + ((65 * j + 64 : Nat) : Int)) = (X : Int) by have := HX.out; omega]
          have hc := MkF.cell h (k := 65 * j + 64) (by omega) (by omega)
          rw [e1, ← HQ.out] at hc
          have hne : ((X : Int) != (X : Int)) = false := by simp
          clear e1
          go_wp2_with fail
          go_roundw
          case rel => exact ⟨j + 1, X + 1, by go_num, by have := HX.out; omega, by go_num, by omega, trivial⟩
          case measure => simp [intOf] <;> omega
    · have hjl : ¬ (j : Int) < (n : Int) := by omega
      have e : j = n := by omega
      subst e
      go_wp2_with fail
      go_ret
      exact ⟨ret_int (by push_cast; rfl), rfl⟩
end Go.Proofs.Ytpeehpaghdddgaa
