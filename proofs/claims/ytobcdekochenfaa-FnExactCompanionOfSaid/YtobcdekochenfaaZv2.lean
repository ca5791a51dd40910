/-
  What the rows of this claim rest on: arrays of bytes, walks of the functions, plain mathematics.
-/
import Derived.Test.YtobcdekochenfaaZv1
import Derived.OwnWalk
import Derived.Deep.MidRow
import Derived.Great.BuildSlice
import Derived.RangeFuncNested
import Derived.RangeFuncBound
import Derived.RangeFuncCalls
import Derived.RangeFuncLeaves
import Derived.Shelf.Abstract
import Derived.Shelf.RegionOpen
import Derived.OwnWalkIn
import Derived.TacticsInMore
import Derived.LoopNIn
import Derived.LoopIn
import Derived.Deep.CutBlock
import Derived.Defers
import Derived.Recover
import Derived.Laws.StructEq
import Derived.OpenShut
import Derived.ProofKit
import Derived.Test.YtobcdekochenfaaRows
import Derived.JoinedOf
section
namespace Go.Proofs.Ytobcdekochenfaa
open Go Go.RowKit
set_option linter.unusedVariables false
/-- v is a slice of the rows cs, each of so many cells, in a block from base on (or nil) -/
def SlL (w : World) (base : Nat) (e : TypeId) (size : Nat) (v : Value) (cs : List (List Value)) : Prop := base ≤ w.heap.size ∧ (∀ c ∈ cs, c.length = size) ∧ w.ownsRow base e size v cs.length cs.flatten
theorem SlL.lt {w : World} {base : Nat} {e : TypeId} {size : Nat} {v : Value} {cs : List (List Value)} (h : SlL w base e size v cs) : base ≤ w.heap.size := h.1
theorem SlL.nil {w : World} {base : Nat} (e : TypeId) (size : Nat) (h : base ≤ w.heap.size) : SlL w base e size (.slice none 0 0) [] := ⟨h, by simp, World.ownsRow_nil _ _ _ _⟩
theorem SlL.grown {w w' : World} {base : Nat} {e : TypeId} {size : Nat} {v : Value} {cs : List (List Value)} {row : Option Nat} (h : SlL w base e size v cs) (hg : w.grownBy w' row) (hr : ∀ r, row = some r → r < base) : SlL w' base e size v cs :=
 ⟨Nat.le_trans h.1 hg.size, h.2.1, h.2.2.kept hg (by
  cases hv : v.ownBlock with
  | none => exact .inl rfl
  | some k =>
   right
   intro he
   have h1 := (h.2.2.lt k hv).1
   have h2 := hr k he.symm
   omega)⟩
theorem SlL.alloc {w : World} {base : Nat} {e : TypeId} {size : Nat} {v : Value} {cs : List (List Value)} (h : SlL w base e size v cs) (o : Obj) : SlL (w.alloc o) base e size v cs := h.grown (World.grownBy_alloc w o none) (fun r e => by cases e)
theorem SlL.drew {w : World} {base : Nat} {e : TypeId} {size : Nat} {v : Value} {cs : List (List Value)} (h : SlL w base e size v cs) : SlL w.drew base e size v cs := h
theorem SlL.below {w w' : World} {base : Nat} {e : TypeId} {size : Nat} {v : Value} {cs : List (List Value)} (h : SlL w base e size v cs) (hb : Below w.heap.size w w') (_ : base ≤ w.heap.size) : SlL w' base e size v cs :=
 h.grown (row := none) ⟨hb.os, hb.tape, hb.output, hb.size, fun k hk _ => hb.block k hk⟩ (fun r e => by cases e)
theorem SlL.zw {w w' : World} {base : Nat} {e : TypeId} {size : Nat} {v : Value} {cs : List (List Value)} (h : SlL w base e size v cs) (hb : Below w.heap.size w w') : SlL w' base e size v cs := SlL.below h hb (SlL.lt h)
theorem SlL.rowOther {w : World} {base : Nat} {e : TypeId} {size : Nat} {v : Value} {cs : List (List Value)} (h : SlL w base e size v cs) {k : Nat} {xs : Array Value} (hk : k < base) : SlL (w.setRow k xs) base e size v cs :=
 h.grown (row := some k) ⟨rfl, rfl, rfl, by simp [World.setRow], fun j _ hj => setRow_other _ _ _ _ (fun e => hj (by rw [e]))⟩ (fun r e => by cases e; exact hk)
theorem SlL.setOther {w : World} {base : Nat} {e : TypeId} {size : Nat} {v x : Value} {cs : List (List Value)} (h : SlL w base e size v cs) {a : Addr} (ha : a.block < base) : SlL (w.setCell a x) base e size v cs :=
 ⟨by simpa using h.1, h.2.1, ownsRow_setCell_below h.2.2 ha x⟩
theorem SlL.own {w : World} {base : Nat} {e : TypeId} {size : Nat} {v : Value} {cs : List (List Value)} (h : SlL w base e size v cs) : ∀ r, v.ownBlock = some r → base ≤ r := fun r hr => (h.2.2.lt r hr).1
theorem SlL.shape {w : World} {base : Nat} {e : TypeId} {size : Nat} {v : Value} {cs : List (List Value)} (h : SlL w base e size v cs) : (v = .slice none 0 0 ∧ cs = []) ∨ ∃ g cap, v = .slice (some ⟨g, 0, none⟩) cs.length cap := by
 obtain ⟨_, _, _, h | ⟨g, cap, cur, rfl, _⟩⟩ := h
 · exact .inl ⟨h.1, List.eq_nil_of_length_eq_zero h.2⟩
 · exact .inr ⟨g, cap, rfl⟩
theorem flat_at : ∀ (cs : List (List Value)) (size i : Nat) (c : List Value) (j : Nat) (u : Value), (∀ c ∈ cs, c.length = size) → cs[i]? = some c → c[j]? = some u → cs.flatten[i * size + j]? = some u
 | [], _, _, _, _, _, _, h, _ => by simp at h
 | g :: cs, size, 0, c, j, u, _, h, hj => by
  simp only [List.getElem?_cons_zero, Option.some.injEq] at h
  subst h
  rw [List.flatten_cons, Nat.zero_mul, Nat.zero_add, List.getElem?_append_left (List.getElem?_eq_some_iff.1 hj).1]
  exact hj
 | g :: cs, size, i + 1, c, j, u, hs, h, hj => by
  have hg : g.length = size := hs g (by simp)
  have e1 : (i + 1) * size = i * size + size := Nat.succ_mul i size
  rw [List.flatten_cons, List.getElem?_append_right (by rw [hg]; omega), hg]
  have := flat_at cs size i c j u (fun c hc => hs c (by simp [hc])) (by simpa using h) hj
  rw [show (i + 1) * size + j - size = i * size + j by omega]
  exact this
/-- the cells of one element -/
theorem SlL.range {w : World} {base : Nat} {e : TypeId} {size g n cap : Nat} {cs : List (List Value)} (h : SlL w base e size (.slice (some ⟨g, 0, none⟩) n cap) cs) {i : Nat} {c : List Value} (hi : cs[i]? = some c) : w.rangeAt g (i * size) c := by
 intro j u hu
 obtain ⟨_, hs, hl, h | ⟨g', cap', cur, hv, hg, hh, h1, h2, h3, h4⟩⟩ := h
 · cases h.1
 · injection hv with e1 e2 e3
   injection e1 with e1
   injection e1 with e1
   subst e1
   rw [cell_of_row _ _ _ _ _ _ hh]
   have hc : cs.flatten[i * size + j]? = some u := flat_at cs size i c j u hs hi hu
   rw [← h4] at hc
   have hlt : i * size + j < cs.length * size := by
    have := (List.getElem?_eq_some_iff.1 hc).1
    rw [List.length_take] at this
    omega
   rw [List.getElem?_take_of_lt hlt] at hc
   rw [← Array.getElem?_toList]
   exact hc
theorem One.row {w : World} {b : Nat} {t : TypeId} {v : Value} (h : One w b t v) (u : Value) : One (w.setRow b #[u]) b t u := by
 unfold One at *
 exact setRow_heap _ _ _ _ _ _ h
theorem SlL.one {w : World} {base : Nat} {e : TypeId} {size : Nat} {v : Value} {cs : List (List Value)} (h : SlL w base e size v cs) : v.oneCell' = true := by
 rcases h.shape with ⟨rfl, _⟩ | ⟨g, cap, rfl⟩ <;> rfl
theorem SlL.base {w : World} {base base' : Nat} {e : TypeId} {size : Nat} {v : Value} {cs : List (List Value)} (h : SlL w base e size v cs) (hb : base' ≤ base) : SlL w base' e size v cs := ⟨Nat.le_trans hb h.1, h.2.1, by
 obtain ⟨_, _, hl, h | ⟨g, cap, cur, hv, hg', r⟩⟩ := h
 · exact ⟨hl, .inl h⟩
 · exact ⟨hl, .inr ⟨g, cap, cur, hv, Nat.le_trans hb hg', r⟩⟩⟩
/-- .. whose block lies below top -/
def SlT (w : World) (base top : Nat) (e : TypeId) (size : Nat) (v : Value) (cs : List (List Value)) : Prop := SlL w base e size v cs ∧ ∀ r, v.ownBlock = some r → r < top
theorem SlL.top {w : World} {base : Nat} {e : TypeId} {size : Nat} {v : Value} {cs : List (List Value)} (h : SlL w base e size v cs) : SlT w base w.heap.size e size v cs := ⟨h, fun r hr => (h.2.2.lt r hr).2⟩
theorem SlT.lt {w : World} {base top : Nat} {e : TypeId} {size : Nat} {v : Value} {cs : List (List Value)} (h : SlT w base top e size v cs) : base ≤ w.heap.size := h.1.1
theorem SlT.alloc {w : World} {base top : Nat} {e : TypeId} {size : Nat} {v : Value} {cs : List (List Value)} (h : SlT w base top e size v cs) (o : Obj) : SlT (w.alloc o) base top e size v cs := ⟨h.1.alloc o, h.2⟩
theorem SlT.drew {w : World} {base top : Nat} {e : TypeId} {size : Nat} {v : Value} {cs : List (List Value)} (h : SlT w base top e size v cs) : SlT w.drew base top e size v cs := h
theorem SlT.below {w w' : World} {base top : Nat} {e : TypeId} {size : Nat} {v : Value} {cs : List (List Value)} (h : SlT w base top e size v cs) (hb : Below w.heap.size w w') (hl : base ≤ w.heap.size) : SlT w' base top e size v cs := ⟨h.1.below hb hl, h.2⟩
theorem SlT.zw {w w' : World} {base top : Nat} {e : TypeId} {size : Nat} {v : Value} {cs : List (List Value)} (h : SlT w base top e size v cs) (hb : Below w.heap.size w w') : SlT w' base top e size v cs := SlT.below h hb (SlT.lt h)
theorem SlT.rowOther {w : World} {base top : Nat} {e : TypeId} {size : Nat} {v : Value} {cs : List (List Value)} (h : SlT w base top e size v cs) {k : Nat} {xs : Array Value} (hk : k < base ∨ top ≤ k) : SlT (w.setRow k xs) base top e size v cs :=
 ⟨⟨by simpa [World.setRow] using h.1.1, h.1.2.1, h.1.2.2.kept (row := some k) ⟨rfl, rfl, rfl, by simp [World.setRow], fun j _ hj => setRow_other _ _ _ _ (fun e => hj (by rw [e]))⟩ (by
  cases hv : v.ownBlock with
  | none => exact .inl rfl
  | some j =>
   right
   intro he
   cases he
   have h1 := (h.1.2.2.lt k hv).1
   have h2 := h.2 k hv
   omega)⟩, h.2⟩
theorem SlT.setOther {w : World} {base top : Nat} {e : TypeId} {size : Nat} {v x : Value} {cs : List (List Value)} (h : SlT w base top e size v cs) {a : Addr} (ha : a.block < base ∨ top ≤ a.block) : SlT (w.setCell a x) base top e size v cs :=
 ⟨⟨by simpa using h.1.1, h.1.2.1, h.1.2.2.kept (row := some a.block) ⟨((Below.refl 0 w).setCell (Nat.zero_le _) x).os, ((Below.refl 0 w).setCell (Nat.zero_le _) x).tape, ((Below.refl 0 w).setCell (Nat.zero_le _) x).output, by simp, fun j _ hj => Below.heap_setCell _ _ _ _ (fun e => hj (by rw [e]))⟩ (by
  cases hv : v.ownBlock with
  | none => exact .inl rfl
  | some j =>
   right
   intro he
   have he2 : j = a.block := by injection he
   subst he2
   have h1 := (h.1.2.2.lt a.block hv).1
   have h2 := h.2 a.block hv
   omega)⟩, h.2⟩
theorem SlL.some {w : World} {base : Nat} {e : TypeId} {size n cap : Nat} {ad : Option Addr} {cs : List (List Value)} (h : SlL w base e size (.slice ad n cap) cs) (hn : 0 < cs.length) : ∃ g, ad = some ⟨g, 0, none⟩ := by
 rcases h.shape with ⟨_, h2⟩ | ⟨g, cap', h1⟩
 · rw [h2] at hn; simp at hn
 · injection h1 with h1; exact ⟨g, h1⟩
/-- block b is the row cs -/
def Row (w : World) (b : Nat) (t : TypeId) (cs : Array Value) : Prop := w.heap[b]? = some (.cells cs t (0, 0))
theorem Row.new (w : World) (t : TypeId) (cs : Array Value) : Row (w.alloc (.cells cs t)) w.heap.size t cs := heap_alloc_last w _
theorem Row.lt {w : World} {b : Nat} {t : TypeId} {cs : Array Value} (h : Row w b t cs) : b < w.heap.size := by
 unfold Row at h
 exact (Array.getElem?_eq_some_iff.1 h).1
theorem Row.of {w w' : World} {b : Nat} {t : TypeId} {cs : Array Value} (h : Row w b t cs) (e : w'.heap[b]? = w.heap[b]?) : Row w' b t cs := by unfold Row at *; rw [e]; exact h
theorem Row.alloc {w : World} {b : Nat} {t : TypeId} {cs : Array Value} (h : Row w b t cs) (o : Obj) : Row (w.alloc o) b t cs := h.of (Below.heap_alloc _ _ _ h.lt)
theorem Row.drew {w : World} {b : Nat} {t : TypeId} {cs : Array Value} (h : Row w b t cs) : Row w.drew b t cs := h
theorem Row.below {w w' : World} {B b : Nat} {t : TypeId} {cs : Array Value} (h : Row w b t cs) (hb : Below B w w') (e : b < B) : Row w' b t cs := h.of (hb.block b e)
theorem Row.zw {w w' : World} {b : Nat} {t : TypeId} {cs : Array Value} (h : Row w b t cs) (hb : Below w.heap.size w w') : Row w' b t cs := Row.below h hb (Row.lt h)
theorem Row.rowOther {w : World} {b : Nat} {t : TypeId} {cs : Array Value} (h : Row w b t cs) {j : Nat} {xs : Array Value} (e : b ≠ j) : Row (w.setRow j xs) b t cs := h.of (setRow_other _ _ _ _ e)
theorem Row.setOther {w : World} {b : Nat} {t : TypeId} {cs : Array Value} {x : Value} (h : Row w b t cs) {a : Addr} (e : b ≠ a.block) : Row (w.setCell a x) b t cs := h.of (heap_setCell_other _ _ _ _ e)
theorem Row.row {w : World} {b : Nat} {t : TypeId} {cs : Array Value} (h : Row w b t cs) (xs : Array Value) : Row (w.setRow b xs) b t xs := by
 unfold Row at *
 exact setRow_heap _ _ _ _ _ _ h
theorem Row.cell {w : World} {b : Nat} {t : TypeId} {cs : Array Value} (h : Row w b t cs) {i : Nat} {v : Value} (hi : cs[i]? = some v) : w.cell? ⟨b, i, none⟩ = some v := by
 rw [cell_of_row _ _ _ _ _ _ h]; exact hi
theorem Row.frozen {w : World} {b : Nat} {t : TypeId} {cs : Array Value} (h : Row w b t cs) (i : Nat) : w.frozen? ⟨b, i, none⟩ = false := frozen_of_row _ _ _ _ _ h
theorem Row.set {w : World} {b i : Nat} {t : TypeId} {cs : Array Value} {x : Value} (h : Row w b t cs) : Row (w.setCell ⟨b, i, none⟩ x) b t (cs.setIfInBounds i x) := by
 unfold Row at *
 rw [heap_setCell_same _ _ _ _ _ _ h]
theorem Row.range {w : World} {b : Nat} {t : TypeId} {c : List Value} (h : Row w b t c.toArray) : w.rangeAt b 0 c := by
 intro j v hv
 rw [Nat.zero_add, cell_of_row _ _ _ _ _ _ h]
 simpa using hv
attribute [irreducible] Row
attribute [irreducible] SlL
end Go.Proofs.Ytobcdekochenfaa
namespace Go.Proofs.Ytobcdekochenfaa
open Go Go.RowKit
set_option linter.unusedVariables false
/-- what is no cells from B on lies as it lay -/
def KF (B : Nat) (W W' : World) : Prop := KeepsFrom B W W'
theorem KF.refl (B : Nat) (W : World) : KF B W W := KeepsFrom.refl B W
theorem KF.lt {B : Nat} {W W' : World} (h : KF B W W') : W.heap.size ≤ W'.heap.size := h.size
theorem KF.below {B : Nat} {W W1 W2 : World} (h : KF B W W1) (hb : Below W1.heap.size W1 W2) (_ : W.heap.size ≤ W1.heap.size) : KF B W W2 :=
 KeepsFrom.trans h ⟨hb.size, fun k _ _ hk _ => (hb.block k (Array.getElem?_eq_some_iff.1 hk).1).trans hk⟩
theorem KF.zw {B : Nat} {W W1 W2 : World} (h : KF B W W1) (hb : Below W1.heap.size W1 W2) : KF B W W2 := KF.below h hb (KF.lt h)
theorem KF.alloc {B : Nat} {W W1 : World} (h : KF B W W1) (o : Obj) : KF B W (W1.alloc o) := h.below (zal _ _) h.size
theorem KF.drew {B : Nat} {W W1 : World} (h : KF B W W1) : KF B W W1.drew := ⟨h.size, h.same⟩
theorem KF.rowOther {B : Nat} {W W1 : World} (h : KF B W W1) {k : Nat} {cs : Array Value} (e : k < B ∨ W.heap.size ≤ k) : KF B W (W1.setRow k cs) :=
 ⟨by simpa [World.setRow] using h.size, fun j o hB hj ho => by
  have hlt := (Array.getElem?_eq_some_iff.1 hj).1
  rw [setRow_other _ _ _ _ (by omega)]
  exact h.same j o hB hj ho⟩
theorem KF.grown {B : Nat} {W W1 W2 : World} {row : Option Nat} (h : KF B W W1) (hg : W1.grownBy W2 row) (hr : ∀ r, row = some r → ∃ cur t f, W1.heap[r]? = some (.cells cur t f)) : KF B W W2 :=
 KeepsFrom.trans h ⟨hg.size, fun k o _ hk ho => (hg.block k (Array.getElem?_eq_some_iff.1 hk).1 (fun e => by
  obtain ⟨cur, t, f, hc⟩ := hr k e.symm
  rw [hk] at hc; cases hc; cases ho)).trans hk⟩
/-- the block for deferred calls -/
def DF (W : World) (D : Nat) : Prop := W.heap[D]? = some (.deferred (some []))
theorem DF.lt {W : World} {D : Nat} (h : DF W D) : D < W.heap.size := (Array.getElem?_eq_some_iff.1 h).1
theorem DF.of {W W' : World} {D : Nat} (h : DF W D) (e : W'.heap[D]? = W.heap[D]?) : DF W' D := by unfold DF at *; rw [e]; exact h
theorem DF.below {W W' : World} {B D : Nat} (h : DF W D) (hb : Below B W W') (e : D < B) : DF W' D := h.of (hb.block D e)
theorem DF.zw {W W' : World} {D : Nat} (h : DF W D) (hb : Below W.heap.size W W') : DF W' D := DF.below h hb (DF.lt h)
theorem DF.alloc {W : World} {D : Nat} (h : DF W D) (o : Obj) : DF (W.alloc o) D := h.below (zal _ _) h.lt
theorem DF.drew {W : World} {D : Nat} (h : DF W D) : DF W.drew D := h
theorem DF.rowOther {W : World} {D k : Nat} {cs : Array Value} (h : DF W D) (e : D ≠ k) : DF (W.setRow k cs) D := h.of (setRow_other _ _ _ _ e)
theorem DF.grown {W W1 : World} {D : Nat} {row : Option Nat} (h : DF W D) (hg : W.grownBy W1 row) (hr : ∀ r, row = some r → ∃ cur t f, W.heap[r]? = some (.cells cur t f)) : DF W1 D :=
 h.of (hg.block D h.lt (fun e => by
  obtain ⟨cur, t, f, hc⟩ := hr D e.symm
  unfold DF at h
  rw [h] at hc; cases hc))
end Go.Proofs.Ytobcdekochenfaa
end
section
namespace Go.Proofs.Ytobcdekochenfaa
open Go Go.RowKit Go.Shelf
set_option linter.unusedVariables false
set_option linter.unusedSimpArgs false
attribute [local go_sem] Oper.semAt_some
/-- the numbers from a on, k of them -/
abbrev NumN (a k : Nat) := { N : Nat // N ∈ List.range' a k }
def vals {a k : Nat} (l : List (NumN a k)) : List Nat := l.map (·.1)
/-- the captured cells stay -/
def KpN (ba bb bp : Nat) (W W' : World) : Prop := W'.heap[ba]? = W.heap[ba]? ∧ W'.heap[bb]? = W.heap[bb]? ∧ W'.heap[bp]? = W.heap[bp]?
theorem KpN.refl (ba bb bp : Nat) (W : World) : KpN ba bb bp W W := ⟨rfl, rfl, rfl⟩
theorem KpN.trans {ba bb bp : Nat} {A B C : World} (h : KpN ba bb bp A B) (k : KpN ba bb bp B C) : KpN ba bb bp A C := ⟨k.1.trans h.1, k.2.1.trans h.2.1, k.2.2.trans h.2.2⟩
theorem KpN.put {ba bb bp : Nat} {w : World} (h0 : ba < w.heap.size) (h1 : bb < w.heap.size) (h2 : bp < w.heap.size) (W : World) (l : Nat) (o o' : Obj) (hl : w.heap.size ≤ l) (_ : W.heap[l]? = some o) (_ : o.isCells = false) (_ : o.isWalk = false) : KpN ba bb bp W (W.putObj l o') :=
 ⟨World.putObj_heap_other (by omega), World.putObj_heap_other (by omega), World.putObj_heap_other (by omega)⟩
theorem One.same {w w' : World} {b : Nat} {t : TypeId} {v : Value} (h : One w b t v) (h' : One w' b t v) : w'.heap[b]? = w.heap[b]? := by unfold One at *; rw [h, h']
end Go.Proofs.Ytobcdekochenfaa
end
section
namespace Go.Proofs.Ytobcdekochenfaa
open Go.RowKit
set_option linter.unusedVariables false
attribute [local irreducible] deg invN quoP resP
/-- the polynomial T -/
def TP : Nat → Nat := fun k => if k = 1 then 1 else 0
theorem TP_lt {p : Nat} (hp : 2 ≤ p) (k : Nat) : TP k < p := by unfold TP; split <;> omega
end Go.Proofs.Ytobcdekochenfaa
namespace Go.Proofs.Ytobcdekochenfaa
open Go Go.RowKit
set_option linter.unusedVariables false
set_option linter.unusedSimpArgs false
attribute [local irreducible] deg invN dS qS stp stpr quoP resP ofN dvo run monL TP
/-- the cells of a factor -/
def facC (f : Nat → Nat) (k : Nat) : List Value := bl 64 f ++ [.int .i64 (k : Int)]
theorem built_T : Try.prog.built 23 [(0, .int .u8 0), (1, .int .u8 1)] = some (zb 64 TP) := by unfold zb bl; kernel_rfl
def facRows (p : Nat) (L : List (Nat × Nat)) : List (List Value) := L.map fun x => facC (ofN p x.1) x.2
/-- the heap has at least n blocks -/
def SzG (n : Nat) (W : World) : Prop := n ≤ W.heap.size
theorem SzG.lt {n : Nat} {W : World} (h : SzG n W) : n ≤ W.heap.size := h
theorem SzG.below {n B : Nat} {W W' : World} (h : SzG n W) (hb : Below B W W') (_ : n ≤ W.heap.size) : SzG n W' := Nat.le_trans h hb.size
theorem SzG.zw {n : Nat} {W W' : World} (h : SzG n W) (hb : Below W.heap.size W W') : SzG n W' := SzG.below h hb (SzG.lt h)
theorem SzG.alloc {n : Nat} {W : World} (h : SzG n W) (o : Obj) : SzG n (W.alloc o) := h.below (zal _ _) h
theorem SzG.drew {n : Nat} {W : World} (h : SzG n W) : SzG n W.drew := h
theorem SzG.rowOther {n k : Nat} {W : World} {cs : Array Value} (h : SzG n W) (_ : 0 ≤ k) : SzG n (W.setRow k cs) := by unfold SzG at *; simpa [World.setRow] using h
theorem SzG.setOther {n : Nat} {W : World} {a : Addr} {v : Value} (h : SzG n W) (_ : 0 ≤ a.block) : SzG n (W.setCell a v) := by unfold SzG at *; simpa using h
end Go.Proofs.Ytobcdekochenfaa
namespace Go.Proofs.Ytobcdekochenfaa
open Go Go.RowKit
set_option linter.unusedVariables false
set_option linter.unusedSimpArgs false
attribute [local irreducible] deg invN dS qS stp stpr quoP resP ofN dvo run monL TP monUp monB
def FV (p : Nat) (n0 : Nat) (x : Nat × Nat) (l : List (Nat × Nat)) (y : Value) (w : World) : Prop := SlL w n0 149 65 y (facRows p (x :: l))
theorem FV.below {p n0 : Nat} {x : Nat × Nat} {l : List (Nat × Nat)} {y : Value} {w w' : World} (h : FV p n0 x l y w) (hb : Below w.heap.size w w') : FV p n0 x l y w' := SlL.below h hb h.lt
end Go.Proofs.Ytobcdekochenfaa
end
section
namespace Go.Proofs.Ytobcdekochenfaa
open Go Go.RowKit
set_option linter.unusedVariables false
/-- the blocks of w, those of S aside, are in w' as they were -/
def Kx (S : List Nat) (w w' : World) : Prop := w.heap.size ≤ w'.heap.size ∧ ∀ b, b < w.heap.size → b ∉ S → w'.heap[b]? = w.heap[b]?
theorem Kx.start (S : List Nat) (w : World) : Kx S w w.drew := ⟨Nat.le_refl _, fun _ _ _ => rfl⟩
theorem Kx.below {S : List Nat} {w w1 w2 : World} (h : Kx S w w1) (hy : Below w1.heap.size w1 w2) : Kx S w w2 :=
 ⟨Nat.le_trans h.1 hy.size, fun b hb hs => (hy.block b (Nat.lt_of_lt_of_le hb h.1)).trans (h.2 b hb hs)⟩
theorem Kx.alloc {S : List Nat} {w w1 : World} (h : Kx S w w1) (o : Obj) : Kx S w (w1.alloc o) := h.below (zal _ _)
theorem Kx.row {S : List Nat} {w w1 : World} (h : Kx S w w1) {s : Nat} (hs : s ∈ S) (cs : Array Value) : Kx S w (w1.setRow s cs) :=
 ⟨by simpa [World.setRow] using h.1, fun b hb hn => by rw [setRow_other _ _ _ _ (fun e => hn (by rw [e]; exact hs))]; exact h.2 b hb hn⟩
theorem Blk.kx {S : List Nat} {w w' : World} {b n : Nat} {t : TypeId} {f : Nat → Nat} (h : Blk w b n t f) (hX : Kx S w w') (hn : b ∉ S) : Blk w' b n t f := by
 have hl := h.lt
 unfold Blk at *; rw [hX.2 b hl hn]; exact h
theorem Row.kx {S : List Nat} {w w' : World} {b : Nat} {t : TypeId} {cs : Array Value} (h : Row w b t cs) (hX : Kx S w w') (hn : b ∉ S) : Row w' b t cs := h.of (hX.2 b h.lt hn)
theorem One.kx {S : List Nat} {w w' : World} {b : Nat} {t : TypeId} {v : Value} (h : One w b t v) (hX : Kx S w w') (hn : b ∉ S) : One w' b t v := h.of (hX.2 b h.lt hn)
end Go.Proofs.Ytobcdekochenfaa
end
section
namespace Go.Proofs.Ytobcdekochenfaa
open Go Go.RowKit
set_option linter.unusedVariables false
section
variable {P : Program}
theorem run_loadVar_any (w : World) (b n : Nat) (t ty : TypeId) (f : Nat → Nat) (hb : Blk w b n t f) (d : TypeDesc) (hu : P.underlying ty = some d) (hd : (match d with | .struct _ | .array _ _ => true | _ => false) = true) (hi : (P.info? ty).map (·.size) = some n) :
 (loadVar ty ⟨b, 0, none⟩).run P w = .ok (.agg (zb n f)) w := by
 have hb' : w.heap[b]? = some (.cells (zb n f) t (0, 0)) := by unfold Blk at hb; exact hb
 exact run_loadVar_row w b t ty _ (0, 0) d hb' hu hd (by rw [zbs]; exact hi)
theorem results_any {fn : Func} {p : Tmp} {ty : TypeId} (h : fn.results = #[.cell p ty]) (tmps : Array Value) (w : World) (b n : Nat) (t : TypeId) (f : Nat → Nat)
 (hp : tmps.getD p undef = .pointer (some ⟨b, 0, none⟩)) (hb : Blk w b n t f) (d : TypeDesc) (hu : P.underlying ty = some d) (hd : (match d with | .struct _ | .array _ _ => true | _ => false) = true) (hi : (P.info? ty).map (·.size) = some n) :
 (results fn tmps).run P w = .ok (.agg (zb n f)) w := by
 have hp' : tmps[p]?.getD undef = .pointer (some ⟨b, 0, none⟩) := by simpa using hp
 simp [results, h, hp', asAddr, run_loadVar_any w b n t ty f hb d hu hd hi]
theorem zrt {fn : Func} {p q : Tmp} {ty : TypeId} (h : fn.results = #[.cell p ty, .tmp q]) (tmps : Array Value) (w : World) (b n : Nat) (t : TypeId) (f : Nat → Nat)
 (hp : tmps.getD p undef = .pointer (some ⟨b, 0, none⟩)) (hb : Blk w b n t f) (d : TypeDesc) (hu : P.underlying ty = some d) (hd : (match d with | .struct _ | .array _ _ => true | _ => false) = true) (hi : (P.info? ty).map (·.size) = some n) :
 (results fn tmps).run P w = .ok (.tuple #[.agg (zb n f), tmps.getD q undef]) w := by
 have hp' : tmps[p]?.getD undef = .pointer (some ⟨b, 0, none⟩) := by simpa using hp
 simp [results, h, hp', asAddr, run_loadVar_any w b n t ty f hb d hu hd hi]
end
end Go.Proofs.Ytobcdekochenfaa
end
section
namespace Go.Proofs.Ytobcdekochenfaa
open Go Go.RowKit
set_option linter.unusedVariables false
set_option linter.unusedSimpArgs false
theorem One.setc {w : World} {b : Nat} {t : TypeId} {v x : Value} (h : One w b t v) : One (w.setCell ⟨b, 0, none⟩ x) b t x := by
 unfold One at *
 rw [heap_setCell_same _ _ _ _ _ _ h]; rfl
end Go.Proofs.Ytobcdekochenfaa
end
section
namespace Go.Proofs.Ytobcdekochenfaa
set_option linter.unusedVariables false
set_option linter.unusedSimpArgs false
/-- the same modulo p -/
def em (p a b : Int) : Prop := p ∣ a - b
/-- products over a list -/
def pl (l : List Nat) (f : Nat → Int) : Int := l.foldr (fun x a => f x * a) 1
/-- the leading place and coefficient -/
def ldc (p : Int) (f : Nat → Int) (n : Nat) (c : Int) : Prop := (∀ k, n < k → p ∣ f k) ∧ ¬ p ∣ c ∧ em p (f n) c
open Classical in
/-- the leading coefficient, 1 of nothing -/
noncomputable def lc (p : Int) (f : Nat → Int) : Int := if h : ∃ c, ∃ n, ldc p f n c then h.choose else 1
end Go.Proofs.Ytobcdekochenfaa
end
section
namespace Go.Proofs.Ytobcdekochenfaa
set_option linter.unusedVariables false
set_option linter.unusedSimpArgs false
/-- the digits of a number -/
def dg (p N : Nat) : Nat → Int := fun k => (ofN p N k : Int)
/-- the monic ones of lesser degrees -/
def ML (p : Nat) : Nat → List Nat
 | 0 => []
 | d + 1 => ML p d ++ monL p d
open Classical in
/-- the rest -/
noncomputable def rst (p d : Nat) (m f : Nat → Int) : Nat → Int := if h : ∃ g : Nat → Int, (∀ k, 0 ≤ g k ∧ g k < p) ∧ (∀ k, d ≤ k → g k = 0) ∧ rm p m f g then h.choose else zS
open Classical in
/-- the product of the leading coefficients -/
noncomputable def gs (p d : Nat) (m a : Nat → Int) : Int := pl (ML p d) fun N => lc p (rst p d m (mz a (dg p N)))
end Go.Proofs.Ytobcdekochenfaa
end
section
namespace Go.Proofs.Ytobcdekochenfaa
set_option linter.unusedVariables false
/-- row i of the companion matrix -/
def cmS (p n : Nat) (a : Nat → Nat) : Nat → Nat → Nat := fun i j =>
 if i + 1 < n then (if j = i + 1 then 1 else 0) else if i + 1 = n then (if j < n then (p - a j) % p else 0) else 0
theorem cm_above {x : Nat → Nat} {n k : Nat} (h : deg x < (n : Int)) (hk : n ≤ k) (hk2 : k < 64) : x k = 0 := by
 rcases deg_spec x with ⟨h1, h2⟩ | ⟨d, h1, h2, h3, h4⟩
 · exact h2 k hk2
 · exact h4 k (by omega) hk2
theorem prd_shift {p : Nat} {t g : Nat → Nat} (hp : 2 ≤ p) (h0 : t 0 = 0) (h1 : t 1 = 1) (hz : ∀ i, 2 ≤ i → i < 64 → t i = 0) (hg : ∀ k, k < 64 → g k < p) : ∀ k, k < 64 → prd p t g k = if k = 0 then 0 else g (k - 1) := by
 intro k hk
 rw [prd_rows (by omega) (n := 2) (by omega) hz, cv_succ, cv_succ, cv_zero, cut_in t (by decide), cut_in t (by decide), h0, h1]
 by_cases e : k = 0
 · subst e; simp
 · rw [if_neg e, if_pos (Nat.zero_le _), if_pos (by omega), Nat.zero_mul, Nat.one_mul, cut_in g (by omega)]
   have := hg (k - 1) (by omega)
   simp [Nat.mod_eq_of_lt this]
theorem cm_row {p n i : Nat} {t a : Nat → Nat} (hp : p = 2 ∨ p = 3 ∨ p = 5 ∨ p = 7) (h0 : t 0 = 0) (h1 : t 1 = 1) (hz : ∀ i, 2 ≤ i → i < 64 → t i = 0) (la : ∀ k, k < 64 → a k < p) (hm : mon a n) (n6 : n ≤ 6) (hi : i < n) :
 ∀ j, j < 6 → resP p (prd p t (upd (fun _ => 0) i 1)) a j = cmS p n a i j := by
 intro j hj
 have p2 : 2 ≤ p := by omega
 have lx : ∀ k, k < 64 → prd p t (upd (fun _ => 0) i 1) k < p := fun k _ => prd_lt (by omega) k
 have hx : ∀ k, k < 64 → prd p t (upd (fun _ => 0) i 1) k = if k = i + 1 then 1 else 0 := by
  intro k hk
  rw [prd_shift p2 h0 h1 hz (fun k _ => by unfold upd; split <;> first | omega | (show 0 < p; omega)) k hk]
  unfold upd
  by_cases e : k = 0
  · subst e; simp
  · rw [if_neg e]
    by_cases e2 : k = i + 1
    · subst e2; simp
    · rw [if_neg e2, if_neg (by omega)]
 obtain ⟨x, hxe⟩ : ∃ x, x = prd p t (upd (fun _ => 0) i 1) := ⟨_, rfl⟩
 rw [← hxe] at lx hx ⊢
 clear hxe
 have hd := hm.1
 by_cases c : i + 1 < n
 · have h2 : deg x < deg a := by
    have := deg_le (f := x) (d := ((i + 1 : Nat) : Int)) (by omega) (fun k hk hk2 => by rw [hx k hk2, if_neg (by omega)])
    omega
   rw [resP_small (by omega) lx h2 j (by omega), hx j (by omega)]
   unfold cmS
   rw [if_pos c]
 · have hin : i + 1 = n := by omega
   have hr := resP_deg hp lx la (by omega)
   have hl := resP_lt (p := p) (b := a) (by omega) lx
   have hup : ∀ k, n ≤ k → k < 64 → resP p x a k = 0 := fun k hk hk2 => cm_above (n := n) (by omega) hk hk2
   have hu := rm_unique (p := (p : Int)) (m := lz a) (f := lz (resP p x a)) (g := fun k => if k < n then -(a k : Int) else 0) (d := n) (v := 1)
    (by rw [(mon_S hm).1]; exact ⟨0, by omega⟩) (mon_S hm).2
    (fun k hk => by
     rw [if_neg (by omega)]
     unfold lz cut
     by_cases hk2 : k < 64
     · rw [if_pos hk2, hup k hk hk2]; exact ⟨0, by simp⟩
     · rw [if_neg hk2]; exact ⟨0, by simp⟩)
    (rm_trans (rm_symm (res_rm hp lx la (by omega))) ⟨oneS, fin_oneS, fun k => by
     rw [show mz oneS (lz a) = lz a from mz_one _]
     refine ⟨0, ?_⟩
     show lz x k - (if k < n then -(a k : Int) else 0) - lz a k = _
     by_cases h64 : k < 64
     · unfold lz cut
       rw [if_pos h64, if_pos h64, hx k h64]
       by_cases c1 : k < n
       · rw [if_pos c1, if_neg (by omega)]; simp
       · rw [if_neg c1]
         by_cases c2 : k = n
         · subst c2; rw [if_pos hin.symm, hm.2]; simp
         · rw [if_neg (by omega), cm_above (x := a) (n := n + 1) (by omega) (by omega) h64]; simp
     · unfold lz cut
       rw [if_neg h64, if_neg h64, if_neg (by omega)]; simp⟩)
   unfold cmS
   rw [if_neg c, if_pos hin]
   by_cases hjn : j < n
   · rw [if_pos hjn]
     have := hu j
     simp only [if_pos hjn] at this
     unfold lz cut at this
     rw [if_pos (by omega)] at this
     have h3 := hl j (by omega)
     have h4 := la j (by omega)
     obtain ⟨r, hr⟩ : ∃ r, r = resP p x a j := ⟨_, rfl⟩
     obtain ⟨b, hb⟩ : ∃ b, b = a j := ⟨_, rfl⟩
     rw [← hr] at this h3 ⊢
     rw [← hb] at this h4 ⊢
     rcases hp with rfl | rfl | rfl | rfl <;> omega
   · rw [if_neg hjn]; exact hup j (by omega) (by omega)
/-- the model's matrix behind some rounds -/
def cmT (p n : Nat) (a : Nat → Nat) (j r c : Nat) : Nat := if r + 1 < n then (if c = r + 1 ∧ r < j then 1 else 0) else if r + 1 = n then (if c < j then (p - a c) % p else 0) else 0
theorem cmT_z (p n : Nat) (a : Nat → Nat) (r c : Nat) : cmT p n a 0 r c = 0 := by
 unfold cmT
 rw [if_neg (show ¬ (c = r + 1 ∧ r < 0) by omega), if_neg (show ¬ c < 0 by omega)]
 split <;> (try split) <;> rfl
theorem cmT_last {p n M j r c : Nat} {a : Nat → Nat} (hM : M + 1 = n) (hc : c < 6) (h : r ≠ M ∨ c ≠ j) (h2 : r ≠ j ∨ c ≠ j + 1 ∨ r = M) : cmT p n a (j + 1) r c = cmT p n a j r c := by
 unfold cmT
 by_cases h3 : r + 1 < n
 · rw [if_pos h3, if_pos h3]
   by_cases h4 : c = r + 1 ∧ r < j
   · rw [if_pos h4, if_pos (by omega)]
   · rw [if_neg h4, if_neg (by omega)]
 · rw [if_neg h3, if_neg h3]
   by_cases h4 : r + 1 = n
   · rw [if_pos h4, if_pos h4]
     by_cases h5 : c < j
     · rw [if_pos h5, if_pos (by omega)]
     · rw [if_neg h5, if_neg (by omega)]
   · rw [if_neg h4, if_neg h4]
theorem cmT_in {p n M j Q : Nat} {a f : Nat → Nat} (hM : M + 1 = n) (hj : j < M) (hQ : Q = j + 1) (h : ∀ k, k < 36 → f k = cmT p n a j (k / 6) (k % 6)) : ∀ k, k < 36 → upd (upd f (j * 6 + Q) 1) (M * 6 + j) ((p - a j) % p) k = cmT p n a Q (k / 6) (k % 6) := by
 intro k hk
 subst hQ
 by_cases e1 : k = M * 6 + j
 · have hr : k / 6 = M := by omega
   have hc : k % 6 = j := by omega
   rw [hr, hc]
   unfold upd cmT
   rw [if_pos e1, if_neg (by omega), if_pos (by omega), if_pos (by omega)]
 · by_cases e2 : k = j * 6 + (j + 1)
   · have hr : k / 6 = j := by omega
     have hc : k % 6 = j + 1 := by omega
     rw [hr, hc]
     unfold upd cmT
     rw [if_neg e1, if_pos e2, if_pos (by omega), if_pos (by omega)]
   · rw [cmT_last hM (by omega) (by omega) (by omega), ← h k hk]
     unfold upd
     rw [if_neg e1, if_neg e2]
theorem cmT_end {p n M j Q : Nat} {a f : Nat → Nat} (hM : M + 1 = n) (n6 : n ≤ 6) (hj : j = M) (hQ : Q = j + 1) (h : ∀ k, k < 36 → f k = cmT p n a j (k / 6) (k % 6)) : ∀ k, k < 36 → upd f (M * 6 + j) ((p - a j) % p) k = cmT p n a Q (k / 6) (k % 6) := by
 intro k hk
 subst hQ
 by_cases e1 : k = M * 6 + j
 · have hr : k / 6 = M := by omega
   have hc : k % 6 = j := by omega
   rw [hr, hc]
   unfold upd cmT
   rw [if_pos e1, if_neg (by omega), if_pos (by omega), if_pos (by omega)]
 · rw [cmT_last hM (by omega) (by omega) (by omega), ← h k hk]
   unfold upd
   rw [if_neg e1]
theorem cmT_at {p n M j : Nat} {a : Nat → Nat} (hM : M + 1 = n) (hj : j < n) (n6 : n ≤ 6) : cmT p n a j ((M * 6 + j) / 6) ((M * 6 + j) % 6) = 0 := by
 rw [show (M * 6 + j) / 6 = M by omega, show (M * 6 + j) % 6 = j by omega]
 unfold cmT
 rw [if_neg (by omega), if_pos hM, if_neg (by omega)]
theorem cmT_n (p n : Nat) (a : Nat → Nat) (r c : Nat) : cmT p n a n r c = cmS p n a r c := by
 unfold cmT cmS
 by_cases h : r + 1 < n
 · rw [if_pos h, if_pos h]
   by_cases h2 : c = r + 1
   · rw [if_pos h2, if_pos (by omega)]
   · rw [if_neg h2, if_neg (by omega)]
 · rw [if_neg h, if_neg h]
end Go.Proofs.Ytobcdekochenfaa
end
section
namespace Go.Proofs.Ytobcdekochenfaa
open Go Go.RowKit
set_option linter.unusedVariables false
set_option linter.unusedSimpArgs false
set_option maxRecDepth 100000 in
set_option maxHeartbeats 1600000 in
theorem eqRow_same (f g : Nat → Nat) (hfg : ∀ i, i < 6 → f i = g i) (w : World) : Calls Try.prog 61 #[.agg (zb 6 f), .agg (zb 6 g)] w fun e w' => e = .returned (.bool true) ∧ Below w.heap.size w w' := by
 rw [zbc (fun i hi => (hfg i hi).symm)]
 go_enter Try.func61, Try.ntmps61
 go_wp2_with fail
 clear hfg
 go_loopw [5] (fun i wr => ∃ k : Nat, k ≤ 6 ∧ i = .int .i64 (k : Int) ∧ Below w.heap.size w wr ∧ Blk wr w.heap.size 6 64 f ∧ Blk wr (w.heap.size + 1) 6 64 f) (fun i _ => 6 - (intOf i).toNat)
 case atStart =>
  refine ⟨0, by omega, rfl, ((Below.refl _ _).alloc (Nat.le_refl _) _).alloc (by simp) _, (Blk.new w _ _ _).alloc _, ?_⟩
  have := Blk.new (w.alloc (.cells (zb 6 f) 64)) 6 64 f; simpa using this
 case round =>
  obtain ⟨k, hk, rfl, hb, h0, h1⟩ := hrel
  by_cases hlt : k < 6
  · have c4 := h0.cell hlt
    have c5 := h1.cell hlt
    have hk0 : (0 : Int) ≤ (k : Int) := by omega
    have hk1 : (k : Int) < 6 := by omega
    have hne : ((f k : Int) != (f k : Int)) = false := by simp
    go_wp2_with fail
    go_quiet (fail)
    go_wp2_with fail
    go_roundw
    case rel => exact ⟨k + 1, by omega, by go_num, below_drewN' hb _, h0.drewN _, h1.drewN _⟩
    case measure => simp [intOf]; omega
  · go_wp2_with fail
    go_ret
    exact ⟨rfl, hb⟩

set_option maxRecDepth 100000 in
set_option maxHeartbeats 1600000 in
theorem eqSquare_same (F G : Nat → Nat → Nat) (hFG : ∀ i, i < 6 → ∀ j, j < 6 → F i j = G i j) (w : World) : Calls Try.prog 56 #[.agg (zb 36 (fl 6 F)), .agg (zb 36 (fl 6 G))] w fun e w' => e = .returned (.bool true) ∧ Below w.heap.size w w' := by
 have HE := Lib.hid (fun i (hi : i < 6) W => eqRow_same (F i) (G i) (hFG i hi) W)
 go_enter Try.func56, Try.ntmps56
 go_upto_region 1 with (fail)
 obtain ⟨W1, hwo⟩ : ∃ v : World, v = ((w.alloc (.cells (zb 36 (fl 6 F)) 66)).alloc (.cells (zb 36 (fl 6 G)) 66)) := ⟨_, rfl⟩
 have B0 : Blk W1 (w.heap.size) 36 66 (fl 6 F) := by subst hwo; have := ((Blk.new w 36 66 (fl 6 F)).alloc (.cells (zb 36 (fl 6 G)) 66)); simpa using this
 have B1 : Blk W1 (w.heap.size + 1) 36 66 (fl 6 G) := by subst hwo; have := (Blk.new (w.alloc (.cells (zb 36 (fl 6 F)) 66)) 36 66 (fl 6 G)); simpa using this
 have hb : Below w.heap.size w W1 := by subst hwo; exact (((Below.refl _ _).alloc (Nat.le_refl _) _).alloc (by simp) _)
 rw [← hwo]
 clear hwo
 go_wp2_with fail
 go_loopw [5] (fun c wr => ∃ j : Nat, c = .int .i64 (j : Int) ∧ j ≤ 6 ∧ Below w.heap.size w wr ∧ Blk wr (w.heap.size) 36 66 (fl 6 F) ∧ Blk wr (w.heap.size + 1) 36 66 (fl 6 G)) (fun c _ => 6 - (intOf c).toNat)
 case atStart => exact ⟨0, rfl, by omega, hb, B0, B1⟩
 case round =>
  clear hb B0 B1
  obtain ⟨j, rfl, hj8, hb, B0, B1⟩ := hrel
  by_cases hj : j < 6
  · have hjI : (j : Int) < 6 := by omega
    have HE2 := Lib.hid (HE.out j hj)
    go_upto_region 4 with (fail)
    refine zq Try.mixed (by kernel_rfl) (by kernel_rfl) (fun v => by (simp only [frL, Act.put, pA, pB, pC, Nat.reduceAdd, Nat.zero_add]; exact rfl))
     (fun L v W2 => Below wr.heap.size wr W2 ∧ VF L v [some (.int .i64 (j : Int)), some (.pointer (some ⟨w.heap.size, j * 6, none⟩)), some (.agg (zb 6 (F j))), some (.int .i64 (j : Int)), some (.pointer (some ⟨w.heap.size + 1, j * 6, none⟩)), some (.agg (zb 6 (G j))), some (.bool true), some (.bool false)]) ?_ ?_ ?_
    · intro v hv0
      exact ⟨(Below.refl _ wr).drew, VF.start⟩
    · refine (.cons rfl ?_ (.cons rfl ?_ (.cons rfl ?_ (.cons rfl ?_ (.cons rfl ?_ (.cons rfl ?_ (.cons rfl ?_ (.cons rfl ?_ (.nil _)))))))))
      all_goals intro L v W2 hd hn ⟨hY, V⟩ K hK
      · go_wp2_with fail
        exact hK _ (.int .i64 (j : Int)) _ (by simp only [Act.put, pA, pB, pC ]) ⟨hY, V.step 0 rfl⟩
      · have e0 := V.at (zdq hd 0 rfl) rfl
        go_wp2_with fail
        exact hK _ (.pointer (some ⟨w.heap.size, j * 6, none⟩)) _ (by simp only [Act.put, pA, pB, pC, e0]) ⟨hY, V.step 1 rfl⟩
      · have e1 := V.at (zdq hd 1 rfl) rfl
        refine wp_load_mid 64 _ rfl _ (j * 6) e1 _ _ (((B0.zw hY)).sq (i := j) (by omega)) Try.underlying64 rfl (by rw [zl]; exact Try.size64) ?_
        exact hK _ _ _ rfl ⟨hY, V.step 2 rfl⟩
      · go_wp2_with fail
        exact hK _ (.int .i64 (j : Int)) _ (by simp only [Act.put, pA, pB, pC ]) ⟨hY, V.step 3 rfl⟩
      · have e3 := V.at (zdq hd 3 rfl) rfl
        go_wp2_with fail
        exact hK _ (.pointer (some ⟨w.heap.size + 1, j * 6, none⟩)) _ (by simp only [Act.put, pA, pB, pC, e3]) ⟨hY, V.step 4 rfl⟩
      · have e4 := V.at (zdq hd 4 rfl) rfl
        refine wp_load_mid 64 _ rfl _ (j * 6) e4 _ _ (((B1.zw hY)).sq (i := j) (by omega)) Try.underlying64 rfl (by rw [zl]; exact Try.size64) ?_
        exact hK _ _ _ rfl ⟨hY, V.step 5 rfl⟩
      · have e2 := V.at (zdq hd 2 rfl) rfl
        have e5 := V.at (zdq hd 5 rfl) rfl
        go_wp2_with (go_at_call 61; refine (HE2.out _).mono ?_; rintro e wy ⟨rfl, hy⟩)
        exact hK _ (.bool true) _ (by simp only [Act.put, pA, pB, pC, e2, e5]) ⟨hY.trans (hy.mono hY.size), V.step 6 rfl⟩
      · have e6 := V.at (zdq hd 6 rfl) rfl
        go_wp2_with fail
        exact hK _ (.bool false) _ (by simp only [Act.put, pA, pB, pC, e6]) ⟨hY, V.step 7 rfl⟩
    · intro L v W2 hL ⟨hY, V⟩
      have e0 := V.at (hL 0 (by decide)) rfl
      have e1 := V.at (hL 1 (by decide)) rfl
      have e2 := V.at (hL 2 (by decide)) rfl
      have e3 := V.at (hL 3 (by decide)) rfl
      have e4 := V.at (hL 4 (by decide)) rfl
      have e5 := V.at (hL 5 (by decide)) rfl
      have e6 := V.at (hL 6 (by decide)) rfl
      have e7 := V.at (hL 7 (by decide)) rfl
      clear hL V
      replace B0 := B0.zw hY
      replace B1 := B1.zw hY
      replace hb := hb.trans (hY.mono hb.size)
      clear hY
      simp only [Exit.then, e0, e1, e2, e3, e4, e5, e6, e7]
      clear e0 e1 e2 e3 e4 e5 e6 e7
      go_wp2_with fail
      go_roundw
      case rel => exact ⟨j + 1, by go_num, by omega, hb, B0, B1⟩
      case measure => simp [intOf] <;> omega
  · have hjI : ¬ (j : Int) < 6 := by omega
    go_wp2_with fail
    go_ret
    exact ⟨rfl, hb⟩
set_option maxRecDepth 100000 in
set_option maxHeartbeats 1600000 in
theorem rowOfPoly_any (f : Nat → Nat) (w : World) : Calls Try.prog 126 #[.agg (zb 64 f)] w fun e w' => e = .returned (.agg (zb 6 f)) ∧ Below w.heap.size w w' := by
 have hsl : ∀ (b : Nat) (w : World), (Instr.sliceAt 23 (.pointer (some ⟨b, 0, none⟩)) none (some (.int .i64 6)) none).run Try.prog w = .ok (.slice (some ⟨b, 0, none⟩) 6 64) w := fun b w => by
  have hs := Try.size5
  simp only [Instr.sliceAt, Sem.run_bind, run_underlying Try.underlying23 w]
  simp [Instr.sliceBounds, Instr.sliceBound, Instr.sureAddr, asIntOf, sizeOf, typeInfo, Sem.run_bind, go_sem]
  cases hq : Try.prog.info? 5 with
  | none => rw [hq] at hs; cases hs
  | some i => rfl
 have har : ∀ (b : Nat) (w : World), (Instr.arrayAt 64 (.slice (some ⟨b, 0, none⟩) 6 64)).run Try.prog w = .ok (.pointer (some ⟨b, 0, none⟩)) w := fun b w => by
  simp [Instr.arrayAt, Sem.run_bind, run_underlying Try.underlying64 w]
 go_enter Try.func126, Try.ntmps126
 go_upto_region 1 with (fail)
 rw [← zero6]
 obtain ⟨W1, hwo⟩ : ∃ v : World, v = ((w.alloc (.cells (zb 64 (f)) 23)).alloc (.cells (zb 6 (fun _ => 0)) 64)) := ⟨_, rfl⟩
 have B0 : Blk W1 (w.heap.size) 64 23 (f) := by subst hwo; have := ((Blk.new w 64 23 (f)).alloc (.cells (zb 6 (fun _ => 0)) 64)); simpa using this
 have B1 : Blk W1 (w.heap.size + 1) 6 64 (fun _ => 0) := by subst hwo; have := (Blk.new (w.alloc (.cells (zb 64 (f)) 23)) 6 64 (fun _ => 0)); simpa using this
 have hb : Below w.heap.size w W1 := by subst hwo; exact (((Below.refl _ _).alloc (Nat.le_refl _) _).alloc (by simp) _)
 rw [← hwo]
 clear hwo
 have lt_B0 := B0.lt
 have lt_B1 := B1.lt
 go_wp2_with (first | rw [← z64] | rw [← zero6] | (refine wpList_load_mid rfl 64 (.tmp 4) rfl _ 0 rfl (bl 6 (f)) _ ((B0).mid (by omega) (fun k _ => by rw [Nat.zero_add])) Try.underlying64 rfl (by rw [zl]; exact Try.size64) ?_) | (refine zsr (.tmp 2) (.tmp 5) (f) B1 Try.size64 ?_; try simp only [Act.put]))
 obtain ⟨W2, hwo, hzQ⟩ : ∃ v : World, v = (W1.setRow (w.heap.size + 1) (zb 6 (f))) ∧ Blk v (w.heap.size) 64 23 (f) ∧ Blk v (w.heap.size + 1) 6 64 (f) ∧ Below w.heap.size w v := ⟨_, rfl, (B0.rowOther (by omega)), (B1.row (f)), (zr hb (by omega) _)⟩
 rw [← hwo]
 clear hwo B0 B1 hb
 obtain ⟨B0, B1, hb⟩ := hzQ
 try simp only [Act.put, pA, pB, pC]
 refine bodyPost_ret (results_any rfl _ _ _ 6 _ _ rfl B1 _ Try.underlying64 rfl Try.size64) rfl ⟨rfl, hb⟩
attribute [local irreducible] deg resP prd cmS
set_option maxRecDepth 100000 in
set_option maxHeartbeats 1600000 in
theorem shift_any (p : Nat) (a x : Nat → Nat) (bp bq : Nat) (w : World) (hpr : p = 2 ∨ p = 3 ∨ p = 5 ∨ p = 7) (la : ∀ k, k < 64 → a k < p) (h0 : 0 ≤ deg a) (lx : ∀ k, k < 64 → x k < p) (B0 : One w bp 2 (.int .i64 (p : Int))) (B1 : Blk w bq 64 23 a) :
 Calls Try.prog 115 #[.agg (zb 64 x), .pointer (some ⟨bp, 0, none⟩), .pointer (some ⟨bq, 0, none⟩)] w fun e w' => e = .returned (.agg (zb 64 (resP p (prd p TP x) a))) ∧ Below w.heap.size w w' := by
 have HPR := Lib.hid (fun W => product_any p TP x W (by omega) (by omega) (fun k _ => TP_lt (by omega) k) lx)
 have HRO := Lib.hid (fun W => restOf_any p (prd p TP x) a W hpr (fun k _ => prd_lt (by omega) k) la h0)
 clear hpr la h0 lx
 have zx_0 := B0.lt
 have zx_1 := B1.lt
 go_enter Try.func115, Try.ntmps115
 go_upto_region 1 with (fail)
 rw [← z64]
 obtain ⟨W1, hwo⟩ : ∃ v : World, v = ((w.alloc (.cells (zb 64 (x)) 23)).alloc (.cells (zb 64 (fun _ => 0)) 23)) := ⟨_, rfl⟩
 have B2 : Blk W1 (w.heap.size) 64 23 (x) := by subst hwo; have := ((Blk.new w 64 23 (x)).alloc (.cells (zb 64 (fun _ => 0)) 23)); simpa using this
 have B3 : Blk W1 (w.heap.size + 1) 64 23 (fun _ => 0) := by subst hwo; have := (Blk.new (w.alloc (.cells (zb 64 (x)) 23)) 64 23 (fun _ => 0)); simpa using this
 replace B0 : One W1 (bp) 2 (.int .i64 (p : Int)) := by subst hwo; exact ((B0.alloc (.cells (zb 64 (x)) 23)).alloc (.cells (zb 64 (fun _ => 0)) 23))
 replace B1 : Blk W1 (bq) 64 23 (a) := by subst hwo; exact ((B1.alloc (.cells (zb 64 (x)) 23)).alloc (.cells (zb 64 (fun _ => 0)) 23))
 have hb : Below w.heap.size w W1 := by subst hwo; exact (((Below.refl _ _).alloc (Nat.le_refl _) _).alloc (by simp) _)
 rw [← hwo]
 clear hwo
 have lt_B0 : (bp) < W1.heap.size := B0.lt
 have lt_B1 : (bq) < W1.heap.size := B1.lt
 have lt_B2 : (w.heap.size) < W1.heap.size := B2.lt
 have lt_B3 : (w.heap.size + 1) < W1.heap.size := B3.lt
 have hbase : w.heap.size ≤ W1.heap.size := hb.size
 refine zq Try.mixed (by kernel_rfl) (by kernel_rfl) (fun v => by (simp only [frL, Act.put, pA, pB, pC, Nat.reduceAdd, Nat.zero_add]; exact rfl))
  (fun L v W2 => Below w.heap.size w W2 ∧ Kx [w.heap.size + 1] W1 W2 ∧ (∃ g, Blk W2 (w.heap.size + 1) 64 23 (g)) ∧ (L 7 = false → Blk W2 (w.heap.size + 1) 64 23 (fun _ => 0)) ∧ (L 7 = true → Blk W2 (w.heap.size + 1) 64 23 (resP p (prd p TP x) a)) ∧ VF L v [some (.int .i64 (p : Int)), some (.int .i64 (p : Int)), some (.agg (zb 64 (TP))), some (.agg (zb 64 (x))), some (.agg (zb 64 (prd p TP x))), some (.agg (zb 64 (a))), some (.agg (zb 64 (resP p (prd p TP x) a))), none]) ?_ ?_ ?_
 · intro v hv0
   exact ⟨hb.drew, Kx.start _ _, ⟨_, B3.drew⟩, (fun _ => B3.drew), (fun h => by cases h), VF.start⟩
 · refine (.cons rfl ?_ (.cons rfl ?_ (.cons rfl ?_ (.cons rfl ?_ (.cons rfl ?_ (.cons rfl ?_ (.cons rfl ?_ (.cons rfl ?_ (.nil _)))))))))
   all_goals intro L v W2 hd hn ⟨hB, hX, x3, q3, n3, V⟩ K hK
   · have cc := (B0.kx hX (by simp <;> omega)).cell
     go_wp2_with fail
     exact hK _ (.int .i64 (p : Int)) _ (by simp only [Act.put, pA, pB, pC ]) ⟨hB, hX, x3, q3, n3, V.step 0 rfl⟩
   · have cc := (B0.kx hX (by simp <;> omega)).cell
     go_wp2_with fail
     exact hK _ (.int .i64 (p : Int)) _ (by simp only [Act.put, pA, pB, pC ]) ⟨hB, hX, x3, q3, n3, V.step 1 rfl⟩
   · refine wp_build_of 23 _ rfl (zb 64 TP) (by rw [Array.toList_map]; exact built_T) ?_
     exact hK _ _ _ rfl ⟨hB, hX, x3, q3, n3, V.step 2 rfl⟩
   · refine wp_load_any 23 _ rfl _ rfl 64 23 _ (B2.kx hX (by simp <;> omega)) _ Try.underlying23 rfl Try.size23 ?_
     exact hK _ _ _ rfl ⟨hB, hX, x3, q3, n3, V.step 3 rfl⟩
   · have e1 := V.at (zdq hd 1 rfl) rfl
     have e2 := V.at (zdq hd 2 rfl) rfl
     have e3 := V.at (zdq hd 3 rfl) rfl
     go_wp2_with (go_at_call 117; refine (HPR.out _).mono ?_; rintro e wy ⟨rfl, hy⟩)
     exact hK _ (.agg (zb 64 (prd p TP x))) _ (by simp only [Act.put, pA, pB, pC, e1, e2, e3]) ⟨hB.trans (hy.mono hB.size), hX.below hy, (let ⟨g, h⟩ := x3; ⟨g, h.zw hy⟩), (fun h => (q3 h).below hy (q3 h).lt), (fun h => (n3 h).below hy (n3 h).lt), V.step 4 rfl⟩
   · refine wp_load_any 23 _ rfl _ rfl 64 23 _ (B1.kx hX (by simp <;> omega)) _ Try.underlying23 rfl Try.size23 ?_
     exact hK _ _ _ rfl ⟨hB, hX, x3, q3, n3, V.step 5 rfl⟩
   · have e0 := V.at (zdq hd 0 rfl) rfl
     have e4 := V.at (zdq hd 4 rfl) rfl
     have e5 := V.at (zdq hd 5 rfl) rfl
     go_wp2_with (go_at_call 116; refine (HRO.out _).mono ?_; rintro e wy ⟨rfl, hy⟩)
     exact hK _ (.agg (zb 64 (resP p (prd p TP x) a))) _ (by simp only [Act.put, pA, pB, pC, e0, e4, e5]) ⟨hB.trans (hy.mono hB.size), hX.below hy, (let ⟨g, h⟩ := x3; ⟨g, h.zw hy⟩), (fun h => (q3 h).below hy (q3 h).lt), (fun h => (n3 h).below hy (n3 h).lt), V.step 6 rfl⟩
   · have e6 := V.at (zdq hd 6 rfl) rfl
     obtain ⟨gz, hk⟩ := x3
     refine zsb 23 _ _ rfl _ 64 (resP p (prd p TP x) a) rfl e6 23 gz hk Try.size23 ?_
     exact hK _ undef _ rfl ⟨zr hB (by omega) _, hX.row (by simp) _, ⟨_, hk.row _⟩, (fun h => absurd h (by simp [setL])), (fun _ => hk.row _), V.skip 7 rfl⟩
 · intro L v W2 hL ⟨hB, hX, x3, q3, n3, V⟩
   have r3 := n3 (hL 7 (by decide))
   have e0 := V.at (hL 0 (by decide)) rfl
   have e1 := V.at (hL 1 (by decide)) rfl
   have e2 := V.at (hL 2 (by decide)) rfl
   have e3 := V.at (hL 3 (by decide)) rfl
   have e4 := V.at (hL 4 (by decide)) rfl
   have e5 := V.at (hL 5 (by decide)) rfl
   have e6 := V.at (hL 6 (by decide)) rfl
   clear hL x3 q3 n3 V
   replace B0 := B0.kx hX (by simp <;> omega)
   replace B1 := B1.kx hX (by simp <;> omega)
   replace B2 := B2.kx hX (by simp <;> omega)
   clear hX
   simp only [Exit.then, e0, e1, e2, e3, e4, e5, e6]
   clear e0 e1 e2 e3 e4 e5 e6
   replace B3 := r3
   clear r3
   replace hb := hB
   clear hB
   clear hbase lt_B0 lt_B1 lt_B2 lt_B3
   go_wp2_with fail
   refine bodyPost_ret (results_any rfl _ _ _ 64 _ _ rfl B3 _ Try.underlying23 rfl Try.size23) rfl ⟨rfl, hb⟩
set_option maxRecDepth 100000 in
set_option maxHeartbeats 1600000 in
theorem squareOf_any (p n : Nat) (a : Nat → Nat) (b1 b2 : Nat) (w : World) (hpr : p = 2 ∨ p = 3 ∨ p = 5 ∨ p = 7) (la : ∀ k, k < 64 → a k < p) (hm : mon a n) (n1 : 1 ≤ n) (n6 : n ≤ 6) (B0 : One w b1 2 (.int .i64 (p : Int))) (B1 : Blk w b2 64 23 a) :
 Calls Try.prog 118 #[.int .i64 (n : Int), .func (.func 115) #[] #[.pointer (some ⟨b1, 0, none⟩), .pointer (some ⟨b2, 0, none⟩)]] w fun e w' => e = .returned (.agg (zb 36 (fl 6 (cmS p n a)))) ∧ Below w.heap.size w w' := by
 have HSH := Lib.hid (fun j W (hW : Below w.heap.size w W) => shift_any p a (upd (fun _ => 0) j 1) b1 b2 W hpr la (by rw [hm.1]; omega) (fun k _ => by unfold upd; split <;> first | omega | (show 0 < p; omega)) (B0.zw hW) (B1.zw hW))
 have HU := Lib.hid (fun j (hj : j < n) (G : Nat → Nat → Nat) (hG : ∀ i, i < 6 → ∀ c, c < 6 → G i c = if i < j then cmS p n a i c else 0) => show ∀ i, i < 6 → ∀ c, c < 6 → updR G j (resP p (prd p TP (upd (fun _ => 0) j 1)) a) i c = if i < j + 1 then cmS p n a i c else 0 from fun i hi c hc => by
  by_cases e : i = j
  · subst e
    rw [updR_same, if_pos (by omega)]
    exact cm_row hpr (by unfold TP; decide) (by unfold TP; decide) (fun i h1 h2 => by unfold TP; rw [if_neg (by omega)]) la hm n6 hj c hc
  · rw [updR_other e, hG i hi c hc]
    by_cases h : i < j
    · rw [if_pos h, if_pos (by omega)]
    · rw [if_neg h, if_neg (by omega)])
 have HV := Lib.hid (fun (G : Nat → Nat → Nat) (hG : ∀ i, i < 6 → ∀ c, c < 6 → G i c = if i < n then cmS p n a i c else 0) => zbc (n := 36) (fl_congr (n := 6) (c := 6) (F := G) (G := cmS p n a) (by decide) (fun i hi j hj => by
  rw [hG i hi j hj]
  by_cases h : i < n
  · rw [if_pos h]
  · rw [if_neg h]; unfold cmS; rw [if_neg (by omega), if_neg (by omega)])))
 clear hpr la hm
 go_enter Try.func118, Try.ntmps118
 go_upto_region 1 with (fail)
 rw [← zero36]
 obtain ⟨W1, hwo⟩ : ∃ v : World, v = (w.alloc (.cells (zb 36 (fl 6 (fun _ _ => 0))) 66)) := ⟨_, rfl⟩
 have B0 : Blk W1 (w.heap.size) 36 66 (fl 6 (fun _ _ => 0)) := by subst hwo; have := (Blk.new w 36 66 (fl 6 (fun _ _ => 0))); simpa using this
 have hb : Below w.heap.size w W1 := by subst hwo; exact ((Below.refl _ _).alloc (Nat.le_refl _) _)
 rw [← hwo]
 clear hwo
 go_upto_region 2 with (first | rw [← z64] | rw [← zero36])
 have lt_B0 := B0.lt
 have lhb := hb.size
 obtain ⟨W2, hwo, hzQ⟩ : ∃ v : World, v = (W1.alloc (.cells (zb 36 (fl 6 (fun _ _ => 0))) 66)) ∧ Blk v (w.heap.size) 36 66 (fl 6 (fun _ _ => 0)) ∧ Blk v (W1.heap.size) 36 66 (fl 6 (fun _ _ => 0)) ∧ Below w.heap.size w v := ⟨_, rfl, (B0.alloc (.cells (zb 36 (fl 6 (fun _ _ => 0))) 66)), (Blk.new W1 36 66 (fl 6 (fun _ _ => 0))), (hb.alloc (by have := hb.size; simp; omega) (.cells (zb 36 (fl 6 (fun _ _ => 0))) 66))⟩
 rw [← hwo]
 clear hwo B0 hb
 obtain ⟨B0, B1, hb⟩ := hzQ
 obtain ⟨N1, hNN⟩ : ∃ n : Nat, n = W1.heap.size := ⟨_, rfl⟩
 rw [← hNN] at lt_B0 lhb B1 ⊢
 clear hNN
 have zN1_0 := lt_B0
 have zN1 := lhb
 clear lt_B0 lhb
 try simp only [Act.put, pA, pB, pC]
 go_upto_region 99 with (fail)
 go_loopw [9] (fun c wr => ∃ (j : Nat) (G : Nat → Nat → Nat), c = .int .i64 (j : Int) ∧ j ≤ n ∧ Hid (∀ i, i < 6 → ∀ c, c < 6 → G i c = if i < j then cmS p n a i c else 0) ∧ Below w.heap.size w wr ∧ Blk wr (w.heap.size) 36 66 (fl 6 (fun _ _ => 0)) ∧ Blk wr (N1) 36 66 (fl 6 G)) (fun c _ => n - (intOf c).toNat)
 case atStart => exact ⟨0, _, rfl, by omega, Lib.hid (fun i hi c hc => by rw [if_neg (Nat.not_lt_zero i)]), hb, B0, B1⟩
 case round =>
  clear hb B0 B1
  obtain ⟨j, G, rfl, hjn, hG, hb, B0, B1⟩ := hrel
  by_cases hj : j < n
  · have hjI : (j : Int) < (n : Int) := by omega
    have hj6 : (j : Int) < 64 := by omega
    have hj64 : j < 64 := by omega
    have hjr : (j : Int) < 6 := by omega
    have HG2 := Lib.hid (HU.out j hj G hG.out)
    have HS2 := Lib.hid (fun W hW => HSH.out j W hW)
    go_upto_region 5 with (fail)
    go_upto_region 6 with (first | rw [← z64])
    have lt_B0 := B0.lt
    have lt_B1 := B1.lt
    have lhb := hb.size
    obtain ⟨W3, hwo, hzQ⟩ : ∃ v : World, v = (wr.alloc (.cells (zb 64 (fun _ => 0)) 23)) ∧ Blk v (w.heap.size) 36 66 (fl 6 (fun _ _ => 0)) ∧ Blk v (N1) 36 66 (fl 6 G) ∧ Blk v (wr.heap.size) 64 23 (fun _ => 0) ∧ Below w.heap.size w v := ⟨_, rfl, (B0.alloc (.cells (zb 64 (fun _ => 0)) 23)), (B1.alloc (.cells (zb 64 (fun _ => 0)) 23)), (Blk.new wr 64 23 (fun _ => 0)), (hb.alloc (by have := hb.size; simp; omega) (.cells (zb 64 (fun _ => 0)) 23))⟩
    rw [← hwo]
    clear hwo B0 B1 hb
    obtain ⟨B0, B1, B2, hb⟩ := hzQ
    obtain ⟨N2, hNN⟩ : ∃ n : Nat, n = wr.heap.size := ⟨_, rfl⟩
    rw [← hNN] at lt_B0 lt_B1 lhb B2 ⊢
    clear hNN
    have zN2_0 := lt_B0
    have zN2_1 := lt_B1
    have zN2 := lhb
    clear lt_B0 lt_B1 lhb
    try simp only [Act.put, pA, pB, pC]
    have cc := B2.cell (i := j) hj64
    have zz := B2.frozen j
    go_upto_region 7 with (fail)
    clear cc zz
    have lt_B0 := B0.lt
    have lt_B1 := B1.lt
    have lt_B2 := B2.lt
    have qB0 : Blk (W3.setCell ⟨N2, j, none⟩ (.int .u8 (1))) (w.heap.size) 36 66 (fl 6 (fun _ _ => 0)) := (B0.setOther (by show (w.heap.size) ≠ (N2); omega))
    have qB1 : Blk (W3.setCell ⟨N2, j, none⟩ (.int .u8 (1))) (N1) 36 66 (fl 6 G) := (B1.setOther (by show (N1) ≠ (N2); omega))
    have qB2 : Blk (W3.setCell ⟨N2, j, none⟩ (.int .u8 (1))) (N2) 64 23 (upd (fun _ => 0) j 1) := ((B2.set (v := 1) (rfl)).congr (fun k _ => rfl))
    have qhb : Below w.heap.size w (W3.setCell ⟨N2, j, none⟩ (.int .u8 (1))) := (hb.setCell (by show w.heap.size ≤ (N2); omega) _)
    obtain ⟨W4, hwo⟩ : ∃ v : World, v = (W3.setCell ⟨N2, j, none⟩ (.int .u8 (1))) := ⟨_, rfl⟩
    rw [← hwo] at qB0 qB1 qB2 qhb ⊢
    clear hwo
    clear B0 B1 B2 hb
    have B0 := qB0
    have B1 := qB1
    have B2 := qB2
    have hb := qhb
    clear qB0 qB1 qB2 qhb
    try simp only [Act.put, pA, pB, pC]
    have lt_B0 := B0.lt
    have lt_B1 := B1.lt
    have lt_B2 := B2.lt
    go_wp2_with (first | rw [← z64] | rw [← zero6] | (refine zla (.tmp 7) B2 Try.underlying23 Try.size23 ?_) | (go_at_call 115; refine (HS2.out _ hb).mono ?_; rintro e W5 ⟨rfl, hW5⟩; replace B0 := B0.zw hW5; replace B1 := B1.zw hW5; replace B2 := B2.zw hW5; replace hb := (hb).trans (hW5.mono (hb).size)) | (go_at_call 126; refine (rowOfPoly_any (resP p (prd p TP (upd (fun _ => 0) j 1)) a) _).mono ?_; rintro e W6 ⟨rfl, hW6⟩; replace B0 := B0.zw hW6; replace B1 := B1.zw hW6; replace B2 := B2.zw hW6; replace hb := (hb).trans (hW6.mono (hb).size)) | (refine wpList_store_sq rfl 64 (.tmp 19) (.tmp 18) rfl _ (j) (resP p (prd p TP (upd (fun _ => 0) j 1)) a) rfl rfl 66 _ (B1) (by omega) Try.size64 ?_; try simp only [Act.put]))
    obtain ⟨W7, hwo, hzQ⟩ : ∃ v : World, v = (W6.setRow (N1) (zb 36 (fl 6 (updR G j (resP p (prd p TP (upd (fun _ => 0) j 1)) a))))) ∧ Blk v (w.heap.size) 36 66 (fl 6 (fun _ _ => 0)) ∧ Blk v (N1) 36 66 (fl 6 (updR G j (resP p (prd p TP (upd (fun _ => 0) j 1)) a))) ∧ Blk v (N2) 64 23 (upd (fun _ => 0) j 1) ∧ Below w.heap.size w v := ⟨_, rfl, (B0.rowOther (by omega)), (B1.row (fl 6 (updR G j (resP p (prd p TP (upd (fun _ => 0) j 1)) a)))), (B2.rowOther (by omega)), (zr hb (by omega) _)⟩
    rw [← hwo]
    clear hwo B0 B1 B2 hb
    obtain ⟨B0, B1, B2, hb⟩ := hzQ
    try simp only [Act.put, pA, pB, pC]
    go_roundw
    case rel => exact ⟨j + 1, _, by go_num, by omega, HG2, hb, B0, B1⟩
    case measure => simp [intOf] <;> omega
  · have hjI : ¬ (j : Int) < (n : Int) := by omega
    obtain rfl : j = n := by omega
    have HE := Lib.hid (HV.out G hG.out)
    go_upto_region 9 with (fail)
    have lt_B0 := B0.lt
    have lt_B1 := B1.lt
    go_wp2_with (first | rw [← z64] | rw [← zero36] | (refine zla (.tmp 5) B1 Try.underlying66 Try.size66 ?_) | (refine zsr (.tmp 4) (.tmp 21) (fl 6 G) B0 Try.size66 ?_; try simp only [Act.put]))
    obtain ⟨W3, hwo, hzQ⟩ : ∃ v : World, v = (wr.setRow (w.heap.size) (zb 36 (fl 6 G))) ∧ Blk v (w.heap.size) 36 66 (fl 6 G) ∧ Blk v (N1) 36 66 (fl 6 G) ∧ Below w.heap.size w v := ⟨_, rfl, (B0.row (fl 6 G)), (B1.rowOther (by omega)), (zr hb (by omega) _)⟩
    rw [← hwo]
    clear hwo B0 B1 hb
    obtain ⟨B0, B1, hb⟩ := hzQ
    try simp only [Act.put, pA, pB, pC]
    refine bodyPost_ret (results_any rfl _ _ _ 36 _ _ rfl B0 _ Try.underlying66 rfl Try.size66) rfl ⟨by rw [HE.out], hb⟩
set_option maxRecDepth 100000 in
set_option maxHeartbeats 1600000 in
theorem refuseUnless_ok (w : World) : Calls Try.prog 112 #[.bool true] w fun e w' => e = .returned (.tuple #[]) ∧ w = w' := by
 go_enter Try.func112, Try.ntmps112
 go_wp2_with fail
 first | exact bodyPost_end0 rfl rfl ⟨rfl, rfl⟩ | exact bodyPost_end (results_none rfl _ _ _) rfl ⟨rfl, rfl⟩
set_option maxRecDepth 100000 in
set_option maxHeartbeats 1600000 in
theorem refuseUnless_no (w : World) : Calls Try.prog 112 #[.bool false] w fun e w' => e = .panicked [{ v := .iface 174 (.int .i64 1), recovered := false }] ∧ w = w' := by
 go_enter Try.func112, Try.ntmps112
 go_wp2_with fail
 exact ⟨rfl, rfl, rfl⟩
/-- both answers: the companion matrix -/
noncomputable def cmV (p : Int) (a : Nat → Nat) : (Nat → Nat → Nat) × Int := if (okA p a && monUp 6 a) = true then (cmS p.toNat (deg a).toNat a, 0) else (fun _ _ => 0, 1)
theorem cmV_yes {p n : Nat} {a : Nat → Nat} (h : (okA (p : Int) a && monUp 6 a) = true) (hd : deg a = (n : Int)) : cmV (p : Int) a = (cmS p n a, 0) := by
 unfold cmV; rw [if_pos h, hd, Int.toNat_natCast, Int.toNat_natCast]
theorem cmV_no {p : Int} {a : Nat → Nat} (h : (okA p a && monUp 6 a) = false) : cmV p a = (fun _ _ => 0, 1) := by
 unfold cmV; rw [h]; rfl
attribute [local irreducible] okA monUp monB cmV
set_option maxRecDepth 100000 in
set_option maxHeartbeats 1600000 in
theorem CompanionC_ok (p n : Nat) (a : Nat → Nat) (b1 b2 : Nat) (w : World) (ha : byte a) (hok : okA (p : Int) a = true) (hu : monUp 6 a = true) (hd : deg a = (n : Int)) (B0 : One w b1 2 (.int .i64 (p : Int))) (B1 : Blk w b2 64 23 a) :
 Calls Try.prog 111 #[.pointer (some ⟨b1, 0, none⟩), .pointer (some ⟨b2, 0, none⟩)] w fun e w' => e = .returned (.agg (zb 36 (fl 6 (cmS p n a)))) ∧ Below w.heap.size w w' := by
 have HIP := Lib.hid (fun W => IsPoly_any (p : Int) a ha W)
 have HMU := Lib.hid (fun W => isMonicUpTo_any 6 a ha W (by decide) (by decide))
 have hmf : ∀ (fn : Fn) (first cap : Array Value) (w : World), (Instr.makeFunc fn first cap).run Try.prog w = .ok (.func fn first cap) w := fun _ _ _ _ => rfl
 have hp := okA_p hok
 obtain ⟨p', hpe, p2, p7⟩ := okP_nat hp
 have hpe' : p = p' := by omega
 subst hpe'
 have hpr : p = 2 ∨ p = 3 ∨ p = 5 ∨ p = 7 := by have := okP_cases hp; omega
 have la : ∀ k, k < 64 → a k < p := fun k hk => by have := okA_lt hok hk; omega
 obtain ⟨n', hm, n1, n6⟩ := mon_up hu
 obtain rfl : n' = n := by have := hm.1; omega
 have HSO := Lib.hid (fun b1 b2 W h1 h2 => squareOf_any p n' a b1 b2 W hpr la hm n1 (by omega) h1 h2)
 clear hp hpe p2 p7 hpr la hm n1 n6
 have zx_0 := B0.lt
 have zx_1 := B1.lt
 go_enter Try.func111, Try.ntmps111
 go_upto_region 1 with (fail)
 rw [← zero36]
 obtain ⟨W1, hwo⟩ : ∃ v : World, v = (w.alloc (.cells (zb 36 (fl 6 (fun _ _ => 0))) 66)) := ⟨_, rfl⟩
 have B2 : Blk W1 (w.heap.size) 36 66 (fl 6 (fun _ _ => 0)) := by subst hwo; have := (Blk.new w 36 66 (fl 6 (fun _ _ => 0))); simpa using this
 replace B0 : One W1 (b1) 2 (.int .i64 (p : Int)) := by subst hwo; exact (B0.alloc (.cells (zb 36 (fl 6 (fun _ _ => 0))) 66))
 replace B1 : Blk W1 (b2) 64 23 (a) := by subst hwo; exact (B1.alloc (.cells (zb 36 (fl 6 (fun _ _ => 0))) 66))
 have hb : Below w.heap.size w W1 := by subst hwo; exact ((Below.refl _ _).alloc (Nat.le_refl _) _)
 rw [← hwo]
 clear hwo
 go_upto_region 2 with (first | (refine zlo rfl 2 (.tmp 0) rfl _ rfl 2 ((.int .i64 (p : Int))) (B0) _ Try.underlying2 rfl ?_) | (refine zla (.tmp 1) B1 Try.underlying23 Try.size23 ?_) | (go_at_call 113; refine (HIP.out _).mono ?_; rintro e W2 ⟨rfl, hW2⟩; replace B0 := B0.zw hW2; replace B1 := B1.zw hW2; replace B2 := B2.zw hW2; replace hb := (hb).trans (hW2.mono (hb).size); rw [hok]) | (refine zlg rfl 23 (.tmp 1) rfl _ rfl 64 23 _ (B1) _ Try.underlying23 rfl Try.size23 ?_) | (go_at_call 114; refine (HMU.out _).mono ?_; rintro e W3 ⟨rfl, hW3⟩; replace B0 := B0.zw hW3; replace B1 := B1.zw hW3; replace B2 := B2.zw hW3; replace hb := (hb).trans (hW3.mono (hb).size); rw [hu]) | (go_at_call 112; refine (refuseUnless_ok _).mono ?_; rintro e wS ⟨rfl, rfl⟩))
 clear hok hu
 go_upto_region 3 with (fail)
 have lt_B0 := B0.lt
 have lt_B1 := B1.lt
 have lt_B2 := B2.lt
 go_wp2_with (first | rw [← z64] | rw [← zero36] | (refine zla (.tmp 1) B1 Try.underlying23 Try.size23 ?_) | (go_at_call 82; refine (degree_any a _).mono ?_; rintro e W4 ⟨rfl, hW4⟩; replace B0 := B0.zw hW4; replace B1 := B1.zw hW4; replace B2 := B2.zw hW4; replace hb := (hb).trans (hW4.mono (hb).size); rw [hd]) | (go_at_call 118; refine (HSO.out _ _ _ B0 B1).mono ?_; rintro e W5 ⟨rfl, hW5⟩; replace B0 := B0.zw hW5; replace B1 := B1.zw hW5; replace B2 := B2.zw hW5; replace hb := (hb).trans (hW5.mono (hb).size)) | (refine zsr (.tmp 2) (.tmp 16) (fl 6 (cmS p n' a)) B2 Try.size66 ?_; try simp only [Act.put]))
 obtain ⟨W6, hwo, hzQ⟩ : ∃ v : World, v = (W5.setRow (w.heap.size) (zb 36 (fl 6 (cmS p n' a)))) ∧ One v (b1) 2 (.int .i64 (p : Int)) ∧ Blk v (b2) 64 23 (a) ∧ Blk v (w.heap.size) 36 66 (fl 6 (cmS p n' a)) ∧ Below w.heap.size w v := ⟨_, rfl, (B0.rowOther (by omega)), (B1.rowOther (by omega)), (B2.row (fl 6 (cmS p n' a))), (zr hb (by omega) _)⟩
 rw [← hwo]
 clear hwo B0 B1 B2 hb
 obtain ⟨B0, B1, B2, hb⟩ := hzQ
 try simp only [Act.put, pA, pB, pC]
 refine bodyPost_ret (results_any rfl _ _ _ 36 _ _ rfl B2 _ Try.underlying66 rfl Try.size66) rfl ⟨rfl, hb⟩
set_option maxRecDepth 100000 in
set_option maxHeartbeats 1600000 in
theorem CompanionC_no (p : Int) (a : Nat → Nat) (b1 b2 : Nat) (w : World) (ha : byte a) (hno : (okA p a && monUp 6 a) = false) (B0 : One w b1 2 (.int .i64 p)) (B1 : Blk w b2 64 23 a) :
 Calls Try.prog 111 #[.pointer (some ⟨b1, 0, none⟩), .pointer (some ⟨b2, 0, none⟩)] w fun e w' => e = .panicked [{ v := .iface 174 (.int .i64 1), recovered := false }] ∧ Below w.heap.size w w' := by
 have HIP := Lib.hid (fun W => IsPoly_any p a ha W)
 have HMU := Lib.hid (fun W => isMonicUpTo_any 6 a ha W (by decide) (by decide))
 have hmf : ∀ (fn : Fn) (first cap : Array Value) (w : World), (Instr.makeFunc fn first cap).run Try.prog w = .ok (.func fn first cap) w := fun _ _ _ _ => rfl
 have zx_0 := B0.lt
 have zx_1 := B1.lt
 go_enter Try.func111, Try.ntmps111
 go_upto_region 1 with (fail)
 rw [← zero36]
 obtain ⟨W1, hwo⟩ : ∃ v : World, v = (w.alloc (.cells (zb 36 (fl 6 (fun _ _ => 0))) 66)) := ⟨_, rfl⟩
 have B2 : Blk W1 (w.heap.size) 36 66 (fl 6 (fun _ _ => 0)) := by subst hwo; have := (Blk.new w 36 66 (fl 6 (fun _ _ => 0))); simpa using this
 replace B0 : One W1 (b1) 2 (.int .i64 p) := by subst hwo; exact (B0.alloc (.cells (zb 36 (fl 6 (fun _ _ => 0))) 66))
 replace B1 : Blk W1 (b2) 64 23 (a) := by subst hwo; exact (B1.alloc (.cells (zb 36 (fl 6 (fun _ _ => 0))) 66))
 have hb : Below w.heap.size w W1 := by subst hwo; exact ((Below.refl _ _).alloc (Nat.le_refl _) _)
 rw [← hwo]
 clear hwo
 cases hok : okA p a with
 | false =>
  go_wp2_with (first | (refine zlo rfl 2 (.tmp 0) rfl _ rfl 2 ((.int .i64 p)) (B0) _ Try.underlying2 rfl ?_) | (refine zla (.tmp 1) B1 Try.underlying23 Try.size23 ?_) | (go_at_call 113; refine (HIP.out _).mono ?_; rintro e W2 ⟨rfl, hW2⟩; replace B0 := B0.zw hW2; replace B1 := B1.zw hW2; replace B2 := B2.zw hW2; replace hb := (hb).trans (hW2.mono (hb).size); rw [hok]) | (go_at_call 112; refine (refuseUnless_no _).mono ?_; rintro e wS ⟨rfl, rfl⟩))
  exact ⟨rfl, rfl, hb⟩
 | true =>
  have hu : monUp 6 a = false := by rw [hok] at hno; simpa using hno
  go_wp2_with (first | (refine zlo rfl 2 (.tmp 0) rfl _ rfl 2 ((.int .i64 p)) (B0) _ Try.underlying2 rfl ?_) | (refine zla (.tmp 1) B1 Try.underlying23 Try.size23 ?_) | (go_at_call 113; refine (HIP.out _).mono ?_; rintro e W2 ⟨rfl, hW2⟩; replace B0 := B0.zw hW2; replace B1 := B1.zw hW2; replace B2 := B2.zw hW2; replace hb := (hb).trans (hW2.mono (hb).size); rw [hok]) | (refine zlg rfl 23 (.tmp 1) rfl _ rfl 64 23 _ (B1) _ Try.underlying23 rfl Try.size23 ?_) | (go_at_call 114; refine (HMU.out _).mono ?_; rintro e W3 ⟨rfl, hW3⟩; replace B0 := B0.zw hW3; replace B1 := B1.zw hW3; replace B2 := B2.zw hW3; replace hb := (hb).trans (hW3.mono (hb).size); rw [hu]) | (go_at_call 112; refine (refuseUnless_no _).mono ?_; rintro e wS ⟨rfl, rfl⟩))
  exact ⟨rfl, rfl, hb⟩
set_option maxRecDepth 100000 in
set_option maxHeartbeats 1600000 in
theorem door_caughtS (b : Nat) (x : Int) (w : World) (hb : One w b 2 (.int .i64 x)) :
 CallsD Try.prog 164 #[.pointer (some ⟨b, 0, none⟩)] (.panicking ({ v := Value.iface 174 (.int .i64 1), recovered := false } :: [])) w fun e u' w' =>
  e = .returned (.tuple #[]) ∧ u' = .panicking ({ v := Value.iface 174 (.int .i64 1), recovered := true } :: []) ∧ w' = w.setCell ⟨b, 0, none⟩ (.int .i64 1) := by
 have hta : ∀ w : World, (Instr.typeAssert (.iface 174 (.int .i64 1)) 20 174 false).run Try.prog w = .ok (.int .i64 1) w := fun _ => by kernel_rfl
 have hc := hb.cell
 have hz := hb.frozen 0
 refine callsD_of_wpS Try.func164 rfl fun c₀ cs hu => ?_
 apply wpS_seq
 apply wpS_region
 simp [wpOpsS, go_sem, recoverD, hu, Try.ntmps164, Exit.thenS]
 refine wpS_of_wp ?_
 show Code.wp _ _ _ { tmps := #[.pointer (some ⟨b, 0, none⟩), Value.iface 174 (.int .i64 1), Value.iface 174 (.int .i64 1), undef, undef, undef, undef], defers := [] } _
 go_wp2_with fail
 cases c₀
 simp_all [bodyPostS, results, Try.results164]
set_option maxRecDepth 100000 in
set_option maxHeartbeats 1600000 in
theorem door_idleS (b : Nat) (w : World) :
 CallsD Try.prog 164 #[.pointer (some ⟨b, 0, none⟩)] .returning w fun e u' w' => e = .returned (.tuple #[]) ∧ u' = .returning ∧ w' = w := by
 refine callsD_of_wpS Try.func164 rfl fun c₀ cs hu => ?_
 apply wpS_seq
 apply wpS_region
 simp [wpOpsS, go_sem, recoverD, hu, Try.ntmps164, Exit.thenS]
 refine wpS_of_wp ?_
 show Code.wp _ _ _ { tmps := #[.pointer (some ⟨b, 0, none⟩), .nilIface, .nilIface, undef, undef, undef, undef], defers := [] } _
 go_wp2_with fail
 cases c₀
 simp_all [bodyPostS, results, Try.results164]
theorem results_anyc {P : Program} {fn : Func} {p q : Tmp} {ty ty2 : TypeId} (h : fn.results = #[.cell p ty, .cell q ty2]) (tmps : Array Value) (w : World) (b n : Nat) (t : TypeId) (f : Nat → Nat)
 (hp : tmps.getD p undef = .pointer (some ⟨b, 0, none⟩)) (hb : Blk w b n t f) (d : TypeDesc) (hu : P.underlying ty = some d) (hd : (match d with | .struct _ | .array _ _ => true | _ => false) = true) (hi : (P.info? ty).map (·.size) = some n) (b2 : Nat) (t2 : TypeId) (v : Value)
 (hq : tmps.getD q undef = .pointer (some ⟨b2, 0, none⟩)) (hb2 : One w b2 t2 v) (k : IntKind) (hu2 : P.underlying ty2 = some (.int k)) :
 (results fn tmps).run P w = .ok (.tuple #[.agg (zb n f), v]) w := by
 have hp' : tmps[p]?.getD undef = .pointer (some ⟨b, 0, none⟩) := by simpa using hp
 have hq' : tmps[q]?.getD undef = .pointer (some ⟨b2, 0, none⟩) := by simpa using hq
 have hc := hb2.cell
 have hagg : (isAgg ty2).run P w = .ok false w := by
  unfold isAgg
  rw [Sem.run_bind, run_underlying hu2 w]
  rfl
 have hl : (loadVar ty2 ⟨b2, 0, none⟩).run P w = .ok v w := by
  simp [loadVar, Sem.run_bind, hagg, go_sem, hc]
 simp [results, h, hp', hq', asAddr, run_loadVar_any w b n t ty f hb d hu hd hi, hl]
set_option maxRecDepth 100000 in
set_option maxHeartbeats 1600000 in
theorem door_CompanionOf (c1 c2 : Value) (F : Nat → Nat → Nat) (w : World) (H : ∀ W, Below w.heap.size w W → Calls Try.prog 111 #[c1, c2] W fun e w' => e = .returned (.agg (zb 36 (fl 6 F))) ∧ Below W.heap.size W w') :
 Calls Try.prog 110 #[.func (.func 111) #[] #[c1, c2]] w fun e w' => e = .returned (.tuple #[.agg (zb 36 (fl 6 F)), .int .i64 0]) ∧ Below w.heap.size w w' := by
 have HH := Lib.hid H
 clear H
 have hmf : ∀ (fn : Fn) (first cap : Array Value) (w : World), (Instr.makeFunc fn first cap).run Try.prog w = .ok (.func fn first cap) w := fun _ _ _ _ => rfl
 go_enter_defers Try.func110, Try.ntmps110
 go_upto_region 1 with (fail)
 rw [← zero36]
 obtain ⟨W1, hwo⟩ : ∃ v : World, v = ((w.alloc (.cells (zb 36 (fl 6 fun _ _ => 0)) 66)).alloc (.cells #[.int .i64 0] 2)) := ⟨_, rfl⟩
 have B0 : Blk W1 (w.heap.size) 36 66 (fl 6 fun _ _ => 0) := by subst hwo; exact ((Blk.new w 36 66 (fl 6 fun _ _ => 0)).alloc _)
 have B1 : One W1 (w.heap.size + 1) 2 (.int .i64 0) := by subst hwo; have := One.new (w.alloc (.cells (zb 36 (fl 6 fun _ _ => 0)) 66)) 2 (.int .i64 0); simpa using this
 have hb : Below w.heap.size w W1 := by subst hwo; exact (((Below.refl _ _).alloc (Nat.le_refl _) _).alloc (by simp) _)
 rw [← hwo]
 clear hwo
 go_upto_region 2 with (fail)
 clear hmf
 have lt0 := B0.lt
 have lt1 := B1.lt
 go_wp2_with (first | (go_at_call 111; refine (HH.out _ hb).mono ?_; rintro e W2 ⟨rfl, hW2⟩; replace B0 := B0.zw hW2; replace B1 := B1.zw hW2; replace hb := hb.trans (hW2.mono hb.size)) | (refine zsr (.tmp 2) (.tmp 6) (fl 6 F) B0 Try.size66 ?_; have C0 := B0.row (fl 6 F); have C1 := B1.rowOther (cs := zb 36 (fl 6 F)) (show w.heap.size + 1 ≠ w.heap.size by omega); have cc1 := C1.cell; have z1 := C1.frozen 0; try simp only [Act.put]; go_wp2_with fail))
 have D0 : Blk ((W2.setRow w.heap.size (zb 36 (fl 6 F))).setCell ⟨w.heap.size + 1, 0, none⟩ (.int .i64 0)) (w.heap.size) 36 66 (fl 6 F) := C0.setOther (by dsimp only; omega)
 have D1 : One ((W2.setRow w.heap.size (zb 36 (fl 6 F))).setCell ⟨w.heap.size + 1, 0, none⟩ (.int .i64 0)) (w.heap.size + 1) 2 (.int .i64 0) := C1.setc
 have hb2 : Below w.heap.size w ((W2.setRow w.heap.size (zb 36 (fl 6 F))).setCell ⟨w.heap.size + 1, 0, none⟩ (.int .i64 0)) := (zr hb (by omega) _).setCell (by dsimp only; omega) _
 refine leaves_cons (f := 164) (args := #[.pointer (some ⟨w.heap.size + 1, 0, none⟩)]) (by simp) (by simp [go_sem]) ?_
 refine (door_idleS (w.heap.size + 1) _).mono ?_
 rintro e u' w'' ⟨rfl, rfl, rfl⟩
 exact ⟨_, results_anyc rfl _ _ _ 36 66 (fl 6 F) rfl D0 _ Try.underlying66 rfl Try.size66 _ 2 (.int .i64 0) rfl D1 .i64 Try.underlying2, rfl, hb2⟩
set_option maxRecDepth 100000 in
set_option maxHeartbeats 1600000 in
theorem door_CompanionOfN (c1 c2 : Value) (F : Nat → Nat → Nat) (w : World) (H : ∀ W, Below w.heap.size w W → Calls Try.prog 111 #[c1, c2] W fun e w' => e = .panicked [{ v := .iface 174 (.int .i64 1), recovered := false }] ∧ Below W.heap.size W w') :
 Calls Try.prog 110 #[.func (.func 111) #[] #[c1, c2]] w fun e w' => e = .returned (.tuple #[.agg (zb 36 (fl 6 fun _ _ => 0)), .int .i64 1]) ∧ Below w.heap.size w w' := by
 have HH := Lib.hid H
 clear H
 have hmf : ∀ (fn : Fn) (first cap : Array Value) (w : World), (Instr.makeFunc fn first cap).run Try.prog w = .ok (.func fn first cap) w := fun _ _ _ _ => rfl
 go_enter_defers Try.func110, Try.ntmps110
 go_upto_region 1 with (fail)
 rw [← zero36]
 obtain ⟨W1, hwo⟩ : ∃ v : World, v = ((w.alloc (.cells (zb 36 (fl 6 fun _ _ => 0)) 66)).alloc (.cells #[.int .i64 0] 2)) := ⟨_, rfl⟩
 have B0 : Blk W1 (w.heap.size) 36 66 (fl 6 fun _ _ => 0) := by subst hwo; exact ((Blk.new w 36 66 (fl 6 fun _ _ => 0)).alloc _)
 have B1 : One W1 (w.heap.size + 1) 2 (.int .i64 0) := by subst hwo; have := One.new (w.alloc (.cells (zb 36 (fl 6 fun _ _ => 0)) 66)) 2 (.int .i64 0); simpa using this
 have hb : Below w.heap.size w W1 := by subst hwo; exact (((Below.refl _ _).alloc (Nat.le_refl _) _).alloc (by simp) _)
 rw [← hwo]
 clear hwo
 go_upto_region 2 with (fail)
 clear hmf
 have lt0 := B0.lt
 have lt1 := B1.lt
 go_wp2_with (first | (go_at_call 111; refine (HH.out _ hb).mono ?_; rintro e W2 ⟨rfl, hW2⟩; replace B0 := B0.zw hW2; replace B1 := B1.zw hW2; replace hb := hb.trans (hW2.mono hb.size)))
 have D0 : Blk (W2.setCell ⟨w.heap.size + 1, 0, none⟩ (.int .i64 1)) (w.heap.size) 36 66 (fl 6 fun _ _ => 0) := B0.setOther (by dsimp only; omega)
 have D1 : One (W2.setCell ⟨w.heap.size + 1, 0, none⟩ (.int .i64 1)) (w.heap.size + 1) 2 (.int .i64 1) := B1.setc
 have hb2 : Below w.heap.size w (W2.setCell ⟨w.heap.size + 1, 0, none⟩ (.int .i64 1)) := hb.setCell (by dsimp only; omega) _
 refine leaves_cons (f := 164) (args := #[.pointer (some ⟨w.heap.size + 1, 0, none⟩)]) (by simp) (by simp [go_sem]) ?_
 refine (door_caughtS (w.heap.size + 1) 0 _ B1).mono ?_
 rintro e u' w'' ⟨rfl, rfl, rfl⟩
 exact ⟨_, results_anyc rfl _ _ _ 36 66 (fl 6 fun _ _ => 0) rfl D0 _ Try.underlying66 rfl Try.size66 _ 2 (.int .i64 1) rfl D1 .i64 Try.underlying2, rfl, hb2⟩
set_option maxRecDepth 100000 in
set_option maxHeartbeats 1600000 in
theorem impl_CompanionOf_any (p : Int) (a : Nat → Nat) (ha : byte a) (w : World) :
 Calls Try.prog 55 #[.int .i64 p, .agg (zb 64 a)] w fun e w' => e = .returned (.tuple #[.agg (zb 36 (fl 6 (cmV p a).1)), .int .i64 (cmV p a).2]) ∧ Below w.heap.size w w' := by
 go_enter Try.func55, Try.ntmps55
 go_upto_region 1 with (fail)
 rw [← zero36]
 obtain ⟨W1, hwo⟩ : ∃ v : World, v = (((w.alloc (.cells #[(.int .i64 p)] 2)).alloc (.cells (zb 64 (a)) 23)).alloc (.cells (zb 36 (fl 6 (fun _ _ => 0))) 66)) := ⟨_, rfl⟩
 have B0 : One W1 (w.heap.size) 2 (.int .i64 p) := by subst hwo; have := (((One.new w 2 (.int .i64 p)).alloc (.cells (zb 64 (a)) 23)).alloc (.cells (zb 36 (fl 6 (fun _ _ => 0))) 66)); simpa using this
 have B1 : Blk W1 (w.heap.size + 1) 64 23 (a) := by subst hwo; have := ((Blk.new (w.alloc (.cells #[(.int .i64 p)] 2)) 64 23 (a)).alloc (.cells (zb 36 (fl 6 (fun _ _ => 0))) 66)); simpa using this
 have B2 : Blk W1 (w.heap.size + 1 + 1) 36 66 (fl 6 (fun _ _ => 0)) := by subst hwo; have := (Blk.new ((w.alloc (.cells #[(.int .i64 p)] 2)).alloc (.cells (zb 64 (a)) 23)) 36 66 (fl 6 (fun _ _ => 0))); simpa using this
 have hb : Below w.heap.size w W1 := by subst hwo; exact ((((Below.refl _ _).alloc (Nat.le_refl _) _).alloc (by simp) _).alloc (by simp; omega) _)
 rw [← hwo]
 clear hwo
 have hmf : ∀ (fn : Fn) (first cap : Array Value) (w : World), (Instr.makeFunc fn first cap).run Try.prog w = .ok (.func fn first cap) w := fun _ _ _ _ => rfl
 cases hv : (okA p a && monUp 6 a) with
 | false =>
  have HV := Lib.hid (cmV_no hv)
  have HDO := Lib.hid (fun (b1 b2 : Nat) (W : World) (h1 : One W b1 2 (.int .i64 p)) (h2 : Blk W b2 64 23 a) => door_CompanionOfN (.pointer (some ⟨b1, 0, none⟩)) (.pointer (some ⟨b2, 0, none⟩)) (fun _ _ => 0) W (fun W' hW => CompanionC_no p a b1 b2 W' ha hv (h1.zw hW) (h2.zw hW)))
  clear hv
  have lt_B0 := B0.lt
  have lt_B1 := B1.lt
  have lt_B2 := B2.lt
  go_wp2_with (first | rw [← z64] | rw [← zero36] | (go_at_call 110; refine (HDO.out _ _ _ B0 B1).mono ?_; rintro e W2 ⟨rfl, hW2⟩; replace B0 := B0.zw hW2; replace B1 := B1.zw hW2; replace B2 := B2.zw hW2; replace hb := (hb).trans (hW2.mono (hb).size)) | (refine zsr (.tmp 4) (.tmp 8) (fl 6 (fun _ _ => 0)) B2 Try.size66 ?_; try simp only [Act.put]; go_wp2_with fail))
  obtain ⟨W3, hwo, hzQ⟩ : ∃ v : World, v = (W2.setRow (w.heap.size + 1 + 1) (zb 36 (fl 6 (fun _ _ => 0)))) ∧ One v (w.heap.size) 2 (.int .i64 p) ∧ Blk v (w.heap.size + 1) 64 23 (a) ∧ Blk v (w.heap.size + 1 + 1) 36 66 (fl 6 (fun _ _ => 0)) ∧ Below w.heap.size w v := ⟨_, rfl, (B0.rowOther (by omega)), (B1.rowOther (by omega)), (B2.row (fl 6 (fun _ _ => 0))), (zr hb (by omega) _)⟩
  rw [← hwo]
  clear hwo B0 B1 B2 hb
  obtain ⟨B0, B1, B2, hb⟩ := hzQ
  try simp only [Act.put, pA, pB, pC]
  refine bodyPost_ret (zrt rfl _ _ _ 36 _ _ rfl B2 _ Try.underlying66 rfl Try.size66) rfl ⟨by first | (rw [HV.out]; rfl) | rw [HV.out], hb⟩
 | true =>
  have hok : okA p a = true := by simp only [Bool.and_eq_true] at hv; exact hv.1
  have hu : monUp 6 a = true := by simp only [Bool.and_eq_true] at hv; exact hv.2
  obtain ⟨n, hn, n2, n7⟩ := okP_nat (okA_p hok)
  subst hn
  obtain ⟨d, hm, d1, d6⟩ := mon_up hu
  have HV := Lib.hid (cmV_yes (n := d) hv hm.1)
  have HDO := Lib.hid (fun (b1 b2 : Nat) (W : World) (h1 : One W b1 2 (.int .i64 (n : Int))) (h2 : Blk W b2 64 23 a) => door_CompanionOf (.pointer (some ⟨b1, 0, none⟩)) (.pointer (some ⟨b2, 0, none⟩)) (cmS n d a) W (fun W' hW => CompanionC_ok n d a b1 b2 W' ha hok hu hm.1 (h1.zw hW) (h2.zw hW)))
  clear hv hok hu hm
  have lt_B0 := B0.lt
  have lt_B1 := B1.lt
  have lt_B2 := B2.lt
  go_wp2_with (first | rw [← z64] | rw [← zero36] | (go_at_call 110; refine (HDO.out _ _ _ B0 B1).mono ?_; rintro e W2 ⟨rfl, hW2⟩; replace B0 := B0.zw hW2; replace B1 := B1.zw hW2; replace B2 := B2.zw hW2; replace hb := (hb).trans (hW2.mono (hb).size)) | (refine zsr (.tmp 4) (.tmp 8) (fl 6 (cmS n d a)) B2 Try.size66 ?_; try simp only [Act.put]; go_wp2_with fail))
  obtain ⟨W3, hwo, hzQ⟩ : ∃ v : World, v = (W2.setRow (w.heap.size + 1 + 1) (zb 36 (fl 6 (cmS n d a)))) ∧ One v (w.heap.size) 2 (.int .i64 (n : Int)) ∧ Blk v (w.heap.size + 1) 64 23 (a) ∧ Blk v (w.heap.size + 1 + 1) 36 66 (fl 6 (cmS n d a)) ∧ Below w.heap.size w v := ⟨_, rfl, (B0.rowOther (by omega)), (B1.rowOther (by omega)), (B2.row (fl 6 (cmS n d a))), (zr hb (by omega) _)⟩
  rw [← hwo]
  clear hwo B0 B1 B2 hb
  obtain ⟨B0, B1, B2, hb⟩ := hzQ
  try simp only [Act.put, pA, pB, pC]
  refine bodyPost_ret (zrt rfl _ _ _ 36 _ _ rfl B2 _ Try.underlying66 rfl Try.size66) rfl ⟨by first | (rw [HV.out]; rfl) | rw [HV.out], hb⟩
end Go.Proofs.Ytobcdekochenfaa
end
section
namespace Go.Proofs.Ytobcdekochenfaa
open Go Go.RowKit
set_option linter.unusedVariables false
set_option linter.unusedSimpArgs false
attribute [local irreducible] deg resP prd cmS cmT okA monUp monB cmV
set_option maxRecDepth 100000 in
set_option maxHeartbeats 1600000 in
theorem l05Companion_any (p n : Nat) (a : Nat → Nat) (w : World) (p2 : 2 ≤ p) (p7 : p ≤ 7) (la : ∀ k, k < 64 → a k < p) (hd : deg a = (n : Int)) (n1 : 1 ≤ n) (n6 : n ≤ 6) :
 Calls Try.prog 109 #[.int .i64 (p : Int), .agg (zb 64 a)] w fun e w' => e = .returned (.agg (zb 36 (fl 6 (cmS p n a)))) ∧ Below w.heap.size w w' := by
 have HD := Lib.hid hd
 have HLA := Lib.hid la
 obtain ⟨M, hMn⟩ : ∃ M : Nat, M + 1 = n := ⟨n - 1, by omega⟩
 have HM := Lib.hid hMn
 have hM6 : M < 6 := by omega
 have HV := Lib.hid (fun (f : Nat → Nat) (hf : ∀ k, k < 36 → f k = cmT p n a n (k / 6) (k % 6)) => zbc (n := 36) (f := f) (g := fl 6 (cmS p n a)) (fun k hk => by rw [hf k hk, cmT_n]; unfold fl; rfl))
 have HIN := Lib.hid (fun j Q f h1 h2 h => cmT_in (p := p) (a := a) (f := f) (j := j) (Q := Q) hMn h1 h2 h)
 have HEN := Lib.hid (fun j Q f h1 h2 h => cmT_end (p := p) (a := a) (f := f) (j := j) (Q := Q) hMn n6 h1 h2 h)
 have HAT := Lib.hid (fun j h => cmT_at (p := p) (a := a) (j := j) hMn h n6)
 have hMi : (n : Int) - 1 = (M : Int) := by omega
 clear hd la hMn
 go_enter Try.func109, Try.ntmps109
 go_upto_region 1 with (fail)
 rw [← zero36]
 obtain ⟨W1, hwo⟩ : ∃ v : World, v = ((w.alloc (.cells (zb 64 (a)) 23)).alloc (.cells (zb 36 (fl 6 (fun _ _ => 0))) 66)) := ⟨_, rfl⟩
 have B0 : Blk W1 (w.heap.size) 64 23 (a) := by subst hwo; have := ((Blk.new w 64 23 (a)).alloc (.cells (zb 36 (fl 6 (fun _ _ => 0))) 66)); simpa using this
 have B1 : Blk W1 (w.heap.size + 1) 36 66 (fl 6 (fun _ _ => 0)) := by subst hwo; have := (Blk.new (w.alloc (.cells (zb 64 (a)) 23)) 36 66 (fl 6 (fun _ _ => 0))); simpa using this
 have hb : Below w.heap.size w W1 := by subst hwo; exact (((Below.refl _ _).alloc (Nat.le_refl _) _).alloc (by simp) _)
 rw [← hwo]
 clear hwo
 have lt_B0 := B0.lt
 have lt_B1 := B1.lt
 go_upto_region 2 with (first | rw [← z64] | rw [← zero36] | (refine zla (.tmp 3) B0 Try.underlying23 Try.size23 ?_) | (go_at_call 74; refine (l01Deg_any a _).mono ?_; rintro e W2 ⟨rfl, hW2⟩; replace B0 := B0.zw hW2; replace B1 := B1.zw hW2; replace hb := (hb).trans (hW2.mono (hb).size); rw [HD.out]) | (refine wpList_store_blk rfl 66 (.tmp 6) (.tmp 10) rfl _ 36 (fl 6 (fun _ _ => 0)) rfl rfl 66 _ ((Blk.new W2 36 66 (fl 6 (fun _ _ => 0)))) Try.size66 ?_; try simp only [Act.put]))
 have lt_B0 := B0.lt
 have lt_B1 := B1.lt
 have lhb := hb.size
 obtain ⟨W3, hwo, hzQ⟩ : ∃ v : World, v = ((W2.alloc (.cells (zb 36 (fl 6 (fun _ _ => 0))) 66)).setRow (W2.heap.size) (zb 36 (fl 6 (fun _ _ => 0)))) ∧ Blk v (w.heap.size) 64 23 (a) ∧ Blk v (w.heap.size + 1) 36 66 (fl 6 (fun _ _ => 0)) ∧ Blk v (W2.heap.size) 36 66 (fl 6 (fun _ _ => 0)) ∧ Below w.heap.size w v := ⟨_, rfl, ((B0.alloc (.cells (zb 36 (fl 6 (fun _ _ => 0))) 66)).rowOther (by omega)), ((B1.alloc (.cells (zb 36 (fl 6 (fun _ _ => 0))) 66)).rowOther (by omega)), ((Blk.new W2 36 66 (fl 6 (fun _ _ => 0))).row (fl 6 (fun _ _ => 0))), (zr (hb.alloc (by have := hb.size; simp; omega) (.cells (zb 36 (fl 6 (fun _ _ => 0))) 66)) (by omega) _)⟩
 rw [← hwo]
 clear hwo B0 B1 hb
 obtain ⟨B0, B1, B2, hb⟩ := hzQ
 obtain ⟨N1, hNN⟩ : ∃ n : Nat, n = W2.heap.size := ⟨_, rfl⟩
 rw [← hNN] at lt_B0 lt_B1 lhb B2 ⊢
 clear hNN
 have zN1_0 := lt_B0
 have zN1_1 := lt_B1
 have zN1 := lhb
 clear lt_B0 lt_B1 lhb
 try simp only [Act.put, pA, pB, pC]
 go_wp2_with fail
 go_loopw [7] (fun c wr => ∃ (j : Nat) (f : Nat → Nat), c = .int .i64 (j : Int) ∧ j ≤ n ∧ Hid (∀ k, k < 36 → f k = cmT p n a j (k / 6) (k % 6)) ∧ Below w.heap.size w wr ∧ Blk wr (w.heap.size) 64 23 a ∧ Blk wr (w.heap.size + 1) 36 66 (fl 6 (fun _ _ => 0)) ∧ Blk wr (N1) 36 66 f) (fun c _ => n - (intOf c).toNat)
 case atStart => exact ⟨0, _, rfl, by omega, Lib.hid (fun k hk => by rw [cmT_z]; unfold fl; rfl), hb, B0, B1, B2⟩
 case round =>
  clear hb B0 B1 B2
  obtain ⟨j, f, rfl, hjn, hf, hb, B0, B1, B2⟩ := hrel
  by_cases hj : j < n
  · have hjI : (j : Int) < (n : Int) := by omega
    have hj6 : (j : Int) < 6 := by omega
    have hj64 : (j : Int) < 64 := by omega
    obtain ⟨A, hAe⟩ : ∃ A, A = a j := ⟨_, rfl⟩
    have HA := Lib.hid hAe
    have hAp : A < p := by rw [hAe]; exact HLA.out j (by omega)
    clear hAe
    obtain ⟨C, hCe⟩ : ∃ C, C = f (M * 6 + j) := ⟨_, rfl⟩
    have HC := Lib.hid hCe
    have hC0 : C = 0 := by rw [hCe, hf.out _ (by omega), HAT.out j hj]
    clear hCe
    obtain ⟨Z, hVe⟩ : ∃ Z, Z = (p - A) % p := ⟨_, rfl⟩
    have hVp : Z < p := by rw [hVe]; exact Nat.mod_lt _ (by omega)
    have tq : ((C : Int) + (p : Int) - (A : Int)).tmod (p : Int) = (Z : Int) := by
     rw [Int.tmod_eq_emod_of_nonneg (by omega), hVe, hC0]
     rw [show ((0 : Nat) : Int) + (p : Int) - (A : Int) = ((p - A : Nat) : Int) by omega]
     rfl
    have HVE := Lib.hid (show Z = (p - a j) % p by rw [hVe, HA.out])
    have hpz : ¬ (p : Int) = 0 := by omega
    have hC1 : (C : Int) ≤ 0 := by omega
    clear hVe hC0
    by_cases hin : j < M
    · have hjM : (j : Int) < (M : Int) := by omega
      obtain ⟨X, hX⟩ : ∃ X, X = upd f (j * 6 + (j + 1)) 1 := ⟨_, rfl⟩
      have HX := Lib.hid (show ∀ k, k < 36 → upd X (M * 6 + j) Z k = cmT p n a (j + 1) (k / 6) (k % 6) by rw [hX, HVE.out]; exact HIN.out j (j + 1) f hin rfl hf.out)
      have HCX := Lib.hid (show X (M * 6 + j) = C by rw [hX, HC.out]; unfold upd; rw [if_neg (by omega)])
      have HXX := Lib.hid hX
      clear hX
      have hQ6 : (j : Int) + 1 < 6 := by omega
      have hQ0 : (0 : Int) ≤ (j : Int) + 1 := by omega
      have cc := B2.cell (i := j * 6 + (j + 1)) (by omega)
      have zz := B2.frozen (j * 6 + (j + 1))
      go_upto_region 7 with (fail)
      clear cc zz
      have lt_B0 := B0.lt
      have lt_B1 := B1.lt
      have lt_B2 := B2.lt
      have qB0 : Blk (wr.setCell ⟨N1, j * 6 + (j + 1), none⟩ (.int .u8 (1))) (w.heap.size) 64 23 (a) := (B0.setOther (by show (w.heap.size) ≠ (N1); omega))
      have qB1 : Blk (wr.setCell ⟨N1, j * 6 + (j + 1), none⟩ (.int .u8 (1))) (w.heap.size + 1) 36 66 (fl 6 (fun _ _ => 0)) := (B1.setOther (by show (w.heap.size + 1) ≠ (N1); omega))
      have qB2 : Blk (wr.setCell ⟨N1, j * 6 + (j + 1), none⟩ (.int .u8 (1))) (N1) 36 66 (X) := ((B2.set (v := 1) (rfl)).congr (fun k _ => by rw [HXX.out]))
      have qhb : Below w.heap.size w (wr.setCell ⟨N1, j * 6 + (j + 1), none⟩ (.int .u8 (1))) := (hb.setCell (by show w.heap.size ≤ (N1); omega) _)
      obtain ⟨W4, hwo⟩ : ∃ v : World, v = (wr.setCell ⟨N1, j * 6 + (j + 1), none⟩ (.int .u8 (1))) := ⟨_, rfl⟩
      rw [← hwo] at qB0 qB1 qB2 qhb ⊢
      clear hwo
      clear B0 B1 B2 hb
      have B0 := qB0
      have B1 := qB1
      have B2 := qB2
      have hb := qhb
      clear qB0 qB1 qB2 qhb
      try simp only [Act.put, pA, pB, pC]
      have lt_B0 : (w.heap.size) < W4.heap.size := B0.lt
      have lt_B1 : (w.heap.size + 1) < W4.heap.size := B1.lt
      have lt_B2 : (N1) < W4.heap.size := B2.lt
      have hbase : w.heap.size ≤ W4.heap.size := hb.size
      refine zq Try.mixed (by kernel_rfl) (by kernel_rfl) (fun v => by (simp only [frL, Act.put, pA, pB, pC, Nat.reduceAdd, Nat.zero_add]; exact rfl))
       (fun L v W5 => Below w.heap.size w W5 ∧ W4.heap.size ≤ W5.heap.size ∧ Blk W5 (w.heap.size) 64 23 (a) ∧ Blk W5 (w.heap.size + 1) 36 66 (fl 6 (fun _ _ => 0)) ∧ (∃ g, Blk W5 (N1) 36 66 (g)) ∧ (L 22 = false → Blk W5 (N1) 36 66 (X)) ∧ (L 22 = true → Blk W5 (N1) 36 66 (upd X (M * 6 + j) Z)) ∧ VF L v [some (.int .i64 (n : Int)), some (.int .i64 (M : Int)), some (.int .i64 (j : Int)), some (.int .i64 (n : Int)), some (.int .i64 (M : Int)), some (.int .i64 (j : Int)), some (.pointer (some ⟨N1, M * 6, none⟩)), some (.pointer (some ⟨N1, M * 6 + j, none⟩)), some (.int .u8 (C : Int)), some (.int .i64 (C : Int)), some (.int .i64 (p : Int)), some (.int .i64 ((C : Int) + (p : Int))), some (.int .i64 (j : Int)), some (.pointer (some ⟨w.heap.size, j, none⟩)), some (.int .u8 (A : Int)), some (.int .i64 (A : Int)), some (.int .i64 ((C : Int) + (p : Int) - (A : Int))), some (.int .i64 (p : Int)), some (.int .i64 (Z : Int)), some (.int .u8 (Z : Int)), some (.pointer (some ⟨N1, M * 6, none⟩)), some (.pointer (some ⟨N1, M * 6 + j, none⟩)), none]) ?_ ?_ ?_
      · intro v hv0
        exact ⟨hb.drew, Nat.le_refl _, B0.drew, B1.drew, ⟨_, B2.drew⟩, (fun _ => B2.drew), (fun h => by cases h), VF.start⟩
      · refine (.cons rfl ?_ (.cons rfl ?_ (.cons rfl ?_ (.cons rfl ?_ (.cons rfl ?_ (.cons rfl ?_ (.cons rfl ?_ (.cons rfl ?_ (.cons rfl ?_ (.cons rfl ?_ (.cons rfl ?_ (.cons rfl ?_ (.cons rfl ?_ (.cons rfl ?_ (.cons rfl ?_ (.cons rfl ?_ (.cons rfl ?_ (.cons rfl ?_ (.cons rfl ?_ (.cons rfl ?_ (.cons rfl ?_ (.cons rfl ?_ (.cons rfl ?_ (.nil _))))))))))))))))))))))))
        all_goals intro L v W5 hd hn ⟨hB, hz, s0, s1, x2, q2, n2, V⟩ K hK
        · go_wp2_with fail
          exact hK _ (.int .i64 (n : Int)) _ (by simp only [Act.put, pA, pB, pC ]) ⟨hB, hz, s0, s1, x2, q2, n2, V.step 0 rfl⟩
        · have e0 := V.at (zdq hd 0 rfl) rfl
          go_wp2_with fail
          exact hK _ (.int .i64 (M : Int)) _ (by simp only [Act.put, pA, pB, pC, e0]) ⟨hB, hz, s0, s1, x2, q2, n2, V.step 1 rfl⟩
        · go_wp2_with fail
          exact hK _ (.int .i64 (j : Int)) _ (by simp only [Act.put, pA, pB, pC ]) ⟨hB, hz, s0, s1, x2, q2, n2, V.step 2 rfl⟩
        · go_wp2_with fail
          exact hK _ (.int .i64 (n : Int)) _ (by simp only [Act.put, pA, pB, pC ]) ⟨hB, hz, s0, s1, x2, q2, n2, V.step 3 rfl⟩
        · have e3 := V.at (zdq hd 3 rfl) rfl
          go_wp2_with fail
          exact hK _ (.int .i64 (M : Int)) _ (by simp only [Act.put, pA, pB, pC, e3]) ⟨hB, hz, s0, s1, x2, q2, n2, V.step 4 rfl⟩
        · go_wp2_with fail
          exact hK _ (.int .i64 (j : Int)) _ (by simp only [Act.put, pA, pB, pC ]) ⟨hB, hz, s0, s1, x2, q2, n2, V.step 5 rfl⟩
        · have e4 := V.at (zdq hd 4 rfl) rfl
          go_wp2_with fail
          exact hK _ (.pointer (some ⟨N1, M * 6, none⟩)) _ (by simp only [Act.put, pA, pB, pC, e4]) ⟨hB, hz, s0, s1, x2, q2, n2, V.step 6 rfl⟩
        · have e6 := V.at (zdq hd 6 rfl) rfl
          have e5 := V.at (zdq hd 5 rfl) rfl
          go_wp2_with fail
          exact hK _ (.pointer (some ⟨N1, M * 6 + j, none⟩)) _ (by simp only [Act.put, pA, pB, pC, e6, e5]) ⟨hB, hz, s0, s1, x2, q2, n2, V.step 7 rfl⟩
        · have e7 := V.at (zdq hd 7 rfl) rfl
          have s2 := q2 (by
           cases hL : L 22 with
           | false => rfl
           | true => exact absurd rfl (hn 22 _ rfl hL ⟨8, .phase⟩ (by simp) rfl))
          have cc := s2.cell (i := M * 6 + j) (by omega)
          rw [HCX.out] at cc
          go_wp2_with fail
          exact hK _ (.int .u8 (C : Int)) _ (by simp only [Act.put, pA, pB, pC, e7]) ⟨hB, hz, s0, s1, x2, q2, n2, V.step 8 rfl⟩
        · have e8 := V.at (zdq hd 8 rfl) rfl
          go_wp2_with fail
          exact hK _ (.int .i64 (C : Int)) _ (by simp only [Act.put, pA, pB, pC, e8]) ⟨hB, hz, s0, s1, x2, q2, n2, V.step 9 rfl⟩
        · go_wp2_with fail
          exact hK _ (.int .i64 (p : Int)) _ (by simp only [Act.put, pA, pB, pC ]) ⟨hB, hz, s0, s1, x2, q2, n2, V.step 10 rfl⟩
        · have e9 := V.at (zdq hd 9 rfl) rfl
          have e10 := V.at (zdq hd 10 rfl) rfl
          go_wp2_with fail
          exact hK _ (.int .i64 ((C : Int) + (p : Int))) _ (by simp only [Act.put, pA, pB, pC, e9, e10]) ⟨hB, hz, s0, s1, x2, q2, n2, V.step 11 rfl⟩
        · go_wp2_with fail
          exact hK _ (.int .i64 (j : Int)) _ (by simp only [Act.put, pA, pB, pC ]) ⟨hB, hz, s0, s1, x2, q2, n2, V.step 12 rfl⟩
        · have e12 := V.at (zdq hd 12 rfl) rfl
          go_wp2_with fail
          exact hK _ (.pointer (some ⟨w.heap.size, j, none⟩)) _ (by simp only [Act.put, pA, pB, pC, e12]) ⟨hB, hz, s0, s1, x2, q2, n2, V.step 13 rfl⟩
        · have e13 := V.at (zdq hd 13 rfl) rfl
          have cc := s0.cell (i := j) (by omega)
          rw [← HA.out] at cc
          go_wp2_with fail
          exact hK _ (.int .u8 (A : Int)) _ (by simp only [Act.put, pA, pB, pC, e13]) ⟨hB, hz, s0, s1, x2, q2, n2, V.step 14 rfl⟩
        · have e14 := V.at (zdq hd 14 rfl) rfl
          go_wp2_with fail
          exact hK _ (.int .i64 (A : Int)) _ (by simp only [Act.put, pA, pB, pC, e14]) ⟨hB, hz, s0, s1, x2, q2, n2, V.step 15 rfl⟩
        · have e11 := V.at (zdq hd 11 rfl) rfl
          have e15 := V.at (zdq hd 15 rfl) rfl
          go_wp2_with fail
          exact hK _ (.int .i64 ((C : Int) + (p : Int) - (A : Int))) _ (by simp only [Act.put, pA, pB, pC, e11, e15]) ⟨hB, hz, s0, s1, x2, q2, n2, V.step 16 rfl⟩
        · go_wp2_with fail
          exact hK _ (.int .i64 (p : Int)) _ (by simp only [Act.put, pA, pB, pC ]) ⟨hB, hz, s0, s1, x2, q2, n2, V.step 17 rfl⟩
        · have e16 := V.at (zdq hd 16 rfl) rfl
          have e17 := V.at (zdq hd 17 rfl) rfl
          go_wp2_with fail
          exact hK _ (.int .i64 (Z : Int)) _ (by simp only [Act.put, pA, pB, pC, e16, e17]) ⟨hB, hz, s0, s1, x2, q2, n2, V.step 18 rfl⟩
        · have e18 := V.at (zdq hd 18 rfl) rfl
          go_wp2_with fail
          exact hK _ (.int .u8 (Z : Int)) _ (by simp only [Act.put, pA, pB, pC, e18]) ⟨hB, hz, s0, s1, x2, q2, n2, V.step 19 rfl⟩
        · have e1 := V.at (zdq hd 1 rfl) rfl
          go_wp2_with fail
          exact hK _ (.pointer (some ⟨N1, M * 6, none⟩)) _ (by simp only [Act.put, pA, pB, pC, e1]) ⟨hB, hz, s0, s1, x2, q2, n2, V.step 20 rfl⟩
        · have e20 := V.at (zdq hd 20 rfl) rfl
          have e2 := V.at (zdq hd 2 rfl) rfl
          go_wp2_with fail
          exact hK _ (.pointer (some ⟨N1, M * 6 + j, none⟩)) _ (by simp only [Act.put, pA, pB, pC, e20, e2]) ⟨hB, hz, s0, s1, x2, q2, n2, V.step 21 rfl⟩
        · have e21 := V.at (zdq hd 21 rfl) rfl
          have e19 := V.at (zdq hd 19 rfl) rfl
          obtain ⟨gz, hk⟩ := x2
          have zz := hk.frozen (M * 6 + j)
          have cc := hk.cell (i := M * 6 + j) (by omega)
          go_wp2_with fail
          exact hK _ undef _ (by simp only [Act.put, pA, pB, pC, e21, e19]) ⟨hB.setCell (by simp <;> omega) _, (by simpa using hz), (s0).setOther (by simp <;> omega), (s1).setOther (by simp <;> omega), ⟨_, hk.set (v := Z) rfl⟩, (fun h => absurd h (by simp [setL])), (fun _ => by cases hL : L 22 with | false => exact ((q2 hL).set (v := Z) rfl) | true => exact (((n2 hL).set (v := Z) rfl).congr (fun k _ => by unfold upd; split <;> rfl))), V.skip 22 rfl⟩
      · intro L v W5 hL ⟨hB, hz, s0, s1, x2, q2, n2, V⟩
        have r2 := n2 (hL 22 (by decide))
        have e0 := V.at (hL 0 (by decide)) rfl
        have e1 := V.at (hL 1 (by decide)) rfl
        have e2 := V.at (hL 2 (by decide)) rfl
        have e3 := V.at (hL 3 (by decide)) rfl
        have e4 := V.at (hL 4 (by decide)) rfl
        have e5 := V.at (hL 5 (by decide)) rfl
        have e6 := V.at (hL 6 (by decide)) rfl
        have e7 := V.at (hL 7 (by decide)) rfl
        have e8 := V.at (hL 8 (by decide)) rfl
        have e9 := V.at (hL 9 (by decide)) rfl
        have e10 := V.at (hL 10 (by decide)) rfl
        have e11 := V.at (hL 11 (by decide)) rfl
        have e12 := V.at (hL 12 (by decide)) rfl
        have e13 := V.at (hL 13 (by decide)) rfl
        have e14 := V.at (hL 14 (by decide)) rfl
        have e15 := V.at (hL 15 (by decide)) rfl
        have e16 := V.at (hL 16 (by decide)) rfl
        have e17 := V.at (hL 17 (by decide)) rfl
        have e18 := V.at (hL 18 (by decide)) rfl
        have e19 := V.at (hL 19 (by decide)) rfl
        have e20 := V.at (hL 20 (by decide)) rfl
        have e21 := V.at (hL 21 (by decide)) rfl
        clear hL x2 q2 n2 V
        simp only [Exit.then, e0, e1, e2, e3, e4, e5, e6, e7, e8, e9, e10, e11, e12, e13, e14, e15, e16, e17, e18, e19, e20, e21]
        clear e0 e1 e2 e3 e4 e5 e6 e7 e8 e9 e10 e11 e12 e13 e14 e15 e16 e17 e18 e19 e20 e21
        replace B0 := s0
        clear s0
        replace B1 := s1
        clear s1
        replace B2 := r2
        clear r2
        replace hb := hB
        clear hB
        clear hbase hz lt_B0 lt_B1 lt_B2
        go_wp2_with fail
        go_roundw
        case rel => exact ⟨j + 1, _, by go_num, by omega, HX, hb, B0, B1, B2⟩
        case measure => simp [intOf] <;> omega
    · have hjM : ¬ (j : Int) < (M : Int) := by omega
      obtain ⟨X, hX⟩ : ∃ X, X = f := ⟨_, rfl⟩
      have HX := Lib.hid (show ∀ k, k < 36 → upd X (M * 6 + j) Z k = cmT p n a (j + 1) (k / 6) (k % 6) by rw [hX, HVE.out]; exact HEN.out j (j + 1) f (by omega) rfl hf.out)
      have HCX := Lib.hid (show X (M * 6 + j) = C by rw [hX, HC.out])
      rw [← hX] at B2
      clear hX
      go_upto_region 7 with (fail)
      have lt_B0 : (w.heap.size) < wr.heap.size := B0.lt
      have lt_B1 : (w.heap.size + 1) < wr.heap.size := B1.lt
      have lt_B2 : (N1) < wr.heap.size := B2.lt
      have hbase : w.heap.size ≤ wr.heap.size := hb.size
      refine zq Try.mixed (by kernel_rfl) (by kernel_rfl) (fun v => by (simp only [frL, Act.put, pA, pB, pC, Nat.reduceAdd, Nat.zero_add]; exact rfl))
       (fun L v W4 => Below w.heap.size w W4 ∧ wr.heap.size ≤ W4.heap.size ∧ Blk W4 (w.heap.size) 64 23 (a) ∧ Blk W4 (w.heap.size + 1) 36 66 (fl 6 (fun _ _ => 0)) ∧ (∃ g, Blk W4 (N1) 36 66 (g)) ∧ (L 22 = false → Blk W4 (N1) 36 66 (X)) ∧ (L 22 = true → Blk W4 (N1) 36 66 (upd X (M * 6 + j) Z)) ∧ VF L v [some (.int .i64 (n : Int)), some (.int .i64 (M : Int)), some (.int .i64 (j : Int)), some (.int .i64 (n : Int)), some (.int .i64 (M : Int)), some (.int .i64 (j : Int)), some (.pointer (some ⟨N1, M * 6, none⟩)), some (.pointer (some ⟨N1, M * 6 + j, none⟩)), some (.int .u8 (C : Int)), some (.int .i64 (C : Int)), some (.int .i64 (p : Int)), some (.int .i64 ((C : Int) + (p : Int))), some (.int .i64 (j : Int)), some (.pointer (some ⟨w.heap.size, j, none⟩)), some (.int .u8 (A : Int)), some (.int .i64 (A : Int)), some (.int .i64 ((C : Int) + (p : Int) - (A : Int))), some (.int .i64 (p : Int)), some (.int .i64 (Z : Int)), some (.int .u8 (Z : Int)), some (.pointer (some ⟨N1, M * 6, none⟩)), some (.pointer (some ⟨N1, M * 6 + j, none⟩)), none]) ?_ ?_ ?_
      · intro v hv0
        exact ⟨hb.drew, Nat.le_refl _, B0.drew, B1.drew, ⟨_, B2.drew⟩, (fun _ => B2.drew), (fun h => by cases h), VF.start⟩
      · refine (.cons rfl ?_ (.cons rfl ?_ (.cons rfl ?_ (.cons rfl ?_ (.cons rfl ?_ (.cons rfl ?_ (.cons rfl ?_ (.cons rfl ?_ (.cons rfl ?_ (.cons rfl ?_ (.cons rfl ?_ (.cons rfl ?_ (.cons rfl ?_ (.cons rfl ?_ (.cons rfl ?_ (.cons rfl ?_ (.cons rfl ?_ (.cons rfl ?_ (.cons rfl ?_ (.cons rfl ?_ (.cons rfl ?_ (.cons rfl ?_ (.cons rfl ?_ (.nil _))))))))))))))))))))))))
        all_goals intro L v W4 hd hn ⟨hB, hz, s0, s1, x2, q2, n2, V⟩ K hK
        · go_wp2_with fail
          exact hK _ (.int .i64 (n : Int)) _ (by simp only [Act.put, pA, pB, pC ]) ⟨hB, hz, s0, s1, x2, q2, n2, V.step 0 rfl⟩
        · have e0 := V.at (zdq hd 0 rfl) rfl
          go_wp2_with fail
          exact hK _ (.int .i64 (M : Int)) _ (by simp only [Act.put, pA, pB, pC, e0]) ⟨hB, hz, s0, s1, x2, q2, n2, V.step 1 rfl⟩
        · go_wp2_with fail
          exact hK _ (.int .i64 (j : Int)) _ (by simp only [Act.put, pA, pB, pC ]) ⟨hB, hz, s0, s1, x2, q2, n2, V.step 2 rfl⟩
        · go_wp2_with fail
          exact hK _ (.int .i64 (n : Int)) _ (by simp only [Act.put, pA, pB, pC ]) ⟨hB, hz, s0, s1, x2, q2, n2, V.step 3 rfl⟩
        · have e3 := V.at (zdq hd 3 rfl) rfl
          go_wp2_with fail
          exact hK _ (.int .i64 (M : Int)) _ (by simp only [Act.put, pA, pB, pC, e3]) ⟨hB, hz, s0, s1, x2, q2, n2, V.step 4 rfl⟩
        · go_wp2_with fail
          exact hK _ (.int .i64 (j : Int)) _ (by simp only [Act.put, pA, pB, pC ]) ⟨hB, hz, s0, s1, x2, q2, n2, V.step 5 rfl⟩
        · have e4 := V.at (zdq hd 4 rfl) rfl
          go_wp2_with fail
          exact hK _ (.pointer (some ⟨N1, M * 6, none⟩)) _ (by simp only [Act.put, pA, pB, pC, e4]) ⟨hB, hz, s0, s1, x2, q2, n2, V.step 6 rfl⟩
        · have e6 := V.at (zdq hd 6 rfl) rfl
          have e5 := V.at (zdq hd 5 rfl) rfl
          go_wp2_with fail
          exact hK _ (.pointer (some ⟨N1, M * 6 + j, none⟩)) _ (by simp only [Act.put, pA, pB, pC, e6, e5]) ⟨hB, hz, s0, s1, x2, q2, n2, V.step 7 rfl⟩
        · have e7 := V.at (zdq hd 7 rfl) rfl
          have s2 := q2 (by
           cases hL : L 22 with
           | false => rfl
           | true => exact absurd rfl (hn 22 _ rfl hL ⟨8, .phase⟩ (by simp) rfl))
          have cc := s2.cell (i := M * 6 + j) (by omega)
          rw [HCX.out] at cc
          go_wp2_with fail
          exact hK _ (.int .u8 (C : Int)) _ (by simp only [Act.put, pA, pB, pC, e7]) ⟨hB, hz, s0, s1, x2, q2, n2, V.step 8 rfl⟩
        · have e8 := V.at (zdq hd 8 rfl) rfl
          go_wp2_with fail
          exact hK _ (.int .i64 (C : Int)) _ (by simp only [Act.put, pA, pB, pC, e8]) ⟨hB, hz, s0, s1, x2, q2, n2, V.step 9 rfl⟩
        · go_wp2_with fail
          exact hK _ (.int .i64 (p : Int)) _ (by simp only [Act.put, pA, pB, pC ]) ⟨hB, hz, s0, s1, x2, q2, n2, V.step 10 rfl⟩
        · have e9 := V.at (zdq hd 9 rfl) rfl
          have e10 := V.at (zdq hd 10 rfl) rfl
          go_wp2_with fail
          exact hK _ (.int .i64 ((C : Int) + (p : Int))) _ (by simp only [Act.put, pA, pB, pC, e9, e10]) ⟨hB, hz, s0, s1, x2, q2, n2, V.step 11 rfl⟩
        · go_wp2_with fail
          exact hK _ (.int .i64 (j : Int)) _ (by simp only [Act.put, pA, pB, pC ]) ⟨hB, hz, s0, s1, x2, q2, n2, V.step 12 rfl⟩
        · have e12 := V.at (zdq hd 12 rfl) rfl
          go_wp2_with fail
          exact hK _ (.pointer (some ⟨w.heap.size, j, none⟩)) _ (by simp only [Act.put, pA, pB, pC, e12]) ⟨hB, hz, s0, s1, x2, q2, n2, V.step 13 rfl⟩
        · have e13 := V.at (zdq hd 13 rfl) rfl
          have cc := s0.cell (i := j) (by omega)
          rw [← HA.out] at cc
          go_wp2_with fail
          exact hK _ (.int .u8 (A : Int)) _ (by simp only [Act.put, pA, pB, pC, e13]) ⟨hB, hz, s0, s1, x2, q2, n2, V.step 14 rfl⟩
        · have e14 := V.at (zdq hd 14 rfl) rfl
          go_wp2_with fail
          exact hK _ (.int .i64 (A : Int)) _ (by simp only [Act.put, pA, pB, pC, e14]) ⟨hB, hz, s0, s1, x2, q2, n2, V.step 15 rfl⟩
        · have e11 := V.at (zdq hd 11 rfl) rfl
          have e15 := V.at (zdq hd 15 rfl) rfl
          go_wp2_with fail
          exact hK _ (.int .i64 ((C : Int) + (p : Int) - (A : Int))) _ (by simp only [Act.put, pA, pB, pC, e11, e15]) ⟨hB, hz, s0, s1, x2, q2, n2, V.step 16 rfl⟩
        · go_wp2_with fail
          exact hK _ (.int .i64 (p : Int)) _ (by simp only [Act.put, pA, pB, pC ]) ⟨hB, hz, s0, s1, x2, q2, n2, V.step 17 rfl⟩
        · have e16 := V.at (zdq hd 16 rfl) rfl
          have e17 := V.at (zdq hd 17 rfl) rfl
          go_wp2_with fail
          exact hK _ (.int .i64 (Z : Int)) _ (by simp only [Act.put, pA, pB, pC, e16, e17]) ⟨hB, hz, s0, s1, x2, q2, n2, V.step 18 rfl⟩
        · have e18 := V.at (zdq hd 18 rfl) rfl
          go_wp2_with fail
          exact hK _ (.int .u8 (Z : Int)) _ (by simp only [Act.put, pA, pB, pC, e18]) ⟨hB, hz, s0, s1, x2, q2, n2, V.step 19 rfl⟩
        · have e1 := V.at (zdq hd 1 rfl) rfl
          go_wp2_with fail
          exact hK _ (.pointer (some ⟨N1, M * 6, none⟩)) _ (by simp only [Act.put, pA, pB, pC, e1]) ⟨hB, hz, s0, s1, x2, q2, n2, V.step 20 rfl⟩
        · have e20 := V.at (zdq hd 20 rfl) rfl
          have e2 := V.at (zdq hd 2 rfl) rfl
          go_wp2_with fail
          exact hK _ (.pointer (some ⟨N1, M * 6 + j, none⟩)) _ (by simp only [Act.put, pA, pB, pC, e20, e2]) ⟨hB, hz, s0, s1, x2, q2, n2, V.step 21 rfl⟩
        · have e21 := V.at (zdq hd 21 rfl) rfl
          have e19 := V.at (zdq hd 19 rfl) rfl
          obtain ⟨gz, hk⟩ := x2
          have zz := hk.frozen (M * 6 + j)
          have cc := hk.cell (i := M * 6 + j) (by omega)
          go_wp2_with fail
          exact hK _ undef _ (by simp only [Act.put, pA, pB, pC, e21, e19]) ⟨hB.setCell (by simp <;> omega) _, (by simpa using hz), (s0).setOther (by simp <;> omega), (s1).setOther (by simp <;> omega), ⟨_, hk.set (v := Z) rfl⟩, (fun h => absurd h (by simp [setL])), (fun _ => by cases hL : L 22 with | false => exact ((q2 hL).set (v := Z) rfl) | true => exact (((n2 hL).set (v := Z) rfl).congr (fun k _ => by unfold upd; split <;> rfl))), V.skip 22 rfl⟩
      · intro L v W4 hL ⟨hB, hz, s0, s1, x2, q2, n2, V⟩
        have r2 := n2 (hL 22 (by decide))
        have e0 := V.at (hL 0 (by decide)) rfl
        have e1 := V.at (hL 1 (by decide)) rfl
        have e2 := V.at (hL 2 (by decide)) rfl
        have e3 := V.at (hL 3 (by decide)) rfl
        have e4 := V.at (hL 4 (by decide)) rfl
        have e5 := V.at (hL 5 (by decide)) rfl
        have e6 := V.at (hL 6 (by decide)) rfl
        have e7 := V.at (hL 7 (by decide)) rfl
        have e8 := V.at (hL 8 (by decide)) rfl
        have e9 := V.at (hL 9 (by decide)) rfl
        have e10 := V.at (hL 10 (by decide)) rfl
        have e11 := V.at (hL 11 (by decide)) rfl
        have e12 := V.at (hL 12 (by decide)) rfl
        have e13 := V.at (hL 13 (by decide)) rfl
        have e14 := V.at (hL 14 (by decide)) rfl
        have e15 := V.at (hL 15 (by decide)) rfl
        have e16 := V.at (hL 16 (by decide)) rfl
        have e17 := V.at (hL 17 (by decide)) rfl
        have e18 := V.at (hL 18 (by decide)) rfl
        have e19 := V.at (hL 19 (by decide)) rfl
        have e20 := V.at (hL 20 (by decide)) rfl
        have e21 := V.at (hL 21 (by decide)) rfl
        clear hL x2 q2 n2 V
        simp only [Exit.then, e0, e1, e2, e3, e4, e5, e6, e7, e8, e9, e10, e11, e12, e13, e14, e15, e16, e17, e18, e19, e20, e21]
        clear e0 e1 e2 e3 e4 e5 e6 e7 e8 e9 e10 e11 e12 e13 e14 e15 e16 e17 e18 e19 e20 e21
        replace B0 := s0
        clear s0
        replace B1 := s1
        clear s1
        replace B2 := r2
        clear r2
        replace hb := hB
        clear hB
        clear hbase hz lt_B0 lt_B1 lt_B2
        go_wp2_with fail
        go_roundw
        case rel => exact ⟨j + 1, _, by go_num, by omega, HX, hb, B0, B1, B2⟩
        case measure => simp [intOf] <;> omega
  · have hjI : ¬ (j : Int) < (n : Int) := by omega
    obtain rfl : j = n := by omega
    have HE := Lib.hid (HV.out f hf.out)
    go_upto_region 8 with (fail)
    have lt_B0 := B0.lt
    have lt_B1 := B1.lt
    have lt_B2 := B2.lt
    go_wp2_with (first | rw [← z64] | rw [← zero36] | (refine zla (.tmp 6) B2 Try.underlying66 Try.size66 ?_) | (refine zsr (.tmp 4) (.tmp 47) (f) B1 Try.size66 ?_; try simp only [Act.put]))
    obtain ⟨W4, hwo, hzQ⟩ : ∃ v : World, v = (wr.setRow (w.heap.size + 1) (zb 36 (f))) ∧ Blk v (w.heap.size) 64 23 (a) ∧ Blk v (w.heap.size + 1) 36 66 (f) ∧ Blk v (N1) 36 66 (f) ∧ Below w.heap.size w v := ⟨_, rfl, (B0.rowOther (by omega)), (B1.row (f)), (B2.rowOther (by omega)), (zr hb (by omega) _)⟩
    rw [← hwo]
    clear hwo B0 B1 B2 hb
    obtain ⟨B0, B1, B2, hb⟩ := hzQ
    try simp only [Act.put, pA, pB, pC]
    refine bodyPost_ret (results_any rfl _ _ _ 36 _ _ rfl B1 _ Try.underlying66 rfl Try.size66) rfl ⟨by rw [HE.out], hb⟩
set_option maxRecDepth 100000 in
set_option maxHeartbeats 1600000 in
theorem spec_CompanionOf_any (p : Int) (a : Nat → Nat) (ha : byte a) (w : World) :
 Calls Try.prog 54 #[.int .i64 p, .agg (zb 64 a)] w fun e w' => e = .returned (.tuple #[.agg (zb 36 (fl 6 (cmV p a).1)), .int .i64 (cmV p a).2]) ∧ Below w.heap.size w w' := by
 obtain ⟨fb1, fb2⟩ := zdb a
 go_enter Try.func54, Try.ntmps54
 go_upto_region 1 with (fail)
 rw [← zero36]
 obtain ⟨W1, hwo⟩ : ∃ v : World, v = ((w.alloc (.cells (zb 64 (a)) 23)).alloc (.cells (zb 36 (fl 6 (fun _ _ => 0))) 66)) := ⟨_, rfl⟩
 have B0 : Blk W1 (w.heap.size) 64 23 (a) := by subst hwo; have := ((Blk.new w 64 23 (a)).alloc (.cells (zb 36 (fl 6 (fun _ _ => 0))) 66)); simpa using this
 have B1 : Blk W1 (w.heap.size + 1) 36 66 (fl 6 (fun _ _ => 0)) := by subst hwo; have := (Blk.new (w.alloc (.cells (zb 64 (a)) 23)) 36 66 (fl 6 (fun _ _ => 0))); simpa using this
 have hb : Below w.heap.size w W1 := by subst hwo; exact (((Below.refl _ _).alloc (Nat.le_refl _) _).alloc (by simp) _)
 rw [← hwo]
 clear hwo
 cases hok : okA p a with
 | false =>
  have HV := Lib.hid (cmV_no (p := p) (a := a) (by rw [hok]; rfl))
  go_upto_region 2 with (first | (refine zla (.tmp 3) B0 Try.underlying23 Try.size23 ?_) | (go_at_call 107; refine (l01Is_any _ a ha _).mono ?_; rintro e W2 ⟨rfl, hW2⟩; replace B0 := B0.zw hW2; replace B1 := B1.zw hW2; replace hb := (hb).trans (hW2.mono (hb).size); rw [hok]))
  have lt_B0 := B0.lt
  have lt_B1 := B1.lt
  go_wp2_with (first | rw [← z64] | rw [← zero36] | (refine zsr (.tmp 4) (.tmp 21) (fl 6 (fun _ _ => 0)) B1 Try.size66 ?_; try simp only [Act.put]; go_wp2_with fail))
  obtain ⟨W3, hwo, hzQ⟩ : ∃ v : World, v = (W2.setRow (w.heap.size + 1) (zb 36 (fl 6 (fun _ _ => 0)))) ∧ Blk v (w.heap.size) 64 23 (a) ∧ Blk v (w.heap.size + 1) 36 66 (fl 6 (fun _ _ => 0)) ∧ Below w.heap.size w v := ⟨_, rfl, (B0.rowOther (by omega)), (B1.row (fl 6 (fun _ _ => 0))), (zr hb (by omega) _)⟩
  rw [← hwo]
  clear hwo B0 B1 hb
  obtain ⟨B0, B1, hb⟩ := hzQ
  try simp only [Act.put, pA, pB, pC]
  refine bodyPost_ret (zrt rfl _ _ _ 36 _ _ rfl B1 _ Try.underlying66 rfl Try.size66) rfl ⟨by first | (rw [HV.out]; rfl) | rw [HV.out], hb⟩
 | true =>
  cases hmo : monB a with
  | false =>
   have HV := Lib.hid (cmV_no (p := p) (a := a) (by rw [monUp_B, hmo]; simp))
   go_upto_region 2 with (first | (refine zla (.tmp 3) B0 Try.underlying23 Try.size23 ?_) | (go_at_call 107; refine (l01Is_any _ a ha _).mono ?_; rintro e W2 ⟨rfl, hW2⟩; replace B0 := B0.zw hW2; replace B1 := B1.zw hW2; replace hb := (hb).trans (hW2.mono (hb).size); rw [hok]) | (refine zlg rfl 23 (.tmp 3) rfl _ rfl 64 23 _ (B0) _ Try.underlying23 rfl Try.size23 ?_) | (go_at_call 108; refine (l01Monic_any a ha _).mono ?_; rintro e W3 ⟨rfl, hW3⟩; replace B0 := B0.zw hW3; replace B1 := B1.zw hW3; replace hb := (hb).trans (hW3.mono (hb).size); rw [hmo]))
   have lt_B0 := B0.lt
   have lt_B1 := B1.lt
   go_wp2_with (first | rw [← z64] | rw [← zero36] | (refine zsr (.tmp 4) (.tmp 21) (fl 6 (fun _ _ => 0)) B1 Try.size66 ?_; try simp only [Act.put]; go_wp2_with fail))
   obtain ⟨W4, hwo, hzQ⟩ : ∃ v : World, v = (W3.setRow (w.heap.size + 1) (zb 36 (fl 6 (fun _ _ => 0)))) ∧ Blk v (w.heap.size) 64 23 (a) ∧ Blk v (w.heap.size + 1) 36 66 (fl 6 (fun _ _ => 0)) ∧ Below w.heap.size w v := ⟨_, rfl, (B0.rowOther (by omega)), (B1.row (fl 6 (fun _ _ => 0))), (zr hb (by omega) _)⟩
   rw [← hwo]
   clear hwo B0 B1 hb
   obtain ⟨B0, B1, hb⟩ := hzQ
   try simp only [Act.put, pA, pB, pC]
   refine bodyPost_ret (zrt rfl _ _ _ 36 _ _ rfl B1 _ Try.underlying66 rfl Try.size66) rfl ⟨by first | (rw [HV.out]; rfl) | rw [HV.out], hb⟩
  | true =>
   by_cases hr : 1 ≤ deg a ∧ deg a ≤ 6
   · obtain ⟨d, hdd⟩ : ∃ d : Nat, deg a = (d : Int) := ⟨(deg a).toNat, by omega⟩
     obtain ⟨n, hn, n2, n7⟩ := okP_nat (okA_p hok)
     subst hn
     have HV := Lib.hid (cmV_yes (p := n) (n := d) (a := a) (by rw [hok, monUp_B, hmo]; simpa using hr) hdd)
     have HCO := Lib.hid (fun W => l05Companion_any n d a W n2 n7 (fun k hk => by have := okA_lt hok hk; omega) hdd (by omega) (by omega))
     clear hdd
     go_upto_region 3 with (first | (refine zla (.tmp 3) B0 Try.underlying23 Try.size23 ?_) | (go_at_call 107; refine (l01Is_any _ a ha _).mono ?_; rintro e W2 ⟨rfl, hW2⟩; replace B0 := B0.zw hW2; replace B1 := B1.zw hW2; replace hb := (hb).trans (hW2.mono (hb).size); rw [hok]) | (refine zlg rfl 23 (.tmp 3) rfl _ rfl 64 23 _ (B0) _ Try.underlying23 rfl Try.size23 ?_) | (go_at_call 108; refine (l01Monic_any a ha _).mono ?_; rintro e W3 ⟨rfl, hW3⟩; replace B0 := B0.zw hW3; replace B1 := B1.zw hW3; replace hb := (hb).trans (hW3.mono (hb).size); rw [hmo]) | (refine zlg rfl 23 (.tmp 3) rfl _ rfl 64 23 _ (B0) _ Try.underlying23 rfl Try.size23 ?_) | (go_at_call 74; refine (l01Deg_any a _).mono ?_; rintro e W4 ⟨rfl, hW4⟩; replace B0 := B0.zw hW4; replace B1 := B1.zw hW4; replace hb := (hb).trans (hW4.mono (hb).size)) | (go_at_call 85; refine (l01In_yes (deg a) 1 6 hr _).mono ?_; rintro e wS ⟨rfl, rfl⟩))
     have lt_B0 := B0.lt
     have lt_B1 := B1.lt
     go_wp2_with (first | rw [← z64] | rw [← zero36] | (refine zla (.tmp 3) B0 Try.underlying23 Try.size23 ?_) | (go_at_call 109; refine (HCO.out _).mono ?_; rintro e W5 ⟨rfl, hW5⟩; replace B0 := B0.zw hW5; replace B1 := B1.zw hW5; replace hb := (hb).trans (hW5.mono (hb).size)) | (refine zsr (.tmp 4) (.tmp 24) (fl 6 (cmS n d a)) B1 Try.size66 ?_; try simp only [Act.put]; go_wp2_with fail))
     obtain ⟨W6, hwo, hzQ⟩ : ∃ v : World, v = (W5.setRow (w.heap.size + 1) (zb 36 (fl 6 (cmS n d a)))) ∧ Blk v (w.heap.size) 64 23 (a) ∧ Blk v (w.heap.size + 1) 36 66 (fl 6 (cmS n d a)) ∧ Below w.heap.size w v := ⟨_, rfl, (B0.rowOther (by omega)), (B1.row (fl 6 (cmS n d a))), (zr hb (by omega) _)⟩
     rw [← hwo]
     clear hwo B0 B1 hb
     obtain ⟨B0, B1, hb⟩ := hzQ
     try simp only [Act.put, pA, pB, pC]
     refine bodyPost_ret (zrt rfl _ _ _ 36 _ _ rfl B1 _ Try.underlying66 rfl Try.size66) rfl ⟨by first | (rw [HV.out]; rfl) | rw [HV.out], hb⟩
   · have HV := Lib.hid (cmV_no (p := p) (a := a) (by rw [monUp_B, hmo]; simp; omega))
     go_upto_region 2 with (first | (refine zla (.tmp 3) B0 Try.underlying23 Try.size23 ?_) | (go_at_call 107; refine (l01Is_any _ a ha _).mono ?_; rintro e W2 ⟨rfl, hW2⟩; replace B0 := B0.zw hW2; replace B1 := B1.zw hW2; replace hb := (hb).trans (hW2.mono (hb).size); rw [hok]) | (refine zlg rfl 23 (.tmp 3) rfl _ rfl 64 23 _ (B0) _ Try.underlying23 rfl Try.size23 ?_) | (go_at_call 108; refine (l01Monic_any a ha _).mono ?_; rintro e W3 ⟨rfl, hW3⟩; replace B0 := B0.zw hW3; replace B1 := B1.zw hW3; replace hb := (hb).trans (hW3.mono (hb).size); rw [hmo]) | (refine zlg rfl 23 (.tmp 3) rfl _ rfl 64 23 _ (B0) _ Try.underlying23 rfl Try.size23 ?_) | (go_at_call 74; refine (l01Deg_any a _).mono ?_; rintro e W4 ⟨rfl, hW4⟩; replace B0 := B0.zw hW4; replace B1 := B1.zw hW4; replace hb := (hb).trans (hW4.mono (hb).size)) | (go_at_call 85; refine (l01In_no (deg a) 1 6 hr _).mono ?_; rintro e wS ⟨rfl, rfl⟩))
     have lt_B0 := B0.lt
     have lt_B1 := B1.lt
     go_wp2_with (first | rw [← z64] | rw [← zero36] | (refine zsr (.tmp 4) (.tmp 21) (fl 6 (fun _ _ => 0)) B1 Try.size66 ?_; try simp only [Act.put]; go_wp2_with fail))
     obtain ⟨W5, hwo, hzQ⟩ : ∃ v : World, v = (W4.setRow (w.heap.size + 1) (zb 36 (fl 6 (fun _ _ => 0)))) ∧ Blk v (w.heap.size) 64 23 (a) ∧ Blk v (w.heap.size + 1) 36 66 (fl 6 (fun _ _ => 0)) ∧ Below w.heap.size w v := ⟨_, rfl, (B0.rowOther (by omega)), (B1.row (fl 6 (fun _ _ => 0))), (zr hb (by omega) _)⟩
     rw [← hwo]
     clear hwo B0 B1 hb
     obtain ⟨B0, B1, hb⟩ := hzQ
     try simp only [Act.put, pA, pB, pC]
     refine bodyPost_ret (zrt rfl _ _ _ 36 _ _ rfl B1 _ Try.underlying66 rfl Try.size66) rfl ⟨by first | (rw [HV.out]; rfl) | rw [HV.out], hb⟩
end Go.Proofs.Ytobcdekochenfaa
end
section
namespace Go.Proofs.Ytobcdekochenfaa
open Go Go.RowKit
set_option linter.unusedVariables false
set_option linter.unusedSimpArgs false
set_option maxRecDepth 100000 in
set_option maxHeartbeats 1600000 in
theorem FnExactCompanionOf_walk (p : Int) (f : Nat → Nat) (hf : byte f) (w : World) :
 Calls Try.prog 16 #[.int .i64 p, .agg (zb 64 f)] w fun e w' => e = .returned (.bool true) ∧ Below w.heap.size w w' := by
 go_enter Try.func16, Try.ntmps16
 go_upto_region 1 with (fail)
 obtain ⟨W1, hwo⟩ : ∃ v : World, v = (w.alloc (.cells (zb 64 (f)) 22)) := ⟨_, rfl⟩
 have B0 : Blk W1 (w.heap.size) 64 22 (f) := by subst hwo; have := (Blk.new w 64 22 (f)); simpa using this
 have hb : Below w.heap.size w W1 := by subst hwo; exact ((Below.refl _ _).alloc (Nat.le_refl _) _)
 rw [← hwo]
 clear hwo
 have hne1 : (((cmV p f).2) != ((cmV p f).2)) = false := by simp
 have lt_B0 := B0.lt
 go_upto_region 2 with (first | rw [← z64] | rw [← zero36] | (refine zla (.tmp 3) B0 Try.underlying22 Try.size22 ?_) | (go_at_call 25; refine (toPoly_any f hf _).mono ?_; rintro e W2 ⟨rfl, hW2⟩; replace B0 := B0.zw hW2; replace hb := (hb).trans (hW2.mono (hb).size)) | (go_at_call 54; refine (spec_CompanionOf_any p f hf _).mono ?_; rintro e W3 ⟨rfl, hW3⟩; replace B0 := B0.zw hW3; replace hb := (hb).trans (hW3.mono (hb).size)) | (refine wpList_store_blk rfl 66 (.tmp 5) (.tmp 14) rfl _ 36 (fl 6 ((cmV p f).1)) rfl rfl 66 _ ((Blk.new W3 36 66 (fl 6 (fun _ _ => 0)))) Try.size66 ?_; try simp only [Act.put]; go_upto_region 2 with (fail)))
 have lt_B0 := B0.lt
 have lhb := hb.size
 obtain ⟨W4, hwo, hzQ⟩ : ∃ v : World, v = ((W3.alloc (.cells (zb 36 (fl 6 (fun _ _ => 0))) 66)).setRow (W3.heap.size) (zb 36 (fl 6 ((cmV p f).1)))) ∧ Blk v (w.heap.size) 64 22 (f) ∧ Blk v (W3.heap.size) 36 66 (fl 6 ((cmV p f).1)) ∧ Below w.heap.size w v := ⟨_, rfl, ((B0.alloc (.cells (zb 36 (fl 6 (fun _ _ => 0))) 66)).rowOther (by omega)), ((Blk.new W3 36 66 (fl 6 (fun _ _ => 0))).row (fl 6 ((cmV p f).1))), (zr (hb.alloc (by have := hb.size; simp; omega) (.cells (zb 36 (fl 6 (fun _ _ => 0))) 66)) (by omega) _)⟩
 rw [← hwo]
 clear hwo B0 hb
 obtain ⟨B0, B1, hb⟩ := hzQ
 obtain ⟨N1, hNN⟩ : ∃ n : Nat, n = W3.heap.size := ⟨_, rfl⟩
 rw [← hNN] at lt_B0 lhb B1 ⊢
 clear hNN
 have zN1_0 := lt_B0
 have zN1 := lhb
 clear lt_B0 lhb
 try simp only [Act.put, pA, pB, pC]
 have lt_B0 := B0.lt
 have lt_B1 := B1.lt
 go_upto_region 3 with (first | rw [← z64] | rw [← zero36] | (refine zla (.tmp 3) B0 Try.underlying22 Try.size22 ?_) | (go_at_call 25; refine (toPoly_any f hf _).mono ?_; rintro e W5 ⟨rfl, hW5⟩; replace B0 := B0.zw hW5; replace B1 := B1.zw hW5; replace hb := (hb).trans (hW5.mono (hb).size)) | (go_at_call 55; refine (impl_CompanionOf_any p f hf _).mono ?_; rintro e W6 ⟨rfl, hW6⟩; replace B0 := B0.zw hW6; replace B1 := B1.zw hW6; replace hb := (hb).trans (hW6.mono (hb).size)) | (refine wpList_store_blk rfl 66 (.tmp 7) (.tmp 21) rfl _ 36 (fl 6 ((cmV p f).1)) rfl rfl 66 _ ((Blk.new W6 36 66 (fl 6 (fun _ _ => 0)))) Try.size66 ?_; try simp only [Act.put]; go_upto_region 3 with (fail)))
 have lt_B0 := B0.lt
 have lt_B1 := B1.lt
 have lhb := hb.size
 obtain ⟨W7, hwo, hzQ⟩ : ∃ v : World, v = ((W6.alloc (.cells (zb 36 (fl 6 (fun _ _ => 0))) 66)).setRow (W6.heap.size) (zb 36 (fl 6 ((cmV p f).1)))) ∧ Blk v (w.heap.size) 64 22 (f) ∧ Blk v (N1) 36 66 (fl 6 ((cmV p f).1)) ∧ Blk v (W6.heap.size) 36 66 (fl 6 ((cmV p f).1)) ∧ Below w.heap.size w v := ⟨_, rfl, ((B0.alloc (.cells (zb 36 (fl 6 (fun _ _ => 0))) 66)).rowOther (by omega)), ((B1.alloc (.cells (zb 36 (fl 6 (fun _ _ => 0))) 66)).rowOther (by omega)), ((Blk.new W6 36 66 (fl 6 (fun _ _ => 0))).row (fl 6 ((cmV p f).1))), (zr (hb.alloc (by have := hb.size; simp; omega) (.cells (zb 36 (fl 6 (fun _ _ => 0))) 66)) (by omega) _)⟩
 rw [← hwo]
 clear hwo B0 B1 hb
 obtain ⟨B0, B1, B2, hb⟩ := hzQ
 obtain ⟨N2, hNN⟩ : ∃ n : Nat, n = W6.heap.size := ⟨_, rfl⟩
 rw [← hNN] at lt_B0 lt_B1 lhb B2 ⊢
 clear hNN
 have zN2_0 := lt_B0
 have zN2_1 := lt_B1
 have zN2 := lhb
 clear lt_B0 lt_B1 lhb
 try simp only [Act.put, pA, pB, pC]
 go_wp2_with (first | (refine zla (.tmp 7) B2 Try.underlying66 Try.size66 ?_) | (refine zla (.tmp 5) B1 Try.underlying66 Try.size66 ?_) | (go_at_call 56; refine (eqSquare_same _ _ (fun _ _ _ _ => rfl) _).mono ?_; rintro e W8 ⟨rfl, hW8⟩; replace B0 := B0.zw hW8; replace B1 := B1.zw hW8; replace B2 := B2.zw hW8; replace hb := (hb).trans (hW8.mono (hb).size)))
 go_ret
 exact ⟨rfl, hb⟩
end Go.Proofs.Ytobcdekochenfaa
end
section
namespace Go.Proofs.Ytobcdekochenfaa
open Go.ChangeShapes Go.WideShapes Go.ChangeAt Go.RowKit
section
variable {H : Type} {enc : TypeId × Value → H} {P : Program}
theorem trod_int_to {e : TypeId} {k : IntKind} (he : P.underlying e = some (.int k)) {w : World} (w' : World) {b : Nat} (b' : Nat) {s : Nat → Bool} (s' : Nat → Bool) {h : Bool} (h' : Bool) {m : Nat} {c : List Value} {x : DataW H × List MemPlace}
 (hx : DataW.trod enc P w b s h m e c = some x) : DataW.trod enc P w' b' s' h' m e c = some x := by
 cases m with
 | zero => simp [DataW.trod] at hx
 | succ m =>
  obtain ⟨n, rfl, rfl, hw⟩ := DataW.trod_int he hx
  unfold DataW.trod
  rw [he]
  simp [hw]
theorem trod_int_same {e : TypeId} {k : IntKind} (he : P.underlying e = some (.int k)) (w w' : World) (b b' : Nat) (s s' : Nat → Bool) (h h' : Bool) (m : Nat) (c : List Value) :
 DataW.trod enc P w b s h m e c = DataW.trod enc P w' b' s' h' m e c := by
 cases h1 : DataW.trod enc P w b s h m e c with
 | some x => rw [trod_int_to he w' b' s' h' h1]
 | none =>
  cases h2 : DataW.trod enc P w' b' s' h' m e c with
  | none => rfl
  | some x => rw [trod_int_to he w b s h h2] at h1; cases h1
theorem open_barr {t e : TypeId} {n : Nat} {w : World} {r : Reach} {b0 base : Nat} {spare : Nat → Bool} {held : Bool} {v : Value} {d : DataW H} {p : List MemPlace}
 (ht : P.underlying t = some (.array n e)) (he : P.underlying e = some (.int .u8)) (hC : P.cellsOf t = n) (hCe : P.cellsOf e = 1)
 (hv : Value.okWide P w r b0 t v) (h : DataW.Trod enc P w base spare held t v d p) :
 ∃ f : Nat → Nat, byte f ∧ v = .agg (zb n f) ∧ p = [] ∧ ∀ (w' : World) (base' : Nat) (spare' : Nat → Bool) (held' : Bool), DataW.Trod enc P w' base' spare' held' t v d [] := by
 unfold Value.okWide at hv
 rw [ht] at hv
 obtain ⟨cs, rfl, hsz, _⟩ := hv
 obtain ⟨fuel, hf⟩ := h
 obtain ⟨xs, m, hm, hx, hlen, hxl, hel⟩ := DataW.trod_array ht hf
 subst hm
 have hcs : cs.size = n := by rw [hsz, hC]
 have each : ∀ i, i < n → ∃ k : Nat, k < 256 ∧ cs[i]? = some (.int .u8 (k : Int)) ∧ xs[i]? = some (.lit (.int .u8 (k : Int)), []) := by
  intro i hi
  have h1 := hel i hi
  have hxi : xs[i]? = some (xs[i]'(by omega)) := List.getElem?_eq_getElem (by omega)
  rw [hxi, hCe] at h1
  obtain ⟨z, hz1, hz2, hz3⟩ := DataW.trod_int he h1
  have hb := bounds_u8 hz3
  obtain ⟨k, rfl⟩ := Int.eq_ofNat_of_zero_le hb.1
  refine ⟨k, by omega, ?_, by rw [hxi, hz2]⟩
  have h2 : ((cs.toList.drop (i * 1)).take 1)[0]? = some (.int .u8 (k : Int)) := by
   have h3 : (Value.agg cs).cells.toList = cs.toList := rfl
   rw [← h3, hz1]; rfl
  simpa using h2
 refine ⟨fun i => match cs[i]? with | some (.int _ z) => if i < n then z.toNat else 0 | _ => 0, ?_, ?_, ?_, ?_⟩
 · intro i
   by_cases hi : i < n
   · obtain ⟨k, hk, hc, _⟩ := each i hi
     simp only [hc, hi, if_true, Int.toNat_natCast]
     exact hk
   · have : cs[i]? = none := Array.getElem?_eq_none (by omega)
     simp [this]
 · congr 1
   apply Array.ext_getElem?
   intro i
   by_cases hi : i < n
   · obtain ⟨k, hk, hc, _⟩ := each i hi
     rw [bcells_get hi]
     simp only [hc, hi, if_true, Int.toNat_natCast]
   · rw [Array.getElem?_eq_none (by omega), Array.getElem?_eq_none (by rw [zbs]; omega)]
 · have hp : p = xs.flatMap (·.2) := by simpa using congrArg Prod.snd hx
   rw [hp]
   rw [List.flatMap_eq_nil_iff]
   intro x hxm
   obtain ⟨i, hi⟩ := List.getElem?_of_mem hxm
   have hin : i < n := by rw [← hxl]; exact (List.getElem?_eq_some_iff.1 hi).1
   obtain ⟨k, _, _, h2⟩ := each i hin
   rw [hi] at h2
   injection h2 with h2
   rw [h2]
 · intro w' base' spare' held'
   refine ⟨m + 1, ?_⟩
   have e1 : DataW.trod enc P w' base' spare' held' (m + 1) t (Value.agg cs).cells.toList = DataW.trod enc P w base spare held (m + 1) t (Value.agg cs).cells.toList := by
    unfold DataW.trod
    rw [ht]
    simp only [trod_int_same he w' w base' base spare' spare held' held m]
   rw [e1, hf]
   have hp : p = xs.flatMap (·.2) := by simpa using congrArg Prod.snd hx
   have : p = [] := by
    rw [hp, List.flatMap_eq_nil_iff]
    intro x hxm
    obtain ⟨i, hi⟩ := List.getElem?_of_mem hxm
    have hin : i < n := by rw [← hxl]; exact (List.getElem?_eq_some_iff.1 hi).1
    obtain ⟨k, _, _, h2⟩ := each i hin
    rw [hi] at h2
    injection h2 with h2
    rw [h2]
   rw [this]
/-- the row's last step where the call has only made new memory, and the row does not say 'again' -/
theorem post_of_below0 {f : Func} {s : ChangeSpec} {apart fresh handsOn : Bool} {W W' : World} {args : Array Value} {v : Value} {ds gs : List (DataW H)} {before pa pv : List MemPlace}
 (hW : DataW.Whole enc P f.params.toList s.vars apart W args.toList ds gs before)
 (hres : ∀ (b : Nat) (sp : Nat → Bool) (hd : Bool), DataW.TrodAll enc P W' b sp hd f.resultTypes.toList (v.resultList f.resultTypes.size) (s.fn H (ds ++ gs)).results [])
 (hargs : ∀ sp : Nat → Bool, (∀ p ∈ before, sp p.block = true) → DataW.TrodAll enc P W' 0 sp true f.params.toList args.toList (s.fn H (ds ++ gs)).args pa)
 (hvars : ∀ sp : Nat → Bool, (∀ p ∈ before, sp p.block = true) → DataW.TrodVars enc P W' sp s.vars (s.fn H (ds ++ gs)).vars pv)
 (hps : before = pa ++ pv) (hb : Below W.heap.size W W') : s.post enc P f apart fresh handsOn false W args v W' := by
 have held : ∀ p ∈ before, (fun b => decide (b < W.heap.size)) p.block = true := fun p hp => by simpa using hW.lt p hp
 refine ⟨ds, gs, before, [], pa, pv, hW, hres _ _ _, hargs _ held, hvars _ held, ?_, fun h => by cases h⟩
 refine World.keptBut_mono (fun p hp => ⟨hp, .inr ?_⟩) (hb.frame (· ∈ before))
 rw [hps, List.mem_append] at hp
 exact hp
end
end Go.Proofs.Ytobcdekochenfaa
end
section
namespace Go.Proofs.Ytobcdekochenfaa
open Go
def cutW : List Char := [Char.ofNat 99, Char.ofNat 117, Char.ofNat 116]
theorem strip_cut (rest : List (List Char)) : stripLifts liftWords (cutW :: rest) = ([], cutW :: rest) := by
 have key : ∀ os : List String, (os.all fun o => !(cutW == o.toList)) = true → stripLifts os (cutW :: rest) = ([], cutW :: rest) := by
  intro os
  induction os with
  | nil => intro _; rfl
  | cons o os ih =>
   intro h
   simp only [List.all_cons, Bool.and_eq_true, Bool.not_eq_true'] at h
   unfold stripLifts
   rw [h.1]
   exact ih h.2
 exact key _ (by decide +kernel)
theorem make_cut {P : Program} {rest : List (List Char)} (h : behindMainWord (wordsSigns P.initOrder.toList) = cutW :: rest) : P.make = some .cut := by
 unfold Program.make
 rw [h]
 have e1 : (cutW == "gc".toList || cutW == "spec".toList) = false := by decide +kernel
 have e2 : (cutW == "cut".toList) = true := by decide +kernel
 simp only [e1, e2, Bool.true_or]
 rfl
theorem mayEnter_cut {P : Program} {rest : List (List Char)} (h : behindMainWord (wordsSigns P.initOrder.toList) = cutW :: rest) (h1 : P.laysLater = false) (h2 : P.bearsReflect = false) (h3 : P.doorFits [] = true) : P.mayEnter = true := by
 unfold Program.mayEnter
 rw [h]
 have e2 : (some cutW == some "cut".toList) = true := by decide +kernel
 simp only [strip_cut, h1, h2, h3, List.head?_cons, e2]
 simp
theorem lifts_cut {P : Program} {rest : List (List Char)} (h : behindMainWord (wordsSigns P.initOrder.toList) = cutW :: rest) : P.liftsFinal = false := by
 unfold Program.liftsFinal Program.headLifts
 rw [h]
 have e2 : (some cutW == some "cut".toList) = true := by decide +kernel
 have e3 : (some cutW == some "carried".toList) = false := by decide +kernel
 simp only [strip_cut, List.head?_cons, e2, e3]
 simp
/-- the signs of the head, and its words behind the first three -/
def initRest : List (List Nat) := [[97, 116], [108, 111, 111, 112, 46, 101, 120, 97, 109, 112, 108, 101, 47, 103, 48, 49, 50, 52, 53, 47, 108, 97, 119, 115, 46, 70, 110, 69, 120, 97, 99, 116, 80, 111, 119, 101, 114, 83, 117, 109], [108, 111, 111, 112, 46, 101, 120, 97, 109, 112, 108, 101, 47, 103, 48, 49, 50, 52, 53, 47, 108, 97, 119, 115, 46, 70, 110, 69, 120, 97, 99, 116, 68, 105, 103, 105, 116, 83, 117, 109], [108, 111, 111, 112, 46, 101, 120, 97, 109, 112, 108, 101, 47, 103, 48, 49, 50, 52, 53, 47, 108, 97, 119, 115, 46, 70, 110, 69, 120, 97, 99, 116, 83, 104, 105, 102, 116, 101, 100, 83, 117, 109], [108, 111, 111, 112, 46, 101, 120, 97, 109, 112, 108, 101, 47, 103, 48, 49, 50, 52, 53, 47, 108, 97, 119, 115, 46, 70, 110, 69, 120, 97, 99, 116, 70, 105, 114, 115, 116, 86, 97, 110, 105, 115, 104, 105, 110, 103], [108, 111, 111, 112, 46, 101, 120, 97, 109, 112, 108, 101, 47, 103, 48, 49, 50, 52, 53, 47, 108, 97, 119, 115, 46, 70, 110, 69, 120, 97, 99, 116, 80, 111, 119, 101, 114, 79, 102], [108, 111, 111, 112, 46, 101, 120, 97, 109, 112, 108, 101, 47, 103, 48, 49, 50, 52, 53, 47, 108, 97, 119, 115, 46, 70, 110, 69, 120, 97, 99, 116, 90, 101, 116, 97, 65, 116], [108, 111, 111, 112, 46, 101, 120, 97, 109, 112, 108, 101, 47, 103, 48, 49, 50, 52, 53, 47, 108, 97, 119, 115, 46, 70, 110, 69, 120, 97, 99, 116, 78, 101, 115, 116, 101, 100, 83, 117, 109], [108, 111, 111, 112, 46, 101, 120, 97, 109, 112, 108, 101, 47, 103, 48, 49, 50, 52, 53, 47, 108, 97, 119, 115, 46, 70, 110, 69, 120, 97, 99, 116, 81, 117, 97, 100, 114, 97, 116, 105, 99, 83, 121, 109, 98, 111, 108], [108, 111, 111, 112, 46, 101, 120, 97, 109, 112, 108, 101, 47, 103, 48, 49, 50, 52, 53, 47, 108, 97, 119, 115, 46, 70, 110, 69, 120, 97, 99, 116, 83, 121, 109, 98, 111, 108, 83, 117, 109], [108, 111, 111, 112, 46, 101, 120, 97, 109, 112, 108, 101, 47, 103, 48, 49, 50, 52, 53, 47, 108, 97, 119, 115, 46, 70, 110, 69, 120, 97, 99, 116, 83, 121, 109, 98, 111, 108, 80, 111, 108, 121, 110, 111, 109, 105, 97, 108], [108, 111, 111, 112, 46, 101, 120, 97, 109, 112, 108, 101, 47, 103, 48, 49, 50, 52, 53, 47, 108, 97, 119, 115, 46, 70, 110, 69, 120, 97, 99, 116, 67, 108, 97, 115, 115, 83, 117, 109], [108, 111, 111, 112, 46, 101, 120, 97, 109, 112, 108, 101, 47, 103, 48, 49, 50, 52, 53, 47, 108, 97, 119, 115, 46, 70, 110, 69, 120, 97, 99, 116, 65, 114, 101, 73, 115, 111, 109, 111, 114, 112, 104, 105, 99], [108, 111, 111, 112, 46, 101, 120, 97, 109, 112, 108, 101, 47, 103, 48, 49, 50, 52, 53, 47, 108, 97, 119, 115, 46, 70, 110, 69, 120, 97, 99, 116, 68, 114, 105, 110, 102, 101, 108, 100, 65, 99, 116, 105, 111, 110], [108, 111, 111, 112, 46, 101, 120, 97, 109, 112, 108, 101, 47, 103, 48, 49, 50, 52, 53, 47, 108, 97, 119, 115, 46, 70, 110, 69, 120, 97, 99, 116, 67, 111, 109, 112, 97, 110, 105, 111, 110, 79, 102], [108, 111, 111, 112, 46, 101, 120, 97, 109, 112, 108, 101, 47, 103, 48, 49, 50, 52, 53, 47, 108, 97, 119, 115, 46, 70, 110, 69, 120, 97, 99, 116, 65, 112, 112, 108, 121, 83, 113, 117, 97, 114, 101], [108, 111, 111, 112, 46, 101, 120, 97, 109, 112, 108, 101, 47, 103, 48, 49, 50, 52, 53, 47, 108, 97, 119, 115, 46, 70, 110, 69, 120, 97, 99, 116, 76, 111, 103, 97, 114, 105, 116, 104, 109, 79, 102]]
def initSigns : List Nat := [104, 97, 114, 110, 101, 115, 115, 32, 99, 50, 97, 57, 99, 53, 99, 98, 51, 100, 102, 52, 101, 54, 53, 102, 98, 54, 56, 54, 50, 49, 54, 50, 51, 101, 49, 57, 49, 54, 53, 56, 97, 57, 50, 50, 98, 98, 99, 101, 99, 53, 52, 57, 98, 54, 102, 100, 99, 101, 49, 55, 50, 52, 48, 53, 57, 56, 50, 49, 100, 56, 56, 52, 32, 99, 117, 116] ++ initRest.flatMap fun x => 32 :: x
theorem init_split : behindMainWord (wordsSigns (initSigns.map Char.ofNat)) = cutW :: initRest.map (fun w => w.map Char.ofNat) := by kernel_rfl
theorem init_order : Try.prog.initOrder = String.ofList (initSigns.map Char.ofNat) := by kernel_rfl
theorem init_cut : behindMainWord (wordsSigns Try.prog.initOrder.toList) = cutW :: initRest.map (fun w => w.map Char.ofNat) :=
 (congrArg (fun s : String => behindMainWord (wordsSigns s.toList)) init_order).trans ((congrArg (fun l => behindMainWord (wordsSigns l)) String.toList_ofList).trans init_split)
theorem Try.laysLater : Try.prog.laysLater = false := by kernel_rfl
theorem Try.bearsReflect : Try.prog.bearsReflect = false := by kernel_rfl
theorem Try.doorFits : Try.prog.doorFits [] = true := by kernel_rfl
theorem Try.mayEnter : Try.pinned.checked.prog.mayEnter = true := mayEnter_cut init_cut Try.laysLater Try.bearsReflect Try.doorFits
theorem Try.liftsFinal : Try.pinned.checked.prog.liftsFinal = false := lifts_cut init_cut
theorem Try.make : Try.pinned.checked.prog.make = some .cut := make_cut init_cut
end Go.Proofs.Ytobcdekochenfaa
end
