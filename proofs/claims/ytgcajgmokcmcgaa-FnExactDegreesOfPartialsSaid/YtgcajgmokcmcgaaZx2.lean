/-
  What the rows of this claim rest on: arrays of bytes, walks of the functions, plain mathematics.
-/
import Derived.Test.YtgcajgmokcmcgaaZx1
import Derived.OwnWalk
import Derived.Deep.MidRow
import Derived.Great.BuildSlice
import Derived.RangeFuncNested
import Derived.RangeFuncBound
import Derived.RangeFuncCalls
import Derived.RangeFuncLeaves
import Derived.Shelf.Abstract
import Derived.Shelf.RegionOpen
import Derived.OwnWalkIn
import Derived.TacticsInMore
import Derived.LoopNIn
import Derived.LoopIn
import Derived.Deep.CutBlock
import Derived.OpenShut
import Derived.ProofKit
import Derived.Test.YtgcajgmokcmcgaaRows
import Derived.JoinedOf
section
namespace Go.Proofs.Ytgcajgmokcmcgaa
open Go Go.RowKit
set_option linter.unusedVariables false
/-- v is a slice of the rows cs, each of so many cells, in a block from base on (or nil) -/
def SlL (w : World) (base : Nat) (e : TypeId) (size : Nat) (v : Value) (cs : List (List Value)) : Prop := base ≤ w.heap.size ∧ (∀ c ∈ cs, c.length = size) ∧ w.ownsRow base e size v cs.length cs.flatten
theorem SlL.lt {w : World} {base : Nat} {e : TypeId} {size : Nat} {v : Value} {cs : List (List Value)} (h : SlL w base e size v cs) : base ≤ w.heap.size := h.1
theorem SlL.nil {w : World} {base : Nat} (e : TypeId) (size : Nat) (h : base ≤ w.heap.size) : SlL w base e size (.slice none 0 0) [] := ⟨h, by simp, World.ownsRow_nil _ _ _ _⟩
theorem SlL.grown {w w' : World} {base : Nat} {e : TypeId} {size : Nat} {v : Value} {cs : List (List Value)} {row : Option Nat} (h : SlL w base e size v cs) (hg : w.grownBy w' row) (hr : ∀ r, row = some r → r < base) : SlL w' base e size v cs :=
 ⟨Nat.le_trans h.1 hg.size, h.2.1, h.2.2.kept hg (by
  cases hv : v.ownBlock with
  | none => exact .inl rfl
  | some k =>
   right
   intro he
   have h1 := (h.2.2.lt k hv).1
   have h2 := hr k he.symm
   omega)⟩
theorem SlL.alloc {w : World} {base : Nat} {e : TypeId} {size : Nat} {v : Value} {cs : List (List Value)} (h : SlL w base e size v cs) (o : Obj) : SlL (w.alloc o) base e size v cs := h.grown (World.grownBy_alloc w o none) (fun r e => by cases e)
theorem SlL.drew {w : World} {base : Nat} {e : TypeId} {size : Nat} {v : Value} {cs : List (List Value)} (h : SlL w base e size v cs) : SlL w.drew base e size v cs := h
theorem SlL.below {w w' : World} {base : Nat} {e : TypeId} {size : Nat} {v : Value} {cs : List (List Value)} (h : SlL w base e size v cs) (hb : Below w.heap.size w w') (_ : base ≤ w.heap.size) : SlL w' base e size v cs :=
 h.grown (row := none) ⟨hb.os, hb.tape, hb.output, hb.size, fun k hk _ => hb.block k hk⟩ (fun r e => by cases e)
theorem SlL.zw {w w' : World} {base : Nat} {e : TypeId} {size : Nat} {v : Value} {cs : List (List Value)} (h : SlL w base e size v cs) (hb : Below w.heap.size w w') : SlL w' base e size v cs := SlL.below h hb (SlL.lt h)
theorem SlL.rowOther {w : World} {base : Nat} {e : TypeId} {size : Nat} {v : Value} {cs : List (List Value)} (h : SlL w base e size v cs) {k : Nat} {xs : Array Value} (hk : k < base) : SlL (w.setRow k xs) base e size v cs :=
 h.grown (row := some k) ⟨rfl, rfl, rfl, by simp [World.setRow], fun j _ hj => setRow_other _ _ _ _ (fun e => hj (by rw [e]))⟩ (fun r e => by cases e; exact hk)
theorem SlL.setOther {w : World} {base : Nat} {e : TypeId} {size : Nat} {v x : Value} {cs : List (List Value)} (h : SlL w base e size v cs) {a : Addr} (ha : a.block < base) : SlL (w.setCell a x) base e size v cs :=
 ⟨by simpa using h.1, h.2.1, ownsRow_setCell_below h.2.2 ha x⟩
theorem SlL.own {w : World} {base : Nat} {e : TypeId} {size : Nat} {v : Value} {cs : List (List Value)} (h : SlL w base e size v cs) : ∀ r, v.ownBlock = some r → base ≤ r := fun r hr => (h.2.2.lt r hr).1
theorem SlL.shape {w : World} {base : Nat} {e : TypeId} {size : Nat} {v : Value} {cs : List (List Value)} (h : SlL w base e size v cs) : (v = .slice none 0 0 ∧ cs = []) ∨ ∃ g cap, v = .slice (some ⟨g, 0, none⟩) cs.length cap := by
 obtain ⟨_, _, _, h | ⟨g, cap, cur, rfl, _⟩⟩ := h
 · exact .inl ⟨h.1, List.eq_nil_of_length_eq_zero h.2⟩
 · exact .inr ⟨g, cap, rfl⟩
theorem flat_at : ∀ (cs : List (List Value)) (size i : Nat) (c : List Value) (j : Nat) (u : Value), (∀ c ∈ cs, c.length = size) → cs[i]? = some c → c[j]? = some u → cs.flatten[i * size + j]? = some u
 | [], _, _, _, _, _, _, h, _ => by simp at h
 | g :: cs, size, 0, c, j, u, _, h, hj => by
  simp only [List.getElem?_cons_zero, Option.some.injEq] at h
  subst h
  rw [List.flatten_cons, Nat.zero_mul, Nat.zero_add, List.getElem?_append_left (List.getElem?_eq_some_iff.1 hj).1]
  exact hj
 | g :: cs, size, i + 1, c, j, u, hs, h, hj => by
  have hg : g.length = size := hs g (by simp)
  have e1 : (i + 1) * size = i * size + size := Nat.succ_mul i size
  rw [List.flatten_cons, List.getElem?_append_right (by rw [hg]; omega), hg]
  have := flat_at cs size i c j u (fun c hc => hs c (by simp [hc])) (by simpa using h) hj
  rw [show (i + 1) * size + j - size = i * size + j by omega]
  exact this
/-- the cells of one element -/
theorem SlL.range {w : World} {base : Nat} {e : TypeId} {size g n cap : Nat} {cs : List (List Value)} (h : SlL w base e size (.slice (some ⟨g, 0, none⟩) n cap) cs) {i : Nat} {c : List Value} (hi : cs[i]? = some c) : w.rangeAt g (i * size) c := by
 intro j u hu
 obtain ⟨_, hs, hl, h | ⟨g', cap', cur, hv, hg, hh, h1, h2, h3, h4⟩⟩ := h
 · cases h.1
 · injection hv with e1 e2 e3
   injection e1 with e1
   injection e1 with e1
   subst e1
   rw [cell_of_row _ _ _ _ _ _ hh]
   have hc : cs.flatten[i * size + j]? = some u := flat_at cs size i c j u hs hi hu
   rw [← h4] at hc
   have hlt : i * size + j < cs.length * size := by
    have := (List.getElem?_eq_some_iff.1 hc).1
    rw [List.length_take] at this
    omega
   rw [List.getElem?_take_of_lt hlt] at hc
   rw [← Array.getElem?_toList]
   exact hc
theorem One.row {w : World} {b : Nat} {t : TypeId} {v : Value} (h : One w b t v) (u : Value) : One (w.setRow b #[u]) b t u := by
 unfold One at *
 exact setRow_heap _ _ _ _ _ _ h
/-- append of one element -/
theorem wpList_append_sl {P : Program} (w : World) {ops : Array Oper} {rest : List Oper} {o : Oper} {a : Act} {Q : Exit → Act → World → Prop}
 (hg : o.guard = none) (s x : Operand) (t : TypeId) (hop : o.op = Op.call { callee := Callee.builtin Builtin.append, args := #[s, x], argTypes := #[t, t] })
 (base : Nat) (e : TypeId) (z : Value) (size bytes : Nat) (h1 : P.underlying t = some (.slice e)) (h2 : (P.info? e).map (fun i => (i.zero, i.size, i.bytes)) = some (some z, size, bytes)) (h6 : z.cells.size = size) (h7 : 0 < size)
 (v : Value) (cs : List (List Value)) (hs : a.eval s = v) (hown : SlL w base e size v cs) (g : Nat) (c : List Value) (hx : a.eval x = .slice (some ⟨g, 0, none⟩) 1 1) (hc : c.length = size)
 (hcell : w.rangeAt g 0 c) (h1c : ∀ u ∈ c, u.oneCell' = true) (b1 : cs.length + 1 ≤ maxLen) (b2 : (cs.length + 1) * bytes ≤ 140737488355328)
 (hK : ∀ v' w', SlL w' base e size v' (cs ++ [c]) → w.grownBy w' v.ownBlock → wpList P ops Q rest (a.put o.dst v') w') : wpList P ops Q (o :: rest) a w := by
 obtain ⟨i0, hi, hz0, hz1, hz2⟩ := info_parts h2
 refine wpList_append_own w hg s x t hop base e i0 z size bytes h1 hi hz0 hz1 hz2 h6 h7 v cs.length cs.flatten hs hown.2.2 ⟨g, 0, none⟩ 1 1 c hx (by omega) (fun j u hu => ?_) h1c b1 b2 hown.1 ?_
 · have := hcell j u hu
   rw [Nat.zero_add] at this
   have e : (⟨g, 0, none⟩ : Addr).add j = ⟨g, j, none⟩ := by unfold Addr.add; split <;> simp_all
   rw [e]; exact this
 · intro v' w' h1' h2' _
   refine hK v' w' ⟨Nat.le_trans hown.1 h2'.size, fun d hd => ?_, by simpa using h1'⟩ h2'
   rcases List.mem_append.1 hd with h | h
   · exact hown.2.1 d h
   · rw [List.mem_singleton] at h; rw [h]; exact hc
/-- what lies below the slice's block stays -/
theorem Blk.grownO {w w' : World} {b n : Nat} {t : TypeId} {f : Nat → Nat} {row : Option Nat} (h : Blk w b n t f) (hg : w.grownBy w' row) {base : Nat} (hr : ∀ r, row = some r → base ≤ r) (e : b < base) : Blk w' b n t f := by
 have hl := h.lt
 unfold Blk at *; rw [hg.block b hl (fun x => by have := hr b x.symm; omega)]; exact h
theorem One.grownO {w w' : World} {b : Nat} {t : TypeId} {v : Value} {row : Option Nat} (h : One w b t v) (hg : w.grownBy w' row) {base : Nat} (hr : ∀ r, row = some r → base ≤ r) (e : b < base) : One w' b t v :=
 h.of (hg.block b h.lt (fun x => by have := hr b x.symm; omega))
theorem SlL.one {w : World} {base : Nat} {e : TypeId} {size : Nat} {v : Value} {cs : List (List Value)} (h : SlL w base e size v cs) : v.oneCell' = true := by
 rcases h.shape with ⟨rfl, _⟩ | ⟨g, cap, rfl⟩ <;> rfl
theorem SlL.ownCells {w : World} {base : Nat} {e : TypeId} {size : Nat} {v : Value} {cs : List (List Value)} (h : SlL w base e size v cs) : ∀ r, v.ownBlock = some r → ∃ cur, w.heap[r]? = some (.cells cur e (0, 0)) := by
 intro r hr
 obtain ⟨_, _, _, h | ⟨g, cap, cur, rfl, hg', hh, _⟩⟩ := h
 · rw [h.1] at hr; cases hr
 · cases hr; exact ⟨cur, hh⟩
theorem SlL.base {w : World} {base base' : Nat} {e : TypeId} {size : Nat} {v : Value} {cs : List (List Value)} (h : SlL w base e size v cs) (hb : base' ≤ base) : SlL w base' e size v cs := ⟨Nat.le_trans hb h.1, h.2.1, by
 obtain ⟨_, _, hl, h | ⟨g, cap, cur, hv, hg', r⟩⟩ := h
 · exact ⟨hl, .inl h⟩
 · exact ⟨hl, .inr ⟨g, cap, cur, hv, Nat.le_trans hb hg', r⟩⟩⟩
/-- .. whose block lies below top -/
def SlT (w : World) (base top : Nat) (e : TypeId) (size : Nat) (v : Value) (cs : List (List Value)) : Prop := SlL w base e size v cs ∧ ∀ r, v.ownBlock = some r → r < top
theorem SlL.top {w : World} {base : Nat} {e : TypeId} {size : Nat} {v : Value} {cs : List (List Value)} (h : SlL w base e size v cs) : SlT w base w.heap.size e size v cs := ⟨h, fun r hr => (h.2.2.lt r hr).2⟩
theorem SlT.lt {w : World} {base top : Nat} {e : TypeId} {size : Nat} {v : Value} {cs : List (List Value)} (h : SlT w base top e size v cs) : base ≤ w.heap.size := h.1.1
theorem SlT.alloc {w : World} {base top : Nat} {e : TypeId} {size : Nat} {v : Value} {cs : List (List Value)} (h : SlT w base top e size v cs) (o : Obj) : SlT (w.alloc o) base top e size v cs := ⟨h.1.alloc o, h.2⟩
theorem SlT.drew {w : World} {base top : Nat} {e : TypeId} {size : Nat} {v : Value} {cs : List (List Value)} (h : SlT w base top e size v cs) : SlT w.drew base top e size v cs := h
theorem SlT.below {w w' : World} {base top : Nat} {e : TypeId} {size : Nat} {v : Value} {cs : List (List Value)} (h : SlT w base top e size v cs) (hb : Below w.heap.size w w') (hl : base ≤ w.heap.size) : SlT w' base top e size v cs := ⟨h.1.below hb hl, h.2⟩
theorem SlT.zw {w w' : World} {base top : Nat} {e : TypeId} {size : Nat} {v : Value} {cs : List (List Value)} (h : SlT w base top e size v cs) (hb : Below w.heap.size w w') : SlT w' base top e size v cs := SlT.below h hb (SlT.lt h)
theorem SlT.rowOther {w : World} {base top : Nat} {e : TypeId} {size : Nat} {v : Value} {cs : List (List Value)} (h : SlT w base top e size v cs) {k : Nat} {xs : Array Value} (hk : k < base ∨ top ≤ k) : SlT (w.setRow k xs) base top e size v cs :=
 ⟨⟨by simpa [World.setRow] using h.1.1, h.1.2.1, h.1.2.2.kept (row := some k) ⟨rfl, rfl, rfl, by simp [World.setRow], fun j _ hj => setRow_other _ _ _ _ (fun e => hj (by rw [e]))⟩ (by
  cases hv : v.ownBlock with
  | none => exact .inl rfl
  | some j =>
   right
   intro he
   cases he
   have h1 := (h.1.2.2.lt k hv).1
   have h2 := h.2 k hv
   omega)⟩, h.2⟩
theorem SlT.setOther {w : World} {base top : Nat} {e : TypeId} {size : Nat} {v x : Value} {cs : List (List Value)} (h : SlT w base top e size v cs) {a : Addr} (ha : a.block < base ∨ top ≤ a.block) : SlT (w.setCell a x) base top e size v cs :=
 ⟨⟨by simpa using h.1.1, h.1.2.1, h.1.2.2.kept (row := some a.block) ⟨((Below.refl 0 w).setCell (Nat.zero_le _) x).os, ((Below.refl 0 w).setCell (Nat.zero_le _) x).tape, ((Below.refl 0 w).setCell (Nat.zero_le _) x).output, by simp, fun j _ hj => Below.heap_setCell _ _ _ _ (fun e => hj (by rw [e]))⟩ (by
  cases hv : v.ownBlock with
  | none => exact .inl rfl
  | some j =>
   right
   intro he
   have he2 : j = a.block := by injection he
   subst he2
   have h1 := (h.1.2.2.lt a.block hv).1
   have h2 := h.2 a.block hv
   omega)⟩, h.2⟩
theorem Blk.grownT {w w' : World} {b n : Nat} {t : TypeId} {f : Nat → Nat} {row : Option Nat} (h : Blk w b n t f) (hg : w.grownBy w' row) {top : Nat} (hr : ∀ r, row = some r → r < top) (e : top ≤ b) : Blk w' b n t f := by
 have hl := h.lt
 unfold Blk at *; rw [hg.block b hl (fun x => by have := hr b x.symm; omega)]; exact h
theorem One.grownT {w w' : World} {b : Nat} {t : TypeId} {v : Value} {row : Option Nat} (h : One w b t v) (hg : w.grownBy w' row) {top : Nat} (hr : ∀ r, row = some r → r < top) (e : top ≤ b) : One w' b t v :=
 h.of (hg.block b h.lt (fun x => by have := hr b x.symm; omega))
/-- a list grows: another one, of other elements, stays -/
theorem SlL.grownE {w w' : World} {base base' : Nat} {e e' : TypeId} {size size' : Nat} {v v' : Value} {cs cs' : List (List Value)} (h : SlL w base' e' size' v' cs') (ho : SlL w base e size v cs) (hg : w.grownBy w' v.ownBlock) (hne : e ≠ e') : SlL w' base' e' size' v' cs' :=
 ⟨Nat.le_trans h.1 hg.size, h.2.1, h.2.2.kept hg (by
  cases hv : v'.ownBlock with
  | none => exact .inl rfl
  | some k =>
   right
   intro he
   obtain ⟨c1, h1⟩ := h.ownCells k hv
   obtain ⟨c2, h2⟩ := ho.ownCells k he.symm
   rw [h1] at h2
   injection h2 with h2
   injection h2 with _ h2
   exact hne h2.symm)⟩
theorem SlL.form {w : World} {base : Nat} {e : TypeId} {size : Nat} {v : Value} {cs : List (List Value)} (h : SlL w base e size v cs) : ∃ ad cap, v = .slice ad cs.length cap := by
 rcases h.shape with ⟨h1, h2⟩ | ⟨g, cap, h1⟩
 · exact ⟨none, 0, by rw [h1, h2]; rfl⟩
 · exact ⟨_, cap, h1⟩
theorem SlL.some {w : World} {base : Nat} {e : TypeId} {size n cap : Nat} {ad : Option Addr} {cs : List (List Value)} (h : SlL w base e size (.slice ad n cap) cs) (hn : 0 < cs.length) : ∃ g, ad = some ⟨g, 0, none⟩ := by
 rcases h.shape with ⟨_, h2⟩ | ⟨g, cap', h1⟩
 · rw [h2] at hn; simp at hn
 · injection h1 with h1; exact ⟨g, h1⟩
/-- block b is the row cs -/
def Row (w : World) (b : Nat) (t : TypeId) (cs : Array Value) : Prop := w.heap[b]? = some (.cells cs t (0, 0))
theorem Row.new (w : World) (t : TypeId) (cs : Array Value) : Row (w.alloc (.cells cs t)) w.heap.size t cs := heap_alloc_last w _
theorem Row.lt {w : World} {b : Nat} {t : TypeId} {cs : Array Value} (h : Row w b t cs) : b < w.heap.size := by
 unfold Row at h
 exact (Array.getElem?_eq_some_iff.1 h).1
theorem Row.of {w w' : World} {b : Nat} {t : TypeId} {cs : Array Value} (h : Row w b t cs) (e : w'.heap[b]? = w.heap[b]?) : Row w' b t cs := by unfold Row at *; rw [e]; exact h
theorem Row.alloc {w : World} {b : Nat} {t : TypeId} {cs : Array Value} (h : Row w b t cs) (o : Obj) : Row (w.alloc o) b t cs := h.of (Below.heap_alloc _ _ _ h.lt)
theorem Row.drew {w : World} {b : Nat} {t : TypeId} {cs : Array Value} (h : Row w b t cs) : Row w.drew b t cs := h
theorem Row.below {w w' : World} {B b : Nat} {t : TypeId} {cs : Array Value} (h : Row w b t cs) (hb : Below B w w') (e : b < B) : Row w' b t cs := h.of (hb.block b e)
theorem Row.zw {w w' : World} {b : Nat} {t : TypeId} {cs : Array Value} (h : Row w b t cs) (hb : Below w.heap.size w w') : Row w' b t cs := Row.below h hb (Row.lt h)
theorem Row.rowOther {w : World} {b : Nat} {t : TypeId} {cs : Array Value} (h : Row w b t cs) {j : Nat} {xs : Array Value} (e : b ≠ j) : Row (w.setRow j xs) b t cs := h.of (setRow_other _ _ _ _ e)
theorem Row.setOther {w : World} {b : Nat} {t : TypeId} {cs : Array Value} {x : Value} (h : Row w b t cs) {a : Addr} (e : b ≠ a.block) : Row (w.setCell a x) b t cs := h.of (heap_setCell_other _ _ _ _ e)
theorem Row.row {w : World} {b : Nat} {t : TypeId} {cs : Array Value} (h : Row w b t cs) (xs : Array Value) : Row (w.setRow b xs) b t xs := by
 unfold Row at *
 exact setRow_heap _ _ _ _ _ _ h
theorem Row.cell {w : World} {b : Nat} {t : TypeId} {cs : Array Value} (h : Row w b t cs) {i : Nat} {v : Value} (hi : cs[i]? = some v) : w.cell? ⟨b, i, none⟩ = some v := by
 rw [cell_of_row _ _ _ _ _ _ h]; exact hi
theorem Row.frozen {w : World} {b : Nat} {t : TypeId} {cs : Array Value} (h : Row w b t cs) (i : Nat) : w.frozen? ⟨b, i, none⟩ = false := frozen_of_row _ _ _ _ _ h
theorem Row.set {w : World} {b i : Nat} {t : TypeId} {cs : Array Value} {x : Value} (h : Row w b t cs) : Row (w.setCell ⟨b, i, none⟩ x) b t (cs.setIfInBounds i x) := by
 unfold Row at *
 rw [heap_setCell_same _ _ _ _ _ _ h]
/-- a literal of one element -/
theorem wpList_build1 {P : Program} {ops : Array Oper} {rest : List Oper} {o : Oper} {a : Act} {w : World} {Q : Exit → Act → World → Prop} (hg : o.guard = none) (t : TypeId) (parts : Array (Nat × Operand)) (c : List Value) (size : Nat)
 (ho : o.op = .buildSlice t 1 parts) (e : TypeId) (hu : P.underlying t = some (.slice e)) (hie : (P.info? e).map (fun i => (i.size, i.zero.isSome)) = some (size, true)) (hpos : 0 < size) (hsm : size ≤ 65536) (hc : c.length = size)
 (hp : (parts.toList.map fun x => (x.1, a.eval x.2)) = [(0, Value.agg c.toArray)])
 (h : ∀ w', Row w' w.heap.size e c.toArray → Below w.heap.size w w' → wpList P ops Q rest (a.put o.dst (.slice (some ⟨w.heap.size, 0, none⟩) 1 1)) w') : wpList P ops Q (o :: rest) a w := by
 cases hi : P.info? e with
 | none => simp [hi] at hie
 | some ie =>
  simp only [hi, Option.map_some, Option.some.injEq, Prod.mk.injEq] at hie
  obtain ⟨hs, hz⟩ := hie
  obtain ⟨z, hzz⟩ := Option.isSome_iff_exists.1 hz
  refine wpList_buildSlice hg t e 1 parts ho _ ie z hu hi hzz (by rw [hs]; omega) (by rw [hs]; omega) ?_ (h _ (Row.new w e c.toArray) (zal _ _))
  rw [Array.toList_map, hp, hs]
  have := fill_cat size [c] 0 [] ((Array.range (1 * size)).map (z.cells[· % z.cells.size]!)).toList (by simpa using hc) (by simp) (by simp)
  rw [List.nil_append, List.nil_append, Array.toArray_toList] at this
  simpa using this
theorem Row.range {w : World} {b : Nat} {t : TypeId} {c : List Value} (h : Row w b t c.toArray) : w.rangeAt b 0 c := by
 intro j v hv
 rw [Nat.zero_add, cell_of_row _ _ _ _ _ _ h]
 simpa using hv
attribute [irreducible] Row
attribute [irreducible] SlL
end Go.Proofs.Ytgcajgmokcmcgaa
namespace Go.Proofs.Ytgcajgmokcmcgaa
open Go Go.RowKit
set_option linter.unusedVariables false
/-- what is no cells from B on lies as it lay -/
def KF (B : Nat) (W W' : World) : Prop := KeepsFrom B W W'
theorem KF.refl (B : Nat) (W : World) : KF B W W := KeepsFrom.refl B W
theorem KF.lt {B : Nat} {W W' : World} (h : KF B W W') : W.heap.size ≤ W'.heap.size := h.size
theorem KF.below {B : Nat} {W W1 W2 : World} (h : KF B W W1) (hb : Below W1.heap.size W1 W2) (_ : W.heap.size ≤ W1.heap.size) : KF B W W2 :=
 KeepsFrom.trans h ⟨hb.size, fun k _ _ hk _ => (hb.block k (Array.getElem?_eq_some_iff.1 hk).1).trans hk⟩
theorem KF.zw {B : Nat} {W W1 W2 : World} (h : KF B W W1) (hb : Below W1.heap.size W1 W2) : KF B W W2 := KF.below h hb (KF.lt h)
theorem KF.alloc {B : Nat} {W W1 : World} (h : KF B W W1) (o : Obj) : KF B W (W1.alloc o) := h.below (zal _ _) h.size
theorem KF.drew {B : Nat} {W W1 : World} (h : KF B W W1) : KF B W W1.drew := ⟨h.size, h.same⟩
theorem KF.rowOther {B : Nat} {W W1 : World} (h : KF B W W1) {k : Nat} {cs : Array Value} (e : k < B ∨ W.heap.size ≤ k) : KF B W (W1.setRow k cs) :=
 ⟨by simpa [World.setRow] using h.size, fun j o hB hj ho => by
  have hlt := (Array.getElem?_eq_some_iff.1 hj).1
  rw [setRow_other _ _ _ _ (by omega)]
  exact h.same j o hB hj ho⟩
theorem KF.grown {B : Nat} {W W1 W2 : World} {row : Option Nat} (h : KF B W W1) (hg : W1.grownBy W2 row) (hr : ∀ r, row = some r → ∃ cur t f, W1.heap[r]? = some (.cells cur t f)) : KF B W W2 :=
 KeepsFrom.trans h ⟨hg.size, fun k o _ hk ho => (hg.block k (Array.getElem?_eq_some_iff.1 hk).1 (fun e => by
  obtain ⟨cur, t, f, hc⟩ := hr k e.symm
  rw [hk] at hc; cases hc; cases ho)).trans hk⟩
/-- the block for deferred calls -/
def DF (W : World) (D : Nat) : Prop := W.heap[D]? = some (.deferred (some []))
theorem DF.lt {W : World} {D : Nat} (h : DF W D) : D < W.heap.size := (Array.getElem?_eq_some_iff.1 h).1
theorem DF.of {W W' : World} {D : Nat} (h : DF W D) (e : W'.heap[D]? = W.heap[D]?) : DF W' D := by unfold DF at *; rw [e]; exact h
theorem DF.below {W W' : World} {B D : Nat} (h : DF W D) (hb : Below B W W') (e : D < B) : DF W' D := h.of (hb.block D e)
theorem DF.zw {W W' : World} {D : Nat} (h : DF W D) (hb : Below W.heap.size W W') : DF W' D := DF.below h hb (DF.lt h)
theorem DF.alloc {W : World} {D : Nat} (h : DF W D) (o : Obj) : DF (W.alloc o) D := h.below (zal _ _) h.lt
theorem DF.drew {W : World} {D : Nat} (h : DF W D) : DF W.drew D := h
theorem DF.rowOther {W : World} {D k : Nat} {cs : Array Value} (h : DF W D) (e : D ≠ k) : DF (W.setRow k cs) D := h.of (setRow_other _ _ _ _ e)
theorem DF.grown {W W1 : World} {D : Nat} {row : Option Nat} (h : DF W D) (hg : W.grownBy W1 row) (hr : ∀ r, row = some r → ∃ cur t f, W.heap[r]? = some (.cells cur t f)) : DF W1 D :=
 h.of (hg.block D h.lt (fun e => by
  obtain ⟨cur, t, f, hc⟩ := hr D e.symm
  unfold DF at h
  rw [h] at hc; cases hc))
end Go.Proofs.Ytgcajgmokcmcgaa
end
section
namespace Go.Proofs.Ytgcajgmokcmcgaa
open Go Go.RowKit Go.Shelf
set_option linter.unusedVariables false
set_option linter.unusedSimpArgs false
attribute [local go_sem] Oper.semAt_some
/-- the numbers from a on, k of them -/
abbrev NumN (a k : Nat) := { N : Nat // N ∈ List.range' a k }
def vals {a k : Nat} (l : List (NumN a k)) : List Nat := l.map (·.1)
/-- the captured cells stay -/
def KpN (ba bb bp : Nat) (W W' : World) : Prop := W'.heap[ba]? = W.heap[ba]? ∧ W'.heap[bb]? = W.heap[bb]? ∧ W'.heap[bp]? = W.heap[bp]?
theorem KpN.refl (ba bb bp : Nat) (W : World) : KpN ba bb bp W W := ⟨rfl, rfl, rfl⟩
theorem KpN.trans {ba bb bp : Nat} {A B C : World} (h : KpN ba bb bp A B) (k : KpN ba bb bp B C) : KpN ba bb bp A C := ⟨k.1.trans h.1, k.2.1.trans h.2.1, k.2.2.trans h.2.2⟩
theorem KpN.put {ba bb bp : Nat} {w : World} (h0 : ba < w.heap.size) (h1 : bb < w.heap.size) (h2 : bp < w.heap.size) (W : World) (l : Nat) (o o' : Obj) (hl : w.heap.size ≤ l) (_ : W.heap[l]? = some o) (_ : o.isCells = false) (_ : o.isWalk = false) : KpN ba bb bp W (W.putObj l o') :=
 ⟨World.putObj_heap_other (by omega), World.putObj_heap_other (by omega), World.putObj_heap_other (by omega)⟩
theorem One.same {w w' : World} {b : Nat} {t : TypeId} {v : Value} (h : One w b t v) (h' : One w' b t v) : w'.heap[b]? = w.heap[b]? := by unfold One at *; rw [h, h']
end Go.Proofs.Ytgcajgmokcmcgaa
end
section
namespace Go.Proofs.Ytgcajgmokcmcgaa
open Go Go.RowKit Go.Shelf
set_option linter.unusedVariables false
set_option linter.unusedSimpArgs false
attribute [local irreducible] deg invN dS qS stp stpr quoP resP ofN
theorem Try.infoPoly : (Try.prog.info? 26).map (fun i => (i.zero, i.size, i.bytes)) = some (some (.agg (zb 64 fun _ => 0)), 64, 64) := by kernel_rfl
end Go.Proofs.Ytgcajgmokcmcgaa
end
section
namespace Go.Proofs.Ytgcajgmokcmcgaa
open Go Go.RowKit
set_option linter.unusedVariables false
set_option linter.unusedSimpArgs false
attribute [local irreducible] deg invN dS qS stp stpr quoP resP ofN dvo run monL
/-- the cells of a factor -/
def facC (f : Nat → Nat) (k : Nat) : List Value := bl 64 f ++ [.int .i64 (k : Int)]
def facRows (p : Nat) (L : List (Nat × Nat)) : List (List Value) := L.map fun x => facC (ofN p x.1) x.2
/-- the heap has at least n blocks -/
def SzG (n : Nat) (W : World) : Prop := n ≤ W.heap.size
theorem SzG.lt {n : Nat} {W : World} (h : SzG n W) : n ≤ W.heap.size := h
theorem SzG.below {n B : Nat} {W W' : World} (h : SzG n W) (hb : Below B W W') (_ : n ≤ W.heap.size) : SzG n W' := Nat.le_trans h hb.size
theorem SzG.zw {n : Nat} {W W' : World} (h : SzG n W) (hb : Below W.heap.size W W') : SzG n W' := SzG.below h hb (SzG.lt h)
theorem SzG.alloc {n : Nat} {W : World} (h : SzG n W) (o : Obj) : SzG n (W.alloc o) := h.below (zal _ _) h
theorem SzG.drew {n : Nat} {W : World} (h : SzG n W) : SzG n W.drew := h
theorem SzG.rowOther {n k : Nat} {W : World} {cs : Array Value} (h : SzG n W) (_ : 0 ≤ k) : SzG n (W.setRow k cs) := by unfold SzG at *; simpa [World.setRow] using h
theorem SzG.setOther {n : Nat} {W : World} {a : Addr} {v : Value} (h : SzG n W) (_ : 0 ≤ a.block) : SzG n (W.setCell a v) := by unfold SzG at *; simpa using h
end Go.Proofs.Ytgcajgmokcmcgaa
namespace Go.Proofs.Ytgcajgmokcmcgaa
open Go Go.RowKit
set_option linter.unusedVariables false
set_option linter.unusedSimpArgs false
attribute [local irreducible] deg invN dS qS stp stpr quoP resP ofN dvo run monL
def FV (p : Nat) (n0 : Nat) (x : Nat × Nat) (l : List (Nat × Nat)) (y : Value) (w : World) : Prop := SlL w n0 170 65 y (facRows p (x :: l))
theorem FV.below {p n0 : Nat} {x : Nat × Nat} {l : List (Nat × Nat)} {y : Value} {w w' : World} (h : FV p n0 x l y w) (hb : Below w.heap.size w w') : FV p n0 x l y w' := SlL.below h hb h.lt
end Go.Proofs.Ytgcajgmokcmcgaa
end
section
namespace Go.Proofs.Ytgcajgmokcmcgaa
set_option linter.unusedVariables false
/-- numbers modulo p at all places, and 0 from 64 on -/
def cln (p : Nat) (f : Nat → Nat) : Prop := (∀ k, f k < p) ∧ ∀ k, 64 ≤ k → f k = 0
/-- v, less the multiple of w that leaves 0 at the lead of w -/
def clr (p : Nat) (v w : Nat → Nat) : Nat → Nat := addK p v w (-(v (deg w).toNat : Int))
theorem clr_at (p : Nat) {v w : Nat → Nat} {t : Nat} (h : deg w = (t : Int)) (k : Nat) : clr p v w k = (((v k : Int) - (v t : Int) * (w k : Int)) % (p : Int)).toNat := by
 unfold clr addK
 rw [h, Int.toNat_natCast, Int.neg_mul, ← Int.sub_eq_add_neg]
theorem clr_cast {p : Nat} (hp : 0 < p) {v w : Nat → Nat} {t : Nat} (h : deg w = (t : Int)) (k : Nat) : ((clr p v w k : Nat) : Int) = ((v k : Int) - (v t : Int) * (w k : Int)) % (p : Int) := by
 rw [clr_at p h k, Int.toNat_of_nonneg (Int.emod_nonneg _ (by omega))]
theorem clr_cln {p : Nat} (hp : 0 < p) {v w : Nat → Nat} (hv : ∀ k, 64 ≤ k → v k = 0) (hw : cln p w) : cln p (clr p v w) := by
 refine ⟨fun k => ?_, fun k hk => ?_⟩
 · unfold clr addK
   have h1 := Int.emod_lt_of_pos ((v k : Int) + -(v (deg w).toNat : Int) * (w k : Int)) (show (0 : Int) < (p : Int) by omega)
   have h2 := Int.emod_nonneg ((v k : Int) + -(v (deg w).toNat : Int) * (w k : Int)) (show (p : Int) ≠ 0 by omega)
   omega
 · unfold clr addK
   rw [hv k hk, hw.2 k hk]
   simp
/-- the degrees s, the rows D of them -/
def Sy (p d : Nat) (s : List Nat) (D : Nat → Nat → Nat) : Prop := s.Nodup ∧ ∀ t, t ∈ s → t < d ∧ deg (D t) = (t : Int) ∧ cln p (D t) ∧ D t t = 1 ∧ ∀ u, u ∈ s → u ≠ t → D t u = 0
/-- the rows behind a new one -/
def nwD (p n : Nat) (x : Nat → Nat) (D : Nat → Nat → Nat) : Nat → Nat → Nat := fun t => if t = n then x else clr p (D t) x
theorem Sy.step {p d n : Nat} (hp : 2 ≤ p) {s : List Nat} {D : Nat → Nat → Nat} (h : Sy p d s D) {x : Nat → Nat} (hx : cln p x) (hd : deg x = (n : Int)) (hn : n < d) (hd4 : d ≤ 64) (h1 : x n = 1) (h0 : ∀ t, t ∈ s → x t = 0) : n ∉ s ∧ Sy p d (s ++ [n]) (nwD p n x D) := by
 have hns : n ∉ s := fun hs => by have := h0 n hs; omega
 refine ⟨hns, ?_, ?_⟩
 · rw [List.nodup_append]
   refine ⟨h.1, by simp, ?_⟩
   intro a ha b hb e
   rw [List.mem_singleton] at hb
   subst e; subst hb
   exact hns ha
 · intro t ht
   by_cases e : t = n
   · subst e
     unfold nwD
     rw [if_pos rfl]
     refine ⟨hn, hd, hx, h1, fun u hu hut => ?_⟩
     rcases List.mem_append.1 hu with hu | hu
     · exact h0 u hu
     · rw [List.mem_singleton] at hu; exact absurd hu hut
   · have ht2 : t ∈ s := by
      rcases List.mem_append.1 ht with ht | ht
      · exact ht
      · rw [List.mem_singleton] at ht; exact absurd ht e
     obtain ⟨a1, a2, a3, a4, a5⟩ := h.2 t ht2
     have key : ∀ k, ((clr p (D t) x k : Nat) : Int) = ((D t k : Int) - (D t n : Int) * (x k : Int)) % (p : Int) := fun k => clr_cast (by omega) hd k
     have own : ∀ k, (x k = 0 ∨ D t n = 0) → clr p (D t) x k = D t k := by
      intro k hk
      have h3 := key k
      have h4 : (D t n : Int) * (x k : Int) = 0 := by
       rcases hk with hk | hk
       · rw [hk]; simp
       · rw [hk]; simp
      rw [h4, Int.sub_zero, Int.emod_eq_of_lt (by omega) (by have := a3.1 k; omega)] at h3
      exact Int.ofNat.inj h3
     unfold nwD
     rw [if_neg e]
     refine ⟨a1, ?_, clr_cln (by omega) a3.2 hx, ?_, ?_⟩
     · -- the degree stays
       obtain ⟨b1, b2, b3⟩ := deg_top a2
       obtain ⟨c1, c2, c3⟩ := deg_top hd
       have ht1 : clr p (D t) x t = D t t := own t (.inl (h0 t ht2))
       have hz : ∀ k, t < k → k < 64 → clr p (D t) x k = 0 := by
        intro k hk1 hk2
        by_cases hkn : n < k
        · rw [own k (.inl (c3 k hkn hk2))]; exact b3 k hk1 hk2
        · by_cases htn : t < n
          · rw [own k (.inr (b3 n htn (by omega)))]; exact b3 k hk1 hk2
          · exfalso; omega
       have hle : deg (clr p (D t) x) ≤ (t : Int) := deg_le (by omega) (fun k hk1 hk2 => hz k (by omega) hk2)
       rcases deg_spec (clr p (D t) x) with ⟨_, hall⟩ | ⟨e1, e2, e3, e4, e5⟩
       · exact absurd (hall t b1) (by rw [ht1, a4]; decide)
       · rw [e3] at hle ⊢
         by_cases he : e1 < t
         · exact absurd (e5 t he b1) (by rw [ht1, a4]; decide)
         · omega
     · rw [own t (.inl (h0 t ht2))]; exact a4
     · intro u hu hut
       rcases List.mem_append.1 hu with hu | hu
       · rw [own u (.inl (h0 u hu))]; exact a5 u hu hut
       · rw [List.mem_singleton] at hu
         subst hu
         have h3 := key u
         rw [h1, Int.natCast_one, Int.mul_one, Int.sub_self] at h3
         simpa using h3
end Go.Proofs.Ytgcajgmokcmcgaa
end
section
namespace Go.Proofs.Ytgcajgmokcmcgaa
set_option linter.unusedVariables false
theorem deg_n64 {f : Nat → Nat} {n : Nat} (h : deg f = (n : Int)) : n < 64 := by
 rcases deg_spec f with ⟨e, _⟩ | ⟨d, hd, e, _⟩ <;> omega
/-- the quotients of at most so many divisions -/
def cfF (p : Nat) : Nat → (Nat → Nat) → (Nat → Nat) → List (Nat → Nat)
 | 0, _, _ => []
 | n + 1, a, b => if deg b < 0 then [] else quoP p a b :: cfF p n b (resP p a b)
/-- the continued fraction -/
def cfL (p : Nat) (a b : Nat → Nat) : List (Nat → Nat) := cfF p 65 a b
theorem cfF_enough {p : Nat} (hp : p = 2 ∨ p = 3 ∨ p = 5 ∨ p = 7) : ∀ (n m : Nat) (a b : Nat → Nat), (∀ k, k < 64 → a k < p) → (∀ k, k < 64 → b k < p) → deg b < (n : Int) → deg b < (m : Int) → cfF p n a b = cfF p m a b
 | 0, 0, _, _, _, _, _, _ => rfl
 | 0, m + 1, a, b, _, _, h, _ => by unfold cfF; rw [if_pos (by omega)]
 | n + 1, 0, a, b, _, _, _, h => by unfold cfF; rw [if_pos (by omega)]
 | n + 1, m + 1, a, b, ha, hb, h1, h2 => by
  unfold cfF
  by_cases hz : deg b < 0
  · rw [if_pos hz, if_pos hz]
  · rw [if_neg hz, if_neg hz]
    have hd := resP_deg hp ha hb (by omega)
    rw [cfF_enough hp n m b (resP p a b) hb (fun k hk => resP_lt (by omega) ha k hk) (by omega) (by omega)]
theorem cfL_none {p : Nat} {a b : Nat → Nat} (h : deg b < 0) : cfL p a b = [] := by
 unfold cfL cfF; rw [if_pos h]
theorem cfL_cons {p : Nat} {a b : Nat → Nat} (hp : p = 2 ∨ p = 3 ∨ p = 5 ∨ p = 7) (ha : ∀ k, k < 64 → a k < p) (hb : ∀ k, k < 64 → b k < p) (h : 0 ≤ deg b) : cfL p a b = quoP p a b :: cfL p b (resP p a b) := by
 have hd := resP_deg hp ha hb h
 obtain ⟨n, hn⟩ : ∃ n : Nat, deg b = (n : Int) := ⟨(deg b).toNat, by omega⟩
 have h64 := deg_n64 hn
 unfold cfL
 rw [← cfF_enough hp 64 65 b (resP p a b) hb (fun k hk => resP_lt (by omega) ha k hk) (by omega) (by omega)]
 conv => lhs; unfold cfF
 rw [if_neg (by omega)]
theorem cfF_len (p : Nat) : ∀ (n : Nat) (a b : Nat → Nat), (cfF p n a b).length ≤ n
 | 0, _, _ => Nat.le_refl _
 | n + 1, a, b => by
  unfold cfF
  by_cases hz : deg b < 0
  · rw [if_pos hz]; exact Nat.zero_le _
  · rw [if_neg hz, List.length_cons]; have := cfF_len p n b (resP p a b); omega
theorem cfL_len (p : Nat) (a b : Nat → Nat) : (cfL p a b).length ≤ 65 := cfF_len p 65 a b
end Go.Proofs.Ytgcajgmokcmcgaa
end
section
namespace Go.Proofs.Ytgcajgmokcmcgaa
open Go Go.RowKit
set_option linter.unusedVariables false
set_option linter.unusedSimpArgs false
/-- the code of two polynomials, the second one not 0, where all else is in its range or not -/
def qcC (p : Int) (a b : Nat → Nat) (r : Bool) : Int := if codeL p [a, b] = 0 then (if r = true then (if deg b < 0 then 5 else 0) else 2) else 1
theorem qcC_1 {p : Int} {a b : Nat → Nat} {r : Bool} (h : codeL p [a, b] = 1) : qcC p a b r = 1 := by unfold qcC; rw [if_neg (by omega)]
theorem qcC_2 {p : Int} {a b : Nat → Nat} {r : Bool} (h : codeL p [a, b] = 0) (h2 : r = false) : qcC p a b r = 2 := by unfold qcC; rw [if_pos h, if_neg (by rw [h2]; decide)]
theorem qcC_5 {p : Int} {a b : Nat → Nat} {r : Bool} (h : codeL p [a, b] = 0) (h2 : r = true) (h3 : deg b < 0) : qcC p a b r = 5 := by unfold qcC; rw [if_pos h, if_pos h2, if_pos h3]
theorem qcC_0 {p : Int} {a b : Nat → Nat} {r : Bool} (h : codeL p [a, b] = 0) (h2 : r = true) (h3 : ¬ deg b < 0) : qcC p a b r = 0 := by unfold qcC; rw [if_pos h, if_pos h2, if_neg h3]
theorem qcC_split (p : Int) (a b : Nat → Nat) (r : Bool) : (∃ c, qcC p a b r = c ∧ c ≠ 0) ∨ (qcC p a b r = 0 ∧ r = true ∧ ∃ n : Nat, p = (n : Int) ∧ (n = 2 ∨ n = 3 ∨ n = 5 ∨ n = 7) ∧ (∀ k, k < 64 → a k < n) ∧ (∀ k, k < 64 → b k < n) ∧ 0 ≤ deg b) := by
 by_cases h : qcC p a b r = 0
 · right
   rcases codeL_two p [a, b] with hc | hc
   · cases hr : r with
     | false => rw [qcC_2 hc hr] at h; omega
     | true =>
      by_cases hd : deg b < 0
      · rw [qcC_5 hc hr hd] at h; omega
      · obtain ⟨n, hn, n2, n7⟩ := okP_nat (codeL_zero hc).1
        subst hn
        exact ⟨by rw [← hr]; exact h, rfl, n, rfl, prime_of hc, lt_of_code hc (by simp), lt_of_code hc (by simp), by omega⟩
   · rw [qcC_1 hc] at h; omega
 · exact .inl ⟨_, rfl, h⟩
attribute [local irreducible] deg qcC
set_option maxRecDepth 100000 in
set_option maxHeartbeats 3200000 in
theorem checkQuotient_any (p : Int) (a b : Nat → Nat) (r : Bool) (ha : byte a) (hbb : byte b) (w : World) :
 Calls Try.prog 70 #[.int .i64 p, .agg (zb 64 a), .agg (zb 64 b), .bool r] w fun e w' => e = .returned (.int .i64 (qcC p a b r)) ∧ Below w.heap.size w w' := by
 go_enter Try.func70, Try.ntmps70
 go_upto_region 1 with (fail)
 obtain ⟨W1, hwo⟩ : ∃ v : World, v = ((w.alloc (.cells (zb 64 (a)) 26)).alloc (.cells (zb 64 (b)) 26)) := ⟨_, rfl⟩
 have B0 : Blk W1 (w.heap.size) 64 26 (a) := by subst hwo; have := ((Blk.new w 64 26 (a)).alloc (.cells (zb 64 (b)) 26)); simpa using this
 have B1 : Blk W1 (w.heap.size + 1) 64 26 (b) := by subst hwo; have := (Blk.new (w.alloc (.cells (zb 64 (a)) 26)) 64 26 (b)); simpa using this
 have hb : Below w.heap.size w W1 := by subst hwo; exact (((Below.refl _ _).alloc (Nat.le_refl _) _).alloc (by simp) _)
 rw [← hwo]
 clear hwo
 go_upto_region 2 with (first | (refine zla (.tmp 5) B0 Try.underlying26 Try.size26 ?_) | (refine zla (.tmp 6) B1 Try.underlying26 Try.size26 ?_) | (refine wpList_build_polys rfl 31 _ [a, b] rfl 26 rfl Try.underlying31 Try.elem26 (by simp) (by simp) rfl ?_; intro wa hwa hps hba; clear hwa) | (go_at_call 76; refine (checkPolys_any p [a, b] (by simp [ha, hbb]) _ _ hps (by simp)).mono ?_; rintro e W2 ⟨rfl, hbb⟩))
 have hBB : Below W1.heap.size W1 W2 := hba.trans (hbb.mono hba.size)
 replace B0 := B0.zw hBB
 replace B1 := B1.zw hBB
 replace hb := hb.trans (hBB.mono hb.size)
 clear hBB hba hbb hps
 rcases codeL_two p [a, b] with hc | hc
 · cases r with
   | false =>
    have HV := Lib.hid (qcC_2 (r := false) hc rfl)
    rw [hc]
    clear hc
    go_wp2_with fail
    go_ret
    exact ⟨by rw [HV.out]; rfl, hb⟩
   | true =>
    by_cases hz : deg b < 0
    · have HV := Lib.hid (qcC_5 (r := true) hc rfl hz)
      have hgd := Try.noGuard26
      have heq := fun W => zeb (P := Try.prog) W 9998 26 5 64 b (fun _ => 0) Try.underlying26 Try.underlying5 Try.size5
      rw [eqN_zero, show decide (deg b < 0) = true by simp; omega] at heq
      simp only [z64] at heq
      rw [hc]
      clear hc hz
      go_wp2_with (first | (refine zla (.tmp 6) B1 Try.underlying26 Try.size26 ?_))
      go_ret
      exact ⟨by rw [HV.out]; rfl, hb⟩
    · have HV := Lib.hid (qcC_0 (r := true) hc rfl hz)
      have hgd := Try.noGuard26
      have heq := fun W => zeb (P := Try.prog) W 9998 26 5 64 b (fun _ => 0) Try.underlying26 Try.underlying5 Try.size5
      rw [eqN_zero, show decide (deg b < 0) = false by simp; omega] at heq
      simp only [z64] at heq
      rw [hc]
      clear hc hz
      go_wp2_with (first | (refine zla (.tmp 6) B1 Try.underlying26 Try.size26 ?_))
      go_ret
      exact ⟨by rw [HV.out]; rfl, hb⟩
 · have HV := Lib.hid (qcC_1 (r := r) hc)
   rw [hc]
   clear hc
   go_wp2_with fail
   go_ret
   exact ⟨by rw [HV.out]; rfl, hb⟩
set_option maxRecDepth 100000 in
set_option maxHeartbeats 3200000 in
theorem l10Code_any (p : Int) (a b : Nat → Nat) (ha : byte a) (hbb : byte b) (w : World) :
 Calls Try.prog 62 #[.int .i64 p, .agg (zb 64 a), .agg (zb 64 b)] w fun e w' => e = .returned (.int .i64 (qcC p a b true)) ∧ Below w.heap.size w w' := by
 go_enter Try.func62, Try.ntmps62
 go_upto_region 1 with (fail)
 obtain ⟨W1, hwo⟩ : ∃ v : World, v = ((w.alloc (.cells (zb 64 (a)) 26)).alloc (.cells (zb 64 (b)) 26)) := ⟨_, rfl⟩
 have B0 : Blk W1 (w.heap.size) 64 26 (a) := by subst hwo; have := ((Blk.new w 64 26 (a)).alloc (.cells (zb 64 (b)) 26)); simpa using this
 have B1 : Blk W1 (w.heap.size + 1) 64 26 (b) := by subst hwo; have := (Blk.new (w.alloc (.cells (zb 64 (a)) 26)) 64 26 (b)); simpa using this
 have hb : Below w.heap.size w W1 := by subst hwo; exact (((Below.refl _ _).alloc (Nat.le_refl _) _).alloc (by simp) _)
 rw [← hwo]
 clear hwo
 rcases codeL_two p [a, b] with hc | hc
 · by_cases hz : deg b < 0
   · have HV := Lib.hid (qcC_5 (r := true) hc rfl hz)
     have hgd := Try.noGuard26
     have heq := fun W => zeb (P := Try.prog) W 9998 26 5 64 b (fun _ => 0) Try.underlying26 Try.underlying5 Try.size5
     rw [eqN_zero, show decide (deg b < 0) = true by simp; omega] at heq
     simp only [z64] at heq
     clear hz
     go_upto_region 3 with (first | (refine zla (.tmp 4) B0 Try.underlying26 Try.size26 ?_) | (refine zla (.tmp 5) B1 Try.underlying26 Try.size26 ?_) | (refine wpList_build_polys rfl 31 _ [a, b] rfl 26 rfl Try.underlying31 Try.elem26 (by simp) (by simp) rfl ?_; intro wa hwa hps hba; clear hwa) | (go_at_call 74; refine (l01Code_any p [a, b] (by simp [ha, hbb]) _ _ hps (by simp)).mono ?_; rintro e W2 ⟨rfl, hbb⟩; rw [hc]))
     have hBB : Below W1.heap.size W1 W2 := hba.trans (hbb.mono hba.size)
     replace B0 := B0.zw hBB
     replace B1 := B1.zw hBB
     replace hb := hb.trans (hBB.mono hb.size)
     clear hBB hba hbb hps
     clear hc
     go_wp2_with (first | (refine zla (.tmp 5) B1 Try.underlying26 Try.size26 ?_))
     go_ret
     exact ⟨by rw [HV.out]; rfl, hb⟩
   · have HV := Lib.hid (qcC_0 (r := true) hc rfl hz)
     have hgd := Try.noGuard26
     have heq := fun W => zeb (P := Try.prog) W 9998 26 5 64 b (fun _ => 0) Try.underlying26 Try.underlying5 Try.size5
     rw [eqN_zero, show decide (deg b < 0) = false by simp; omega] at heq
     simp only [z64] at heq
     clear hz
     go_upto_region 3 with (first | (refine zla (.tmp 4) B0 Try.underlying26 Try.size26 ?_) | (refine zla (.tmp 5) B1 Try.underlying26 Try.size26 ?_) | (refine wpList_build_polys rfl 31 _ [a, b] rfl 26 rfl Try.underlying31 Try.elem26 (by simp) (by simp) rfl ?_; intro wa hwa hps hba; clear hwa) | (go_at_call 74; refine (l01Code_any p [a, b] (by simp [ha, hbb]) _ _ hps (by simp)).mono ?_; rintro e W2 ⟨rfl, hbb⟩; rw [hc]))
     have hBB : Below W1.heap.size W1 W2 := hba.trans (hbb.mono hba.size)
     replace B0 := B0.zw hBB
     replace B1 := B1.zw hBB
     replace hb := hb.trans (hBB.mono hb.size)
     clear hBB hba hbb hps
     clear hc
     go_wp2_with (first | (refine zla (.tmp 5) B1 Try.underlying26 Try.size26 ?_))
     go_ret
     exact ⟨by rw [HV.out]; rfl, hb⟩
 · have HV := Lib.hid (qcC_1 (r := true) hc)
   go_upto_region 2 with (first | (refine zla (.tmp 4) B0 Try.underlying26 Try.size26 ?_) | (refine zla (.tmp 5) B1 Try.underlying26 Try.size26 ?_) | (refine wpList_build_polys rfl 31 _ [a, b] rfl 26 rfl Try.underlying31 Try.elem26 (by simp) (by simp) rfl ?_; intro wa hwa hps hba; clear hwa) | (go_at_call 74; refine (l01Code_any p [a, b] (by simp [ha, hbb]) _ _ hps (by simp)).mono ?_; rintro e W2 ⟨rfl, hbb⟩; rw [hc]))
   have hBB : Below W1.heap.size W1 W2 := hba.trans (hbb.mono hba.size)
   replace B0 := B0.zw hBB
   replace B1 := B1.zw hBB
   replace hb := hb.trans (hBB.mono hb.size)
   clear hBB hba hbb hps
   clear hc
   go_wp2_with fail
   go_ret
   exact ⟨by rw [HV.out]; rfl, hb⟩
end Go.Proofs.Ytgcajgmokcmcgaa
end
section
namespace Go.Proofs.Ytgcajgmokcmcgaa
open Go Go.RowKit
set_option linter.unusedVariables false
set_option linter.unusedSimpArgs false
attribute [local irreducible] deg invN dS qS stp stpr quoP resP ofN dvo run monL facRows
theorem slL_empty (w : World) (e : TypeId) (size : Nat) {base : Nat} (h : base ≤ w.heap.size) : SlL (w.alloc (.cells #[] e)) base e size (.slice (some ⟨w.heap.size, 0, none⟩) 0 0) [] := by
 delta SlL
 refine ⟨?_, ?_, ?_⟩
 · simp; omega
 · intro c hc; cases hc
 · exact ⟨by simp, .inr ⟨w.heap.size, 0, #[], rfl, h, heap_alloc_last w _, Nat.le_refl _, Nat.zero_le _, by simp, by simp⟩⟩
end Go.Proofs.Ytgcajgmokcmcgaa
end
section
namespace Go.Proofs.Ytgcajgmokcmcgaa
open Go Go.RowKit
set_option linter.unusedVariables false
set_option linter.unusedSimpArgs false
/-- the mark of a cell -/
def mkF (q : Nat) : Value := if q % 65 = 64 then .int .i64 (1 + (q : Int)) else .int .u8 ((1 + (q : Int)) % 256)
/-- the first q cells of a slice are marked -/
def MkF (w : World) (base : Nat) (v : Value) (n q : Nat) : Prop := ∃ ys, w.ownsRow base 170 65 v n ys ∧ ∀ k, k < q → ys[k]? = some (mkF k)
theorem SlL.marks {w : World} {base n : Nat} {v : Value} {cs : List (List Value)} (h : SlL w base 170 65 v cs) (hn : cs.length = n) : MkF w base v n 0 := by
 delta SlL at h
 exact ⟨cs.flatten, hn ▸ h.2.2, fun k hk => absurd hk (by omega)⟩
theorem MkF.own {w : World} {base n q : Nat} {v : Value} (h : MkF w base v n q) : ∀ r, v.ownBlock = Option.some r → base ≤ r ∧ r < w.heap.size := by
 obtain ⟨ys, h1, _⟩ := h
 exact fun r hr => h1.lt r hr
theorem MkF.grown {w w' : World} {base n q : Nat} {v : Value} {row : Option Nat} (h : MkF w base v n q) (hg : w.grownBy w' row) (hr : v.ownBlock = none ∨ v.ownBlock ≠ row) : MkF w' base v n q := by
 obtain ⟨ys, h1, h2⟩ := h
 exact ⟨ys, h1.kept hg hr, h2⟩
theorem MkF.below {w w' : World} {base n q : Nat} {v : Value} (h : MkF w base v n q) (hb : Below w.heap.size w w') : MkF w' base v n q :=
 h.grown (row := none) ⟨hb.os, hb.tape, hb.output, hb.size, fun k hk _ => hb.block k hk⟩ (by
  cases hv : v.ownBlock with
  | none => exact .inl rfl
  | some k => exact .inr (by simp))
theorem MkF.step {w : World} {base n q g cap : Nat} (h : MkF w base (.slice (some ⟨g, 0, none⟩) n cap) n q) (hq : q < n * 65) :
 (∃ u, w.cell? ⟨g, q, none⟩ = Option.some u) ∧ w.frozen? ⟨g, q, none⟩ = false ∧ MkF (w.setCell ⟨g, q, none⟩ (mkF q)) base (.slice (some ⟨g, 0, none⟩) n cap) n (q + 1) ∧ w.grownBy (w.setCell ⟨g, q, none⟩ (mkF q)) (Option.some g) := by
 obtain ⟨ys, h1, h2⟩ := h
 have hl : q < ys.length := by rw [h1.1]; exact hq
 obtain ⟨s1, s2⟩ := h1.stored q (mkF q)
 refine ⟨⟨ys[q], by rw [h1.cellAt q hq]; exact List.getElem?_eq_getElem hl⟩, h1.frozenAt q, ⟨_, s1, fun k hk => ?_⟩, s2⟩
 rw [List.getElem?_set]
 by_cases e : q = k
 · subst e; rw [if_pos rfl, if_pos hl]
 · rw [if_neg e]; exact h2 k (by omega)
theorem MkF.cell {w : World} {base n q g cap k : Nat} (h : MkF w base (.slice (some ⟨g, 0, none⟩) n cap) n q) (hk : k < q) (hq : q ≤ n * 65) : w.cell? ⟨g, k, none⟩ = Option.some (mkF k) := by
 obtain ⟨ys, h1, h2⟩ := h
 rw [h1.cellAt k (by omega)]
 exact h2 k hk
theorem MkF.same {w : World} {base n q : Nat} {v : Value} (h : MkF w base v n q) (r : Nat) (e : r = q) : MkF w base v n r := e ▸ h
attribute [local irreducible] mkF MkF
end Go.Proofs.Ytgcajgmokcmcgaa
namespace Go.Proofs.Ytgcajgmokcmcgaa
open Go Go.RowKit
set_option linter.unusedVariables false
set_option linter.unusedSimpArgs false
/-- the rows of polynomials -/
def plR (L : List (Nat → Nat)) : List (List Value) := L.map fun f => bl 64 f
theorem plR_snoc (L : List (Nat → Nat)) (x : Nat → Nat) : plR (L ++ [x]) = plR L ++ [bl 64 x] := by simp [plR]
theorem plR_len (L : List (Nat → Nat)) : (plR L).length = L.length := by simp [plR]
theorem plR_nil : plR [] = [] := rfl
attribute [irreducible] plR
/-- the mark of a cell -/
def mkW (q : Nat) : Value := .int .u8 ((1 + (q : Int)) % 256)
/-- the first q cells of a slice are marked -/
def MkP (w : World) (base : Nat) (v : Value) (n q : Nat) : Prop := ∃ ys, w.ownsRow base 26 64 v n ys ∧ ∀ k, k < q → ys[k]? = some (mkW k)
theorem MkP.own {w : World} {base n q : Nat} {v : Value} (h : MkP w base v n q) : ∀ r, v.ownBlock = Option.some r → base ≤ r ∧ r < w.heap.size := by
 obtain ⟨ys, h1, _⟩ := h
 exact fun r hr => h1.lt r hr
theorem MkP.grown {w w' : World} {base n q : Nat} {v : Value} {row : Option Nat} (h : MkP w base v n q) (hg : w.grownBy w' row) (hr : v.ownBlock = none ∨ v.ownBlock ≠ row) : MkP w' base v n q := by
 obtain ⟨ys, h1, h2⟩ := h
 exact ⟨ys, h1.kept hg hr, h2⟩
theorem MkP.below {w w' : World} {base n q : Nat} {v : Value} (h : MkP w base v n q) (hb : Below w.heap.size w w') : MkP w' base v n q :=
 h.grown (row := none) ⟨hb.os, hb.tape, hb.output, hb.size, fun k hk _ => hb.block k hk⟩ (by
  cases hv : v.ownBlock with
  | none => exact .inl rfl
  | some k => exact .inr (by simp))
theorem MkP.step {w : World} {base n q g cap : Nat} (h : MkP w base (.slice (some ⟨g, 0, none⟩) n cap) n q) (hq : q < n * 64) :
 (∃ u, w.cell? ⟨g, q, none⟩ = Option.some u) ∧ w.frozen? ⟨g, q, none⟩ = false ∧ MkP (w.setCell ⟨g, q, none⟩ (mkW q)) base (.slice (some ⟨g, 0, none⟩) n cap) n (q + 1) ∧ w.grownBy (w.setCell ⟨g, q, none⟩ (mkW q)) (Option.some g) := by
 obtain ⟨ys, h1, h2⟩ := h
 have hl : q < ys.length := by rw [h1.1]; exact hq
 obtain ⟨s1, s2⟩ := h1.stored q (mkW q)
 refine ⟨⟨ys[q], by rw [h1.cellAt q hq]; exact List.getElem?_eq_getElem hl⟩, h1.frozenAt q, ⟨_, s1, fun k hk => ?_⟩, s2⟩
 rw [List.getElem?_set]
 by_cases e : q = k
 · subst e; rw [if_pos rfl, if_pos hl]
 · rw [if_neg e]; exact h2 k (by omega)
theorem MkP.cell {w : World} {base n q g cap k : Nat} (h : MkP w base (.slice (some ⟨g, 0, none⟩) n cap) n q) (hk : k < q) (hq : q ≤ n * 64) : w.cell? ⟨g, k, none⟩ = Option.some (mkW k) := by
 obtain ⟨ys, h1, h2⟩ := h
 rw [h1.cellAt k (by omega)]
 exact h2 k hk
theorem MkP.same {w : World} {base n q : Nat} {v : Value} (h : MkP w base v n q) (r : Nat) (e : r = q) : MkP w base v n r := e ▸ h
attribute [local irreducible] mkW MkP
end Go.Proofs.Ytgcajgmokcmcgaa
end
section
namespace Go.Proofs.Ytgcajgmokcmcgaa
open Go Go.RowKit
set_option linter.unusedVariables false
/-- the blocks of w, those of S aside, are in w' as they were -/
def Kx (S : List Nat) (w w' : World) : Prop := w.heap.size ≤ w'.heap.size ∧ ∀ b, b < w.heap.size → b ∉ S → w'.heap[b]? = w.heap[b]?
theorem Kx.start (S : List Nat) (w : World) : Kx S w w.drew := ⟨Nat.le_refl _, fun _ _ _ => rfl⟩
theorem Kx.below {S : List Nat} {w w1 w2 : World} (h : Kx S w w1) (hy : Below w1.heap.size w1 w2) : Kx S w w2 :=
 ⟨Nat.le_trans h.1 hy.size, fun b hb hs => (hy.block b (Nat.lt_of_lt_of_le hb h.1)).trans (h.2 b hb hs)⟩
theorem Kx.alloc {S : List Nat} {w w1 : World} (h : Kx S w w1) (o : Obj) : Kx S w (w1.alloc o) := h.below (zal _ _)
theorem Kx.row {S : List Nat} {w w1 : World} (h : Kx S w w1) {s : Nat} (hs : s ∈ S) (cs : Array Value) : Kx S w (w1.setRow s cs) :=
 ⟨by simpa [World.setRow] using h.1, fun b hb hn => by rw [setRow_other _ _ _ _ (fun e => hn (by rw [e]; exact hs))]; exact h.2 b hb hn⟩
end Go.Proofs.Ytgcajgmokcmcgaa
end
section
namespace Go.Proofs.Ytgcajgmokcmcgaa
open Go Go.RowKit
set_option linter.unusedVariables false
section
variable {P : Program} {ops : Array Oper} {Q : Exit → Act → World → Prop}
/-- what is asked of operation i -/
def StepOkU (P : Program) (ops : Array Oper) (Q : Exit → Act → World → Prop) (a0 : Act) (Ψ : (Nat → Bool) → (Nat → Value) → World → Prop) (i : Nat) (o : Oper) : Prop :=
 ∀ (L : Nat → Bool) (v : Nat → Value) (w : World), (∀ e, e ∈ o.after → Region.binds .any e = true → L e.on = true) →
  (∀ j p, ops[j]? = some p → L j = true → ∀ e, e ∈ p.after → Region.binds .any e = true → e.on ≠ i) → L i = false → Ψ L v w →
  ∀ K : Act → World → Prop, (∀ a' y w', a' = (fr a0 ops v).put o.dst y → Ψ (setL L i) (updV v i y) w' → K a' w') →
   if Region.wanted o (yielded ops (fr a0 ops v).tmps) = true then Oper.wp P o (fr a0 ops v) w K Q else K ((fr a0 ops v).put o.dst undef) w

theorem wpAny_invU {a0 : Act} {Ψ : (Nat → Bool) → (Nat → Value) → World → Prop} (hd : dstsOkL ops.toList = true) (he : edgesOk ops = true)
 (hstep : ∀ i o, ops[i]? = some o → StepOkU P ops Q a0 Ψ i o)
 (hend : ∀ L v w, (∀ i, i < ops.size → L i = true) → Ψ L v w → Q .normal (fr a0 ops v) w) :
 ∀ (fuel : Nat) (listed : Array Bool) (v : Nat → Value) (w : World), listed.size = ops.size → (listed.toList.filter (!·)).length = fuel → Ψ (fun j => listed.getD j false) v w →
  (∀ j p, ops[j]? = some p → listed.getD j false = true → ∀ e, e ∈ p.after → Region.binds .any e = true → listed.getD e.on false = true) →
  wpAny P .any ops Q fuel listed (fr a0 ops v) w := by
 have hall : ∀ listed : Array Bool, listed.size = ops.size → Region.ready .any ops listed = [] → ∀ i, i < ops.size → listed.getD i false = true := by
  intro listed hs hr i
  induction i using Nat.strongRecOn with
  | _ i ih =>
   intro hi
   cases hb : listed.getD i false with
   | true => rfl
   | false =>
    exfalso
    have hmem : i ∈ Region.ready .any ops listed := by
     unfold Region.ready
     simp only [List.mem_filter, List.mem_range, hi, true_and, Bool.and_eq_true]
     have ho : ops[i]? = some ops[i] := Array.getElem?_eq_getElem hi
     constructor
     · have : listed.getD i true = false := by
        have h2 : i < listed.size := by omega
        simpa [Array.getD, h2] using hb
       simp [this]
     · rw [ho]
       simp only [Option.map_some, Option.getD_some, Array.all_eq_true_iff_forall_mem]
       intro e hem
       have hE := he
       unfold edgesOk at hE
       rw [List.all_eq_true] at hE
       have := hE i (by simpa using hi)
       rw [ho] at this
       simp only [Option.map_some, Option.getD_some, Array.all_eq_true_iff_forall_mem] at this
       have h3 := this e hem
       cases hbd : Region.binds .any e with
       | false => simp
       | true =>
        simp only [hbd, Bool.not_true, Bool.false_or, decide_eq_true_eq] at h3
        simp [ih e.on h3 (by omega)]
    rw [hr] at hmem
    cases hmem
 intro fuel
 induction fuel with
 | zero =>
  intro listed v w hs hc hI _
  have hl : ∀ i, i < ops.size → listed.getD i false = true := by
   intro i hi
   have h2 : i < listed.size := by omega
   cases hb : listed[i] with
   | true => simp [Array.getD, h2, hb]
   | false =>
    exfalso
    have : false ∈ listed.toList.filter (!·) := by
     rw [List.mem_filter]
     exact ⟨by rw [← hb]; simp, rfl⟩
    rw [List.length_eq_zero_iff.1 hc] at this
    cases this
  refine ⟨?_, hend _ v w hl hI⟩
  unfold Region.ready
  rw [List.filter_eq_nil_iff]
  intro i hi
  have hi' : i < ops.size := by simpa using hi
  have h2 : i < listed.size := by omega
  have := hl i hi'
  have h4 : listed.getD i true = true := by simpa [Array.getD, h2] using this
  simp [h4]
 | succ fuel ih =>
  intro listed v w hs hc hI hcl
  refine ⟨fun hr => hend _ v w (hall listed hs hr) hI, ?_⟩
  intro i hi
  unfold Region.ready at hi
  simp only [List.mem_filter, List.mem_range, Bool.and_eq_true] at hi
  obtain ⟨hin, hnl, haf⟩ := hi
  have ho : ops[i]? = some ops[i] := Array.getElem?_eq_getElem hin
  rw [ho] at haf
  simp only [Option.map_some, Option.getD_some, Array.all_eq_true_iff_forall_mem] at haf
  have h2 : i < listed.size := by omega
  have hfalse : listed[i] = false := by
   have : listed.getD i true = false := by simpa using hnl
   simpa [Array.getD, h2] using this
  refine wpOp_step ho fun K' hK => ?_
  refine hstep i _ ho _ v w ?_ ?_ (by simp [Array.getD, h2, hfalse]) hI K' ?_
  · intro e hem hb
    have := haf e hem
    simpa [hb] using this
  · intro j p hp hj e hem hb he'
    have := hcl j p hp hj e hem hb
    rw [he'] at this
    simp [Array.getD, h2, hfalse] at this
  · intro a' y w' ha' hΨ
    subst ha'
    refine hK _ _ ?_
    have hst : (fr a0 ops v).put ops[i].dst y = fr a0 ops (updV v i y) := by
     have := frL_step ops.toList a0 0 v i ops[i] y hd (by simp [hin])
     rw [Nat.zero_add] at this
     exact this
    rw [hst]
    have e : (fun j => (listed.setIfInBounds i true).getD j false) = setL (fun j => listed.getD j false) i := by
     funext j
     unfold setL
     by_cases h : j = i
     · subst h; simp [Array.getD, h2]
     · have h' : ¬ i = j := fun e => h e.symm
       simp only [h, if_false, Array.getD, Array.size_setIfInBounds]
       by_cases h3 : j < listed.size
       · simp [h3, h']
       · simp [h3]
    refine ih _ _ _ (by simpa using hs) ?_ ?_ ?_
    · have : ∀ (l : List Bool) (i : Nat) (h : i < l.length), l[i] = false → ((l.set i true).filter (!·)).length + 1 = (l.filter (!·)).length := by
       intro l
       induction l with
       | nil => intro i h; simp at h
       | cons b l ihl =>
        intro i h hf
        cases i with
        | zero => simp at hf; subst hf; simp
        | succ i =>
         simp only [List.set_cons_succ]
         have := ihl i (by simpa using h) (by simpa using hf)
         cases b <;> simp <;> omega
      have := this listed.toList i (by simpa using h2) (by simpa using hfalse)
      rw [Array.toList_setIfInBounds]
      omega
    · rw [e]
      exact hΨ
    · intro j p hp hj e2 hem hb
      have ej := congrFun e j
      have ee := congrFun e e2.on
      skip
      rw [ej] at hj
      rw [ee]
      unfold setL at hj ⊢
      by_cases h1 : e2.on = i
      · simp [h1]
      · simp only [h1, if_false]
        by_cases h2 : j = i
        · subst h2
          rw [ho] at hp
          simp only [Option.some.injEq] at hp
          subst hp
          have := haf e2 hem
          simpa [hb] using this
        · simp only [h2, if_false] at hj
          exact hcl j p hp hj e2 hem hb

theorem wp_region_psiU {id : Nat} {a0 : Act} {w : World} (hm : P.follows .mixedOrders = true) (hd : dstsOkL ops.toList = true) (he : edgesOk ops = true)
 (Ψ : (Nat → Bool) → (Nat → Value) → World → Prop) (h0 : Ψ (fun _ => false) (fun i => ((ops[i]?.bind (·.dst)).map fun t => a0.tmps.getD t undef).getD undef) w.drew)
 (hstep : ∀ i o, ops[i]? = some o → StepOkU P ops Q a0 Ψ i o)
 (hend : ∀ L v w, (∀ i, i < ops.size → L i = true) → Ψ L v w → Q .normal (fr a0 ops v) w) : (Code.region id ops true).wp P Q a0 w := by
 refine wp_region_any hm ?_
 have hfr : fr a0 ops (fun i => ((ops[i]?.bind (·.dst)).map fun t => a0.tmps.getD t undef).getD undef) = a0 := by
  refine frL_start _ _ _ _ fun i o ho => ?_
  have ho' : ops[i]? = some o := by simpa using ho
  simp [ho']
 have key := wpAny_invU (P := P) (Q := Q) hd he hstep hend ops.size (Array.replicate ops.size false) (fun i => ((ops[i]?.bind (·.dst)).map fun t => a0.tmps.getD t undef).getD undef) w.drew (by simp) (by simp) (by
  have e : (fun j => (Array.replicate ops.size false).getD j false) = fun _ => false := by
   funext j; simp [Array.getD]
  rw [e]; exact h0) (by
  intro j p _ hj
  simp [Array.getD] at hj)
 rw [hfr] at key
 exact key

/-- what is asked of operation i, no guard before it; F: the frame, written out -/
def StepV (P : Program) (ops : Array Oper) (Q : Exit → Act → World → Prop) (F : (Nat → Value) → Act) (Ψ : (Nat → Bool) → (Nat → Value) → World → Prop) (i : Nat) (o : Oper) : Prop :=
 ∀ (L : Nat → Bool) (v : Nat → Value) (w : World), (∀ e, e ∈ o.after → Region.binds .any e = true → L e.on = true) →
  (∀ j p, ops[j]? = some p → L j = true → ∀ e, e ∈ p.after → Region.binds .any e = true → e.on ≠ i) → L i = false → Ψ L v w →
  ∀ K : Act → World → Prop, (∀ a' y w', a' = (F v).put o.dst y → Ψ (setL L i) (updV v i y) w' → K a' w') → Oper.wp P o (F v) w K Q
inductive StepsV (P : Program) (ops : Array Oper) (Q : Exit → Act → World → Prop) (F : (Nat → Value) → Act) (Ψ : (Nat → Bool) → (Nat → Value) → World → Prop) : List Oper → Nat → Prop
 | nil (k : Nat) : StepsV P ops Q F Ψ [] k
 | cons {o : Oper} {os : List Oper} {k : Nat} (hg : o.guard = none) (h : StepV P ops Q F Ψ k o) (hs : StepsV P ops Q F Ψ os (k + 1)) : StepsV P ops Q F Ψ (o :: os) k
theorem steps_ofV {F : (Nat → Value) → Act} {Ψ : (Nat → Bool) → (Nat → Value) → World → Prop} : ∀ (os : List Oper) (k : Nat), StepsV P ops Q F Ψ os k → ∀ i o, os[i]? = some o → o.guard = none ∧ StepV P ops Q F Ψ (k + i) o
 | [], _, _, _, _, h => by simp at h
 | p :: os, k, hs, 0, o, h => by
  simp only [List.getElem?_cons_zero, Option.some.injEq] at h
  subst h
  cases hs with
  | cons hg h _ => exact ⟨hg, h⟩
 | p :: os, k, hs, i + 1, o, h => by
  cases hs with
  | cons _ _ hs =>
   have := steps_ofV os (k + 1) hs i o (by simpa using h)
   rwa [show k + 1 + i = k + (i + 1) by omega] at this
theorem wp_region_stepsU {os : List Oper} {id : Nat} {a0 : Act} {w : World} (hm : P.follows .mixedOrders = true) (hd : dstsOkL os = true) (he : edgesOk os.toArray = true)
 {F : (Nat → Value) → Act} (hF : ∀ v, frL a0 os 0 v = F v)
 (Ψ : (Nat → Bool) → (Nat → Value) → World → Prop) (h0 : Ψ (fun _ => false) (fun i => ((os.toArray[i]?.bind (·.dst)).map fun t => a0.tmps.getD t undef).getD undef) w.drew)
 (hstep : StepsV P os.toArray Q F Ψ os 0)
 (hend : ∀ L v w, (∀ i, i < os.length → L i = true) → Ψ L v w → Q .normal (F v) w) : (Code.region id os.toArray true).wp P Q a0 w := by
 refine wp_region_psiU hm (by simpa using hd) he Ψ h0 (fun i o ho => ?_) (fun L v w hL hΨ => ?_)
 · obtain ⟨hg, hs⟩ := steps_ofV _ _ hstep i o (by simpa using ho)
   rw [Nat.zero_add] at hs
   intro L v w h1 h2 hU h3 K hK
   have hw : Region.wanted o (yielded os.toArray (fr a0 os.toArray v).tmps) = true := by simp [Region.wanted, hg]
   rw [if_pos hw]
   have hf : fr a0 os.toArray v = F v := hF v
   rw [hf] at hK ⊢
   exact hs L v w h1 h2 hU h3 K hK
 · have hf : fr a0 os.toArray v = F v := hF v
   rw [hf]
   exact hend L v w (by simpa using hL) hΨ
end
end Go.Proofs.Ytgcajgmokcmcgaa
end
section
namespace Go.Proofs.Ytgcajgmokcmcgaa
open Go Go.RowKit
set_option linter.unusedVariables false
set_option linter.unusedSimpArgs false
/-- how long is the list -/
def lenOf (v : Value) : Nat := match v with
 | .slice _ n _ => n
 | _ => 0
def cfM (l : Nat) (a' : Act) : Nat := if l = 0 then 100 - lenOf (a'.tmps.getD 7 undef) else 0
def cfJ (p : Nat) (a b : Nat → Nat) (w : World) (N2 N3 base : Nat) (l : Nat) (a' : Act) (w' : World) : Prop :=
 ∃ (A B fq fr : Nat → Nat) (lst : Value) (Lq : List (Nat → Nat)) (u10 u11 u12 u13 u14 u15 u16 u17 u18 u19 u20 u21 u22 u23 u24 u25 u26 : Value), a' = { tmps := #[.int .i64 (p : Int), .agg (zb 64 a), .agg (zb 64 b), undef, .pointer (some ⟨w.heap.size, 0, none⟩), .pointer (some ⟨w.heap.size + 1, 0, none⟩), .slice none 0 0, lst, .pointer (some ⟨N2, 0, none⟩), .pointer (some ⟨N3, 0, none⟩), u10, u11, u12, u13, u14, u15, u16, u17, u18, u19, u20, u21, u22, u23, u24, u25, u26], defers := [] } ∧ Below w.heap.size w w' ∧ Blk w' w.heap.size 64 26 A ∧ Blk w' (w.heap.size + 1) 64 26 B ∧ Blk w' N2 64 26 fq ∧ Blk w' N3 64 26 fr ∧ SlL w' base 26 64 lst (plR Lq) ∧ Lq.length ≤ 65 ∧ lenOf lst = Lq.length ∧
  ((l = 0 ∧ 0 ≤ deg B ∧ (∀ k, k < 64 → A k < p) ∧ (∀ k, k < 64 → B k < p) ∧ Lq ++ cfL p A B = cfL p a b) ∨ (l = 1 ∧ Lq = cfL p a b))
theorem slL_lenOf {w : World} {base : Nat} {v : Value} {Lq : List (Nat → Nat)} (h : SlL w base 26 64 v (plR Lq)) : lenOf v = Lq.length := by
 obtain ⟨a, c, e⟩ := h.form
 rw [e, plR_len]; rfl
/-- a list of polynomials is handed back -/
def PlV (Lq : List (Nat → Nat)) (w : World) (e : Ending) (w' : World) : Prop := ∃ v, e = .returned v ∧ SlL w' w.heap.size 26 64 v (plR Lq) ∧ Below w.heap.size w w'
attribute [local irreducible] deg quoP resP cfL
set_option maxRecDepth 100000 in
set_option maxHeartbeats 3200000 in
theorem cf_turn (p : Nat) (a b : Nat → Nat) (w : World) (N2 N3 base : Nat) (A B fq fr : Nat → Nat) (lst : Value) (Lq : List (Nat → Nat)) (u10 u11 u12 u13 u14 u15 u16 u17 u18 u19 u20 u21 u22 u23 u24 u25 u26 : Value) (wr : World) (Q : Exit → Act → World → Prop) (hb : Below w.heap.size w wr) (B0 : Blk wr w.heap.size 64 26 A) (B1 : Blk wr (w.heap.size + 1) 64 26 B) (B2 : Blk wr N2 64 26 fq) (B3 : Blk wr N3 64 26 fr) (hS : SlL wr base 26 64 lst (plR Lq)) (hpr : p = 2 ∨ p = 3 ∨ p = 5 ∨ p = 7) (z2 : w.heap.size + 1 < N2) (z3 : N2 < N3) (z4 : N3 < base) (hL : Lq.length ≤ 64)
 (h0 : 0 ≤ deg B) (lA : ∀ k, k < 64 → A k < p) (lB : ∀ k, k < 64 → B k < p) (ht : Lq ++ cfL p A B = cfL p a b) :
 (tailOf (behind Try.f73 0)).wp Try.prog (Exit.jumps (fun l' a' w' => cfJ p a b w N2 N3 base l' a' w' ∧ cfM l' a' < 100 - Lq.length) Q) { tmps := #[.int .i64 (p : Int), .agg (zb 64 a), .agg (zb 64 b), undef, .pointer (some ⟨w.heap.size, 0, none⟩), .pointer (some ⟨w.heap.size + 1, 0, none⟩), .slice none 0 0, lst, .pointer (some ⟨N2, 0, none⟩), .pointer (some ⟨N3, 0, none⟩), u10, u11, u12, u13, u14, u15, u16, u17, u18, u19, u20, u21, u22, u23, u24, u25, u26], defers := [] } wr := by
 have HQR := Lib.hid (fun W => quotientAndRest_any p A B W hpr lA lB h0)
 have HLR := Lib.hid (show ∀ k, k < 64 → resP p A B k < p from fun k hk => resP_lt (by omega) lA k hk)
 have HCO := Lib.hid (show cfL p a b = Lq ++ [quoP p A B] ++ cfL p B (resP p A B) by rw [← ht, cfL_cons hpr lA lB h0, List.append_assoc]; rfl)
 have HCN := Lib.hid (fun h : deg (resP p A B) < 0 => cfL_none (p := p) (a := B) h)
 have HLB := Lib.hid lB
 obtain ⟨Qq, hQq⟩ : ∃ q, q = quoP p A B := ⟨_, rfl⟩
 obtain ⟨R, hR⟩ : ∃ r, r = resP p A B := ⟨_, rfl⟩
 rw [← hQq, ← hR] at HQR
 rw [← hQq, ← hR] at HCO
 rw [← hR] at HLR HCN
 clear lA lB h0 ht hQq hR hpr
 simp only [tailOf, behind, Try.f73, Option.bind_some, scopeIn, Option.getD_some, findLabel, Nat.reduceBEq, if_true, if_false, Bool.false_eq_true, beq_self_eq_true]
 have lt_b := hS.lt
 have lt_B0 := B0.lt
 have lt_B1 := B1.lt
 have lt_B2 := B2.lt
 have lt_B3 := B3.lt
 have lt_hS := hS.lt
 go_upto_region 4 with (first | rw [← z64] | (refine zla (.tmp 4) B0 Try.underlying26 Try.size26 ?_) | (refine zla (.tmp 5) B1 Try.underlying26 Try.size26 ?_) | (go_at_call 118; refine (HQR.out _).mono ?_; rintro e W1 ⟨rfl, hW1⟩; replace B0 := B0.zw hW1; replace B1 := B1.zw hW1; replace B2 := B2.zw hW1; replace B3 := B3.zw hW1; replace hS := hS.zw hW1; replace hb := (hb).trans (hW1.mono (hb).size)) | (refine zsr (.tmp 8) (.tmp 15) (Qq) B2 Try.size26 ?_; try simp only [Act.put]) | (refine wpList_store_blk rfl 26 (.tmp 9) (.tmp 16) rfl _ 64 (R) rfl rfl 26 _ ((B3.rowOther (by omega))) Try.size26 ?_; try simp only [Act.put]))
 obtain ⟨W2, hwo, hzQ⟩ : ∃ v : World, v = ((W1.setRow (N2) (zb 64 (Qq))).setRow (N3) (zb 64 (R))) ∧ Blk v (w.heap.size) 64 26 (A) ∧ Blk v (w.heap.size + 1) 64 26 (B) ∧ Blk v (N2) 64 26 (Qq) ∧ Blk v (N3) 64 26 (R) ∧ SlL v base 26 64 lst (plR Lq) ∧ Below w.heap.size w v := ⟨_, rfl, ((B0.rowOther (by omega)).rowOther (by omega)), ((B1.rowOther (by omega)).rowOther (by omega)), ((B2.row (Qq)).rowOther (by omega)), ((B3.rowOther (by omega)).row (R)), ((hS.rowOther (by omega)).rowOther (by omega)), (zr (zr hb (by omega) _) (by omega) _)⟩
 rw [← hwo]
 clear hwo B0 B1 B2 B3 hS hb
 obtain ⟨B0, B1, B2, B3, hS, hb⟩ := hzQ
 try simp only [Act.put, pA, pB, pC]
 go_upto_region 5 with (first | (refine zla (.tmp 8) B2 Try.underlying26 Try.size26 ?_) | (refine wpList_build1 rfl 31 _ (bl 64 Qq) 64 rfl 26 Try.underlying31 Try.elem26 (by decide) (by decide) (zl _ _) rfl ?_; intro wa hps hba; have e0 := B0.zw hba; have e1 := B1.zw hba; have e2 := B2.zw hba; have e3 := B3.zw hba; have eS := hS.zw hba; have ehb := hb.trans (hba.mono hb.size)) | (at_builtin; refine wpList_append_sl _ rfl _ _ 31 rfl base 26 (.agg (zb 64 fun _ => 0)) 64 64 Try.underlying31 Try.infoPoly (by simp [Value.cells, bl]) (by decide) lst _ rfl eS W2.heap.size (bl 64 Qq) rfl (zl _ _) hps.range bl_one (by rw [plR_len]; unfold maxLen; omega) (by rw [plR_len]; omega) ?_; intro vp wp hSp hg1; have fhb := ehb.grown hg1 ehb.size (fun k e => Nat.le_trans (by omega) (eS.own k e)); replace e0 := e0.grownO hg1 (eS.own) (base := base) (by omega); replace e1 := e1.grownO hg1 (eS.own) (base := base) (by omega); replace e2 := e2.grownO hg1 (eS.own) (base := base) (by omega); replace e3 := e3.grownO hg1 (eS.own) (base := base) (by omega)))
 rw [← plR_snoc] at hSp
 have hln : lenOf vp = Lq.length + 1 := by rw [slL_lenOf hSp, List.length_append]; rfl
 have hgd := Try.noGuard26
 by_cases hz : deg R < 0
 · have HTT := Lib.hid (show Lq ++ [Qq] = cfL p a b by rw [HCO.out, HCN.out hz, List.append_nil])
   have heq := fun W => zeb (P := Try.prog) W 9998 26 5 64 R (fun _ => 0) Try.underlying26 Try.underlying5 Try.size5
   rw [eqN_zero, show decide (deg R < 0) = true by simp; omega] at heq
   simp only [z64] at heq
   clear hz
   go_wp2_with (first | (refine zla (.tmp 9) e3 Try.underlying26 Try.size26 ?_))
   go_step3
   refine ⟨⟨A, B, Qq, R, vp, Lq ++ [Qq], _, _, _, _, _, _, _, _, _, _, _, _, _, _, _, _, _, rfl, fhb, e0, e1, e2, e3, hSp, by rw [List.length_append, List.length_singleton]; omega, by rw [hln, List.length_append]; rfl, .inr ⟨rfl, HTT.out⟩⟩, ?_⟩
   simp [cfM] <;> omega
 · have hz0 : 0 ≤ deg R := by omega
   have heq := fun W => zeb (P := Try.prog) W 9998 26 5 64 R (fun _ => 0) Try.underlying26 Try.underlying5 Try.size5
   rw [eqN_zero, show decide (deg R < 0) = false by simp; omega] at heq
   simp only [z64] at heq
   have HZ0 := Lib.hid hz0
   clear hz hz0
   go_upto_region 6 with (first | (refine zla (.tmp 9) e3 Try.underlying26 Try.size26 ?_))
   clear heq hgd
   have lt_e0 : (w.heap.size) < wp.heap.size := e0.lt
   have lt_e1 : (w.heap.size + 1) < wp.heap.size := e1.lt
   have lt_e2 : (N2) < wp.heap.size := e2.lt
   have lt_e3 : (N3) < wp.heap.size := e3.lt
   have lt_hSp : (base) ≤ wp.heap.size := hSp.lt
   have hbase : w.heap.size ≤ wp.heap.size := fhb.size
   refine zq Try.mixed (by kernel_rfl) (by kernel_rfl) (fun v => by (simp only [frL, Act.put, pA, pB, pC, Nat.reduceAdd, Nat.zero_add]; exact rfl))
    (fun L v W3 => Below w.heap.size w W3 ∧ wp.heap.size ≤ W3.heap.size ∧ (∃ g, Blk W3 (w.heap.size) 64 26 (g)) ∧ (L 2 = false → Blk W3 (w.heap.size) 64 26 (A)) ∧ (L 2 = true → Blk W3 (w.heap.size) 64 26 (B)) ∧ (∃ g, Blk W3 (w.heap.size + 1) 64 26 (g)) ∧ (L 3 = false → Blk W3 (w.heap.size + 1) 64 26 (B)) ∧ (L 3 = true → Blk W3 (w.heap.size + 1) 64 26 (R)) ∧ Blk W3 (N2) 64 26 (Qq) ∧ Blk W3 (N3) 64 26 (R) ∧ SlL W3 base 26 64 vp (plR (Lq ++ [Qq])) ∧ VF L v [some (.agg (zb 64 (B))), some (.agg (zb 64 (R))), none, none]) ?_ ?_ ?_
   · intro v hv0
     exact ⟨fhb.drew, Nat.le_refl _, ⟨_, e0.drew⟩, (fun _ => e0.drew), (fun h => by cases h), ⟨_, e1.drew⟩, (fun _ => e1.drew), (fun h => by cases h), e2.drew, e3.drew, hSp.drew, VF.start⟩
   · refine (.cons rfl ?_ (.cons rfl ?_ (.cons rfl ?_ (.cons rfl ?_ (.nil _)))))
     all_goals intro L v W3 hd hn ⟨hB, hz, x0, q0, n0, x1, q1, n1, s2, s3, s4, V⟩ K hK
     · have s1 := q1 (by
        cases hL : L 3 with
        | false => rfl
        | true => exact absurd rfl (hn 3 _ rfl hL ⟨0, .phase⟩ (by simp) rfl))
       refine zlc s1 Try.underlying26 Try.size26 ?_
       exact hK _ _ _ rfl ⟨hB, hz, x0, q0, n0, x1, q1, n1, s2, s3, s4, V.step 0 rfl⟩
     · refine zlc s3 Try.underlying26 Try.size26 ?_
       exact hK _ _ _ rfl ⟨hB, hz, x0, q0, n0, x1, q1, n1, s2, s3, s4, V.step 1 rfl⟩
     · have e0 := V.at (zdq hd 0 rfl) rfl
       obtain ⟨gz, hk⟩ := x0
       refine zsb 26 _ _ rfl _ 64 (B) rfl e0 26 gz hk Try.size26 ?_
       exact hK _ undef _ rfl ⟨zr hB (by omega) _, (by simpa [World.setRow] using hz), ⟨_, hk.row _⟩, (fun h => absurd h (by simp [setL])), (fun _ => hk.row _), (let ⟨g, h⟩ := x1; ⟨g, (h).rowOther (by omega)⟩), (fun h => (q1 h).rowOther (by omega)), (fun h => (n1 h).rowOther (by omega)), (s2).rowOther (by omega), (s3).rowOther (by omega), (s4).rowOther (by omega), V.skip 2 rfl⟩
     · have e1 := V.at (zdq hd 1 rfl) rfl
       obtain ⟨gz, hk⟩ := x1
       refine zsb 26 _ _ rfl _ 64 (R) rfl e1 26 gz hk Try.size26 ?_
       exact hK _ undef _ rfl ⟨zr hB (by omega) _, (by simpa [World.setRow] using hz), (let ⟨g, h⟩ := x0; ⟨g, (h).rowOther (by omega)⟩), (fun h => (q0 h).rowOther (by omega)), (fun h => (n0 h).rowOther (by omega)), ⟨_, hk.row _⟩, (fun h => absurd h (by simp [setL])), (fun _ => hk.row _), (s2).rowOther (by omega), (s3).rowOther (by omega), (s4).rowOther (by omega), V.skip 3 rfl⟩
   · intro L v W3 hL ⟨hB, hz, x0, q0, n0, x1, q1, n1, s2, s3, s4, V⟩
     have r0 := n0 (hL 2 (by decide))
     have r1 := n1 (hL 3 (by decide))
     have e0 := V.at (hL 0 (by decide)) rfl
     have e1 := V.at (hL 1 (by decide)) rfl
     clear hL x0 q0 n0 x1 q1 n1 V
     simp only [Exit.then, e0, e1]
     clear e0 e1
     replace e0 := r0
     clear r0
     replace e1 := r1
     clear r1
     replace e2 := s2
     clear s2
     replace e3 := s3
     clear s3
     replace hSp := s4
     clear s4
     replace fhb := hB
     clear hB
     clear hbase hz lt_e0 lt_e1 lt_e2 lt_e3 lt_hSp
     go_wp2_with fail
     go_step3
     refine ⟨⟨B, R, Qq, R, vp, Lq ++ [Qq], _, _, _, _, _, _, _, _, _, _, _, _, _, _, _, _, _, rfl, fhb, e0, e1, e2, e3, hSp, by rw [List.length_append, List.length_singleton]; omega, by rw [hln, List.length_append]; rfl, .inl ⟨rfl, HZ0.out, HLB.out, HLR.out, by rw [← HCO.out]⟩⟩, ?_⟩
     simp [cfM, hln] <;> omega
set_option maxRecDepth 100000 in
set_option maxHeartbeats 3200000 in
theorem cf_done (p : Nat) (a b : Nat → Nat) (w : World) (N2 N3 base : Nat) (A B fq fr : Nat → Nat) (lst : Value) (Lq : List (Nat → Nat)) (u10 u11 u12 u13 u14 u15 u16 u17 u18 u19 u20 u21 u22 u23 u24 u25 u26 : Value) (wr : World) (Q : Exit → Act → World → Prop) (J : Nat → Act → World → Prop) (hb : Below w.heap.size w wr) (B0 : Blk wr w.heap.size 64 26 A) (B1 : Blk wr (w.heap.size + 1) 64 26 B) (B2 : Blk wr N2 64 26 fq) (B3 : Blk wr N3 64 26 fr) (hS : SlL wr base 26 64 lst (plR Lq)) (kb0 : w.heap.size ≤ base) (hT : Lq = cfL p a b)
 (hQ : Q = bodyPost Try.prog Try.f73 (PlV (cfL p a b) w)) :
 (behind Try.f73 1).wp Try.prog (Exit.jumps J Q) { tmps := #[.int .i64 (p : Int), .agg (zb 64 a), .agg (zb 64 b), undef, .pointer (some ⟨w.heap.size, 0, none⟩), .pointer (some ⟨w.heap.size + 1, 0, none⟩), .slice none 0 0, lst, .pointer (some ⟨N2, 0, none⟩), .pointer (some ⟨N3, 0, none⟩), u10, u11, u12, u13, u14, u15, u16, u17, u18, u19, u20, u21, u22, u23, u24, u25, u26], defers := [] } wr := by
 have HQ := Lib.hid hQ
 have HT := Lib.hid hT
 clear hQ hT
 simp only [tailOf, behind, Try.f73, Option.bind_some, scopeIn, Option.getD_some, findLabel, Nat.reduceBEq, if_true, if_false, Bool.false_eq_true, beq_self_eq_true]
 go_wp2_with fail
 show Q .ret _ _
 rw [HQ.out]
 go_ret
 exact ⟨lst, rfl, by rw [← HT.out]; exact hS.base kb0, hb⟩
set_option maxRecDepth 100000 in
set_option maxHeartbeats 3200000 in
theorem continuedFraction_any (p : Nat) (a b : Nat → Nat) (w : World) (hpr : p = 2 ∨ p = 3 ∨ p = 5 ∨ p = 7) (la : ∀ k, k < 64 → a k < p) (lb : ∀ k, k < 64 → b k < p) (h0 : 0 ≤ deg b) :
 Calls Try.prog 73 #[.int .i64 (p : Int), .agg (zb 64 a), .agg (zb 64 b)] w (PlV (cfL p a b) w) := by
 have HCL := Lib.hid (cfL_len p a b)
 go_enter Try.func73, Try.ntmps73
 go_wp2
 refine wp_scope_labels (fun l a' w' => cfJ p a b w (w.heap.size + 1 + 1) (w.heap.size + 1 + 1 + 1) (w.heap.size + 1 + 1 + 1 + 1) l a' w') (fun l a' _ => cfM l a') ?_ ?_
 · go_wp2_with fail
   rw [← z64]
   obtain ⟨wo, hwo⟩ : ∃ wo : World, wo = ((((w.alloc (.cells (zb 64 a) 26)).alloc (.cells (zb 64 b) 26)).alloc (.cells (zb 64 (fun _ => 0)) 26)).alloc (.cells (zb 64 (fun _ => 0)) 26)) := ⟨_, rfl⟩
   have b0 : Blk wo (w.heap.size) 64 26 a := by subst hwo; have := ((((Blk.new w 64 26 a).alloc (.cells (zb 64 b) 26)).alloc (.cells (zb 64 (fun _ => 0)) 26)).alloc (.cells (zb 64 (fun _ => 0)) 26)); simpa using this
   have b1 : Blk wo (w.heap.size + 1) 64 26 b := by subst hwo; have := (((Blk.new (w.alloc (.cells (zb 64 a) 26)) 64 26 b).alloc (.cells (zb 64 (fun _ => 0)) 26)).alloc (.cells (zb 64 (fun _ => 0)) 26)); simpa using this
   have b2 : Blk wo (w.heap.size + 1 + 1) 64 26 (fun _ => 0) := by subst hwo; have := ((Blk.new ((w.alloc (.cells (zb 64 a) 26)).alloc (.cells (zb 64 b) 26)) 64 26 (fun _ => 0)).alloc (.cells (zb 64 (fun _ => 0)) 26)); simpa using this
   have b3 : Blk wo (w.heap.size + 1 + 1 + 1) 64 26 (fun _ => 0) := by subst hwo; have := (Blk.new (((w.alloc (.cells (zb 64 a) 26)).alloc (.cells (zb 64 b) 26)).alloc (.cells (zb 64 (fun _ => 0)) 26)) 64 26 (fun _ => 0)); simpa using this
   have hb : Below w.heap.size w wo := by subst hwo; exact (((((Below.refl _ _).alloc (Nat.le_refl _) _).alloc (by simp) _).alloc (by simp; omega) _).alloc (by simp; omega) _)
   have hS : SlL wo (w.heap.size + 1 + 1 + 1 + 1) 26 64 (.slice none 0 0) (plR []) := by subst hwo; rw [plR_nil]; exact SlL.nil _ _ (by simp)
   rw [← hwo]
   clear hwo
   go_step3
   simp only [Exit.then]
   apply_assumption
   exact wp_mono (cf_turn p a b w (w.heap.size + 1 + 1) (w.heap.size + 1 + 1 + 1) (w.heap.size + 1 + 1 + 1 + 1) a b (fun _ => 0) (fun _ => 0) (.slice none 0 0) [] _ _ _ _ _ _ _ _ _ _ _ _ _ _ _ _ _ wo _ hb b0 b1 b2 b3 hS hpr (by omega) (by omega) (by omega) (by decide) h0 la lb rfl) jumps_less
 · intro l a' w' hJ
   obtain ⟨A, B, fq, fr, lst, Lq, u10, u11, u12, u13, u14, u15, u16, u17, u18, u19, u20, u21, u22, u23, u24, u25, u26, rfl, hb, b0, b1, b2, b3, hS, hl65, hln, hl⟩ := hJ
   rcases hl with ⟨rfl, hB0, lA, lB, ht⟩ | ⟨rfl, hT⟩
   · refine ⟨behind Try.f73 0, rfl, ?_⟩
     have hl64 : Lq.length ≤ 64 := by
      have h1 := congrArg List.length ht
      rw [List.length_append, cfL_cons hpr lA lB hB0, List.length_cons] at h1
      have := HCL.out
      omega
     rw [show cfM 0 (Act.mk _ _) = 100 - Lq.length by simp [cfM, hln]]
     exact behind_tail rfl (cf_turn p a b w (w.heap.size + 1 + 1) (w.heap.size + 1 + 1 + 1) (w.heap.size + 1 + 1 + 1 + 1) A B fq fr lst Lq u10 u11 u12 u13 u14 u15 u16 u17 u18 u19 u20 u21 u22 u23 u24 u25 u26 w' _ hb b0 b1 b2 b3 hS hpr (by omega) (by omega) (by omega) hl64 hB0 lA lB ht)
   · refine ⟨behind Try.f73 1, rfl, ?_⟩
     exact cf_done p a b w (w.heap.size + 1 + 1) (w.heap.size + 1 + 1 + 1) (w.heap.size + 1 + 1 + 1 + 1) A B fq fr lst Lq u10 u11 u12 u13 u14 u15 u16 u17 u18 u19 u20 u21 u22 u23 u24 u25 u26 w' _ _ hb b0 b1 b2 b3 hS (by omega) hT rfl
end Go.Proofs.Ytgcajgmokcmcgaa
end
section
namespace Go.Proofs.Ytgcajgmokcmcgaa
open Go Go.RowKit
set_option linter.unusedVariables false
/-- a list whose block lies before top -/
def SlU (w : World) (base top : Nat) (e : TypeId) (size : Nat) (v : Value) (cs : List (List Value)) : Prop := SlT w base top e size v cs ∧ top ≤ w.heap.size
theorem SlL.toU {w : World} {base : Nat} {e : TypeId} {size : Nat} {v : Value} {cs : List (List Value)} (h : SlL w base e size v cs) : SlU w base w.heap.size e size v cs := ⟨h.top, Nat.le_refl _⟩
theorem SlU.lt {w : World} {base top : Nat} {e : TypeId} {size : Nat} {v : Value} {cs : List (List Value)} (h : SlU w base top e size v cs) : top ≤ w.heap.size := h.2
theorem SlU.alloc {w : World} {base top : Nat} {e : TypeId} {size : Nat} {v : Value} {cs : List (List Value)} (h : SlU w base top e size v cs) (o : Obj) : SlU (w.alloc o) base top e size v cs := ⟨h.1.alloc o, by have := h.2; simp; omega⟩
theorem SlU.drew {w : World} {base top : Nat} {e : TypeId} {size : Nat} {v : Value} {cs : List (List Value)} (h : SlU w base top e size v cs) : SlU w.drew base top e size v cs := ⟨h.1.drew, h.2⟩
theorem SlU.below {w w' : World} {base top : Nat} {e : TypeId} {size : Nat} {v : Value} {cs : List (List Value)} (h : SlU w base top e size v cs) (hb : Below w.heap.size w w') (_ : top ≤ w.heap.size) : SlU w' base top e size v cs := ⟨h.1.below hb h.1.lt, Nat.le_trans h.2 hb.size⟩
theorem SlU.zw {w w' : World} {base top : Nat} {e : TypeId} {size : Nat} {v : Value} {cs : List (List Value)} (h : SlU w base top e size v cs) (hb : Below w.heap.size w w') : SlU w' base top e size v cs := SlU.below h hb (SlU.lt h)
theorem SlU.rowOther {w : World} {base top : Nat} {e : TypeId} {size : Nat} {v : Value} {cs : List (List Value)} (h : SlU w base top e size v cs) {k : Nat} {xs : Array Value} (hk : top ≤ k) : SlU (w.setRow k xs) base top e size v cs := ⟨h.1.rowOther (.inr hk), by have := h.2; simpa [World.setRow] using this⟩
theorem SlU.setOther {w : World} {base top : Nat} {e : TypeId} {size : Nat} {v x : Value} {cs : List (List Value)} (h : SlU w base top e size v cs) {a : Addr} (ha : top ≤ a.block) : SlU (w.setCell a x) base top e size v cs := ⟨h.1.setOther (.inr ha), by have := h.2; simpa using this⟩

end Go.Proofs.Ytgcajgmokcmcgaa
end
section
namespace Go.Proofs.Ytgcajgmokcmcgaa
open Go Go.RowKit
set_option linter.unusedVariables false
set_option linter.unusedSimpArgs false
/-- both answers of ContinuedFraction -/
def cfV (p : Int) (a b : Nat → Nat) : List (Nat → Nat) × Int := if qcC p a b true = 0 then (cfL p.toNat a b, 0) else ([], qcC p a b true)
theorem cfV_c {p : Int} {a b : Nat → Nat} {c : Int} (h : qcC p a b true = c) (h0 : c ≠ 0) : cfV p a b = ([], c) := by unfold cfV; rw [h, if_neg h0]
theorem cfV_0 {p : Nat} {a b : Nat → Nat} (h : qcC (p : Int) a b true = 0) : cfV (p : Int) a b = (cfL p a b, 0) := by unfold cfV; rw [if_pos h, Int.toNat_natCast]
theorem cfV_len (p : Int) (a b : Nat → Nat) : (cfV p a b).1.length ≤ 1000 := by
 unfold cfV
 by_cases h : qcC p a b true = 0
 · rw [if_pos h]; exact Nat.le_trans (cfL_len _ _ _) (by omega)
 · rw [if_neg h]; exact Nat.zero_le _
/-- how a continued fraction stands -/
def cfR (p : Nat) (w : World) (base : Nat) (T : List (Nat → Nat)) (s : Value) (wr : World) : Prop := ∃ (A B : Nat → Nat) (Lq : List (Nat → Nat)), Below w.heap.size w wr ∧ Blk wr w.heap.size 64 26 A ∧ Blk wr (w.heap.size + 1) 64 26 B ∧ SlL wr base 26 64 s (plR Lq) ∧ (∀ k, k < 64 → A k < p) ∧ (∀ k, k < 64 → B k < p) ∧ Lq ++ cfL p A B = T
/-- a list of polynomials and a code are handed back -/
def PlF (L : List (Nat → Nat)) (c : Int) (w : World) (e : Ending) (w' : World) : Prop := ∃ v, e = .returned (.tuple #[v, .int .i64 c]) ∧ SlL w' w.heap.size 26 64 v (plR L) ∧ Below w.heap.size w w'
attribute [local irreducible] deg quoP resP cfL cfV qcC
set_option maxRecDepth 100000 in
set_option maxHeartbeats 3200000 in
theorem l10Continued_any (p : Nat) (a b : Nat → Nat) (w : World) (hpr : p = 2 ∨ p = 3 ∨ p = 5 ∨ p = 7) (la : ∀ k, k < 64 → a k < p) (lb : ∀ k, k < 64 → b k < p) :
 Calls Try.prog 72 #[.int .i64 (p : Int), .agg (zb 64 a), .agg (zb 64 b)] w (PlV (cfL p a b) w) := by
 go_enter Try.func72, Try.ntmps72
 go_upto_region 1 with (fail)
 obtain ⟨W1, hwo⟩ : ∃ v : World, v = ((w.alloc (.cells (zb 64 (a)) 26)).alloc (.cells (zb 64 (b)) 26)) := ⟨_, rfl⟩
 have B0 : Blk W1 (w.heap.size) 64 26 (a) := by subst hwo; have := ((Blk.new w 64 26 (a)).alloc (.cells (zb 64 (b)) 26)); simpa using this
 have B1 : Blk W1 (w.heap.size + 1) 64 26 (b) := by subst hwo; have := (Blk.new (w.alloc (.cells (zb 64 (a)) 26)) 64 26 (b)); simpa using this
 have hb : Below w.heap.size w W1 := by subst hwo; exact (((Below.refl _ _).alloc (Nat.le_refl _) _).alloc (by simp) _)
 rw [← hwo]
 clear hwo
 obtain ⟨base, hbase0⟩ : ∃ b, b = W1.heap.size := ⟨_, rfl⟩
 have ybw : w.heap.size ≤ base := by rw [hbase0]; exact hb.size
 have yb0 : w.heap.size < base := by rw [hbase0]; exact B0.lt
 have yb1 : w.heap.size + 1 < base := by rw [hbase0]; exact B1.lt
 have hS0 : SlL (W1.alloc (.cells #[] 26)) base 26 64 (.slice (some ⟨W1.heap.size, 0, none⟩) 0 0) (plR []) := by rw [plR_nil]; exact slL_empty W1 26 64 (Nat.le_of_eq hbase0)
 have hb1 : Below w.heap.size w (W1.alloc (.cells #[] 26)) := hb.alloc hb.size _
 have q0 := B0.alloc (.cells #[] 26)
 have q1 := B1.alloc (.cells #[] 26)
 have HCL := Lib.hid (cfL_len p a b)
 clear hbase0 hb B0 B1
 obtain ⟨T, hT⟩ : ∃ T, T = cfL p a b := ⟨_, rfl⟩
 rw [← hT] at HCL
 have hTT : [] ++ cfL p a b = T := hT.symm
 have HTq := Lib.hid hT
 clear hT
 go_wp2_with fail
 go_loopw [7] (fun s wr => ∃ lst : Value, lst = s ∧ cfR p w base T lst wr) (fun s _ => 70 - lenOf s)
 case atStart => exact ⟨_, rfl, a, b, [], hb1, q0, q1, hS0, la, lb, hTT⟩
 case round =>
  clear hb1 q0 q1 hS0 la lb hTT
  obtain ⟨lst, rfl, A, B, Lq, hb, B0, B1, hS, lA, lB, hTT⟩ := hrel
  have hgd := Try.noGuard26
  by_cases hz : deg B < 0
  · have HTE := Lib.hid (show Lq = T by rw [← hTT, cfL_none hz, List.append_nil])
    have heq := fun W => zeb (P := Try.prog) W 9998 26 5 64 B (fun _ => 0) Try.underlying26 Try.underlying5 Try.size5
    rw [eqN_zero, show decide (deg B < 0) = true by simp; omega] at heq
    simp only [z64] at heq
    clear hz hTT lA lB
    go_wp2_with (first | (refine zla (.tmp 5) B1 Try.underlying26 Try.size26 ?_))
    go_ret
    exact ⟨lst, rfl, by rw [← HTq.out, ← HTE.out]; exact hS.base ybw, hb⟩
  · have hz0 : 0 ≤ deg B := by omega
    have HQR := Lib.hid (fun W => l01Divide_any p A B W hpr lA lB hz0)
    have HLR := Lib.hid (show ∀ k, k < 64 → resP p A B k < p from fun k hk => resP_lt (by omega) lA k hk)
    have HCO := Lib.hid (show Lq ++ [quoP p A B] ++ cfL p B (resP p A B) = T by rw [← hTT, cfL_cons hpr lA lB hz0, List.append_assoc]; rfl)
    have HLB := Lib.hid lB
    have hLl : Lq.length ≤ 64 := by
     have h1 := congrArg List.length hTT
     rw [List.length_append, cfL_cons hpr lA lB hz0, List.length_cons] at h1
     have := HCL.out
     omega
    have hln : lenOf lst = Lq.length := slL_lenOf hS
    obtain ⟨Qq, hQq⟩ : ∃ q, q = quoP p A B := ⟨_, rfl⟩
    obtain ⟨R, hR⟩ : ∃ r, r = resP p A B := ⟨_, rfl⟩
    rw [← hQq, ← hR] at HQR
    rw [← hQq, ← hR] at HCO
    rw [← hR] at HLR
    have T9 := hS.toU
    clear hS
    have heq := fun W => zeb (P := Try.prog) W 9998 26 5 64 B (fun _ => 0) Try.underlying26 Try.underlying5 Try.size5
    rw [eqN_zero, show decide (deg B < 0) = false by simp; omega] at heq
    simp only [z64] at heq
    clear hz hz0 hTT lA lB hQq hR
    go_upto_region 3 with (first | (refine zla (.tmp 5) B1 Try.underlying26 Try.size26 ?_))
    clear heq hgd
    have lt_B0 := B0.lt
    have lt_B1 := B1.lt
    have lt_T9 := T9.lt
    go_upto_region 4 with (first | rw [← z64] | (refine zla (.tmp 4) B0 Try.underlying26 Try.size26 ?_) | (refine zla (.tmp 5) B1 Try.underlying26 Try.size26 ?_) | (go_at_call 68; refine (HQR.out _).mono ?_; rintro e W2 ⟨rfl, hW2⟩; replace B0 := B0.zw hW2; replace B1 := B1.zw hW2; replace T9 := T9.zw hW2; replace hb := (hb).trans (hW2.mono (hb).size)) | (refine wpList_store_blk rfl 26 (.tmp 8) (.tmp 19) rfl _ 64 (Qq) rfl rfl 26 _ (((Blk.new W2 64 26 (fun _ => 0)).alloc (.cells (zb 64 (fun _ => 0)) 26))) Try.size26 ?_; try simp only [Act.put]) | (refine wpList_store_blk rfl 26 (.tmp 9) (.tmp 20) rfl _ 64 (R) rfl rfl 26 _ (((show Blk ((W2.alloc (.cells (zb 64 (fun _ => 0)) 26)).alloc (.cells (zb 64 (fun _ => 0)) 26)) (W2.heap.size + 1) 64 26 (fun _ => 0) by have := Blk.new (W2.alloc (.cells (zb 64 (fun _ => 0)) 26)) 64 26 (fun _ => 0); simpa using this).rowOther (by omega))) Try.size26 ?_; try simp only [Act.put]))
    have lt_B0 := B0.lt
    have lt_B1 := B1.lt
    have lt_T9 := T9.lt
    have lhb := hb.size
    obtain ⟨W3, hwo, hzQ⟩ : ∃ v : World, v = ((((W2.alloc (.cells (zb 64 (fun _ => 0)) 26)).alloc (.cells (zb 64 (fun _ => 0)) 26)).setRow (W2.heap.size) (zb 64 (Qq))).setRow (W2.heap.size + 1) (zb 64 (R))) ∧ Blk v (w.heap.size) 64 26 (A) ∧ Blk v (w.heap.size + 1) 64 26 (B) ∧ SlU v base wr.heap.size 26 64 lst (plR Lq) ∧ Blk v (W2.heap.size) 64 26 (Qq) ∧ Blk v (W2.heap.size + 1) 64 26 (R) ∧ Below w.heap.size w v := ⟨_, rfl, ((((B0.alloc (.cells (zb 64 (fun _ => 0)) 26)).alloc (.cells (zb 64 (fun _ => 0)) 26)).rowOther (by omega)).rowOther (by omega)), ((((B1.alloc (.cells (zb 64 (fun _ => 0)) 26)).alloc (.cells (zb 64 (fun _ => 0)) 26)).rowOther (by omega)).rowOther (by omega)), ((((T9.alloc (.cells (zb 64 (fun _ => 0)) 26)).alloc (.cells (zb 64 (fun _ => 0)) 26)).rowOther (by omega)).rowOther (by omega)), ((((Blk.new W2 64 26 (fun _ => 0)).alloc (.cells (zb 64 (fun _ => 0)) 26)).row (Qq)).rowOther (by omega)), (((show Blk ((W2.alloc (.cells (zb 64 (fun _ => 0)) 26)).alloc (.cells (zb 64 (fun _ => 0)) 26)) (W2.heap.size + 1) 64 26 (fun _ => 0) by have := Blk.new (W2.alloc (.cells (zb 64 (fun _ => 0)) 26)) 64 26 (fun _ => 0); simpa using this).rowOther (by omega)).row (R)), (zr (zr ((hb.alloc (by have := hb.size; simp; omega) (.cells (zb 64 (fun _ => 0)) 26)).alloc (by have := hb.size; simp; omega) (.cells (zb 64 (fun _ => 0)) 26)) (by omega) _) (by omega) _)⟩
    rw [← hwo]
    clear hwo B0 B1 T9 hb
    obtain ⟨B0, B1, T9, B3, B4, hb⟩ := hzQ
    obtain ⟨N1, hNN⟩ : ∃ n : Nat, n = W2.heap.size := ⟨_, rfl⟩
    rw [← hNN] at lt_B0 lt_B1 lt_T9 lhb B3 B4 ⊢
    clear hNN
    have zN1_0 := lt_B0
    have zN1_1 := lt_B1
    have zN1_2 := lt_T9
    have zN1 := lhb
    clear lt_B0 lt_B1 lt_T9 lhb
    try simp only [Act.put, pA, pB, pC]
    have hS3 := T9.1.1
    go_upto_region 5 with (first | (refine zla (.tmp 8) B3 Try.underlying26 Try.size26 ?_) | (refine wpList_build1 rfl 31 _ (bl 64 Qq) 64 rfl 26 Try.underlying31 Try.elem26 (by decide) (by decide) (zl _ _) rfl ?_; intro wa hps hba; have e0 := B0.zw hba; have e1 := B1.zw hba; have e3 := B4.zw hba; have eS := hS3.zw hba; have eT := T9.zw hba; have ehb := hb.trans (hba.mono hb.size)) | (at_builtin; refine wpList_append_sl _ rfl _ _ 31 rfl base 26 (.agg (zb 64 fun _ => 0)) 64 64 Try.underlying31 Try.infoPoly (by simp [Value.cells, bl]) (by decide) lst _ rfl eS W3.heap.size (bl 64 Qq) rfl (zl _ _) hps.range bl_one (by rw [plR_len]; unfold maxLen; omega) (by rw [plR_len]; omega) ?_; intro vp wp hSp hg1; have fhb := ehb.grown hg1 ehb.size (fun k e => Nat.le_trans (by omega) (eS.own k e)); replace e0 := e0.grownO hg1 (eS.own) (base := base) (by omega); replace e1 := e1.grownO hg1 (eS.own) (base := base) (by omega); replace e3 := e3.grownT hg1 eT.1.2 (by omega)))
    rw [← plR_snoc] at hSp
    have hln2 : lenOf vp = Lq.length + 1 := by rw [slL_lenOf hSp, List.length_append]; rfl
    have f0 := e0.row B
    have f1 := e1.rowOther (k := w.heap.size) (cs := zb 64 B) (by omega)
    have f3 := e3.rowOther (k := w.heap.size) (cs := zb 64 B) (by omega)
    have fS := hSp.rowOther (k := w.heap.size) (xs := zb 64 B) (by omega)
    have ffb := zr fhb (Nat.le_refl _) (zb 64 B)
    have g0 := f0.rowOther (k := w.heap.size + 1) (cs := zb 64 R) (by omega)
    have g1 := f1.row R
    have gS := fS.rowOther (k := w.heap.size + 1) (xs := zb 64 R) (by omega)
    have ggb := zr ffb (show w.heap.size ≤ w.heap.size + 1 by omega) (zb 64 R)
    go_upto_region 6 with (first | (refine zla (.tmp 5) e1 Try.underlying26 Try.size26 ?_) | (refine wpList_store_blk rfl 26 (.tmp 4) _ rfl _ 64 B rfl rfl 26 _ e0 Try.size26 ?_; try simp only [Act.put]; go_upto_region 6 with (fail)))
    go_wp2_with (first | (refine zla (.tmp 9) f3 Try.underlying26 Try.size26 ?_) | (refine wpList_store_blk rfl 26 (.tmp 5) _ rfl _ 64 R rfl rfl 26 _ f1 Try.size26 ?_; try simp only [Act.put]; go_wp2_with fail))
    try simp only [Act.put, pA, pB, pC]
    go_roundw
    case rel => exact ⟨vp, rfl, B, R, Lq ++ [Qq], ggb, g0, g1, gS, HLB.out, HLR.out, HCO.out⟩
    case measure => simp [hln, hln2] <;> omega
set_option maxRecDepth 100000 in
set_option maxHeartbeats 3200000 in
theorem impl_ContinuedFraction_any (p : Int) (a b : Nat → Nat) (ha : byte a) (hbb : byte b) (w : World) :
 Calls Try.prog 25 #[.int .i64 p, .agg (zb 64 a), .agg (zb 64 b)] w (PlF (cfV p a b).1 (cfV p a b).2 w) := by
 go_enter Try.func25, Try.ntmps25
 go_upto_region 1 with (fail)
 obtain ⟨W1, hwo⟩ : ∃ v : World, v = ((w.alloc (.cells (zb 64 (a)) 26)).alloc (.cells (zb 64 (b)) 26)) := ⟨_, rfl⟩
 have B0 : Blk W1 (w.heap.size) 64 26 (a) := by subst hwo; have := ((Blk.new w 64 26 (a)).alloc (.cells (zb 64 (b)) 26)); simpa using this
 have B1 : Blk W1 (w.heap.size + 1) 64 26 (b) := by subst hwo; have := (Blk.new (w.alloc (.cells (zb 64 (a)) 26)) 64 26 (b)); simpa using this
 have hb : Below w.heap.size w W1 := by subst hwo; exact (((Below.refl _ _).alloc (Nat.le_refl _) _).alloc (by simp) _)
 rw [← hwo]
 clear hwo
 rcases qcC_split p a b true with ⟨c, hc, hc0⟩ | ⟨hc, _, m, rfl, hpr, la, lb, hd⟩
 · have HV := Lib.hid (cfV_c hc hc0)
   have HC := Lib.hid (show ∀ W, Calls Try.prog _ _ W _ from fun W => hc ▸ checkQuotient_any p a b true ha hbb W)
   have hcb : (c != 0) = true := by simp [hc0]
   clear hc hc0
   go_upto_region 3 with (first | (refine zla (.tmp 4) B0 Try.underlying26 Try.size26 ?_) | (refine zla (.tmp 5) B1 Try.underlying26 Try.size26 ?_) | (go_at_call 70; refine (HC.out _).mono ?_; rintro e W2 ⟨rfl, hW2⟩; replace B0 := B0.zw hW2; replace B1 := B1.zw hW2; replace hb := (hb).trans (hW2.mono (hb).size)))
   go_wp2_with fail
   go_ret2
   exact ⟨_, by rw [HV.out]; rfl, by rw [HV.out, plR_nil]; exact SlL.nil _ _ hb.size, hb⟩
 · have HV := Lib.hid (cfV_0 hc)
   have HC := Lib.hid (show ∀ W, Calls Try.prog _ _ W _ from fun W => hc ▸ checkQuotient_any (m : Int) a b true ha hbb W)
   have HCF := Lib.hid (fun W => continuedFraction_any m a b W hpr la lb hd)
   clear hc la lb hd hpr
   go_upto_region 4 with (first | (refine zla (.tmp 4) B0 Try.underlying26 Try.size26 ?_) | (refine zla (.tmp 5) B1 Try.underlying26 Try.size26 ?_) | (go_at_call 70; refine (HC.out _).mono ?_; rintro e W2 ⟨rfl, hW2⟩; replace B0 := B0.zw hW2; replace B1 := B1.zw hW2; replace hb := (hb).trans (hW2.mono (hb).size)))
   go_wp2_with (first | (refine zla (.tmp 4) B0 Try.underlying26 Try.size26 ?_) | (refine zla (.tmp 5) B1 Try.underlying26 Try.size26 ?_))
   refine (HCF.out _).mono ?_
   rintro e W9 ⟨v9, rfl, hS, h9⟩
   have hWs := hb.size
   replace hb := hb.trans (h9.mono hb.size)
   go_wp2_with fail
   go_ret2
   exact ⟨v9, by rw [HV.out]; rfl, by rw [HV.out]; exact hS.base hWs, hb⟩
end Go.Proofs.Ytgcajgmokcmcgaa
end
section
namespace Go.Proofs.Ytgcajgmokcmcgaa
open Go Go.RowKit
set_option linter.unusedVariables false
set_option linter.unusedSimpArgs false
theorem Try.infoInt : (Try.prog.info? 2).map (fun i => (i.zero, i.size, i.bytes)) = some (some (.int .i64 0), 1, 8) := by kernel_rfl
theorem Try.elemInt : (Try.prog.info? 2).map (fun i => (i.size, i.zero.isSome)) = some (1, true) := by kernel_rfl
theorem wpList_buildI {P : Program} {ops : Array Oper} {rest : List Oper} {o : Oper} {a : Act} {w : World} {Q : Exit → Act → World → Prop} (hg : o.guard = none) (t : TypeId) (parts : Array (Nat × Operand)) (x : Int)
 (ho : o.op = .buildSlice t 1 parts) (e : TypeId) (hu : P.underlying t = some (.slice e)) (hie : (P.info? e).map (fun i => (i.size, i.zero.isSome)) = some (1, true))
 (hp : (parts.toList.map fun x => (x.1, a.eval x.2)) = [(0, Value.int .i64 x)])
 (h : ∀ w', Row w' w.heap.size e #[.int .i64 x] → Below w.heap.size w w' → wpList P ops Q rest (a.put o.dst (.slice (some ⟨w.heap.size, 0, none⟩) 1 1)) w') : wpList P ops Q (o :: rest) a w := by
 cases hi : P.info? e with
 | none => simp [hi] at hie
 | some ie =>
  simp only [hi, Option.map_some, Option.some.injEq, Prod.mk.injEq] at hie
  obtain ⟨hs, hz⟩ := hie
  obtain ⟨z, hzz⟩ := Option.isSome_iff_exists.1 hz
  refine wpList_buildSlice hg t e 1 parts ho _ ie z hu hi hzz (by rw [hs]; omega) (by rw [hs]; omega) ?_ (h _ (Row.new w e #[.int .i64 x]) (zal _ _))
  rw [Array.toList_map, hp, hs]
  obtain ⟨old, hold⟩ : ∃ old, old = (Array.range (1 * 1)).map (z.cells[· % z.cells.size]!) := ⟨_, rfl⟩
  have hsz : old.size = 1 := by rw [hold]; simp
  rw [← hold]
  obtain ⟨l⟩ := old
  match l, hsz with
  | [u], _ => simp [Instr.fill, Value.cells]
/-- the mark of a cell -/
def mkI (q : Nat) : Value := .int .i64 (1 + (q : Int))
/-- the first q cells of a slice are marked -/
def MkI (w : World) (base : Nat) (v : Value) (n q : Nat) : Prop := ∃ ys, w.ownsRow base 2 1 v n ys ∧ ∀ k, k < q → ys[k]? = some (mkI k)
theorem MkI.own {w : World} {base n q : Nat} {v : Value} (h : MkI w base v n q) : ∀ r, v.ownBlock = Option.some r → base ≤ r ∧ r < w.heap.size := by
 obtain ⟨ys, h1, _⟩ := h
 exact fun r hr => h1.lt r hr
theorem MkI.grown {w w' : World} {base n q : Nat} {v : Value} {row : Option Nat} (h : MkI w base v n q) (hg : w.grownBy w' row) (hr : v.ownBlock = none ∨ v.ownBlock ≠ row) : MkI w' base v n q := by
 obtain ⟨ys, h1, h2⟩ := h
 exact ⟨ys, h1.kept hg hr, h2⟩
theorem MkI.below {w w' : World} {base n q : Nat} {v : Value} (h : MkI w base v n q) (hb : Below w.heap.size w w') : MkI w' base v n q :=
 h.grown (row := none) ⟨hb.os, hb.tape, hb.output, hb.size, fun k hk _ => hb.block k hk⟩ (by
  cases hv : v.ownBlock with
  | none => exact .inl rfl
  | some k => exact .inr (by simp))
theorem MkI.step {w : World} {base n q g cap : Nat} (h : MkI w base (.slice (some ⟨g, 0, none⟩) n cap) n q) (hq : q < n * 1) :
 (∃ u, w.cell? ⟨g, q, none⟩ = Option.some u) ∧ w.frozen? ⟨g, q, none⟩ = false ∧ MkI (w.setCell ⟨g, q, none⟩ (mkI q)) base (.slice (some ⟨g, 0, none⟩) n cap) n (q + 1) ∧ w.grownBy (w.setCell ⟨g, q, none⟩ (mkI q)) (Option.some g) := by
 obtain ⟨ys, h1, h2⟩ := h
 have hl : q < ys.length := by rw [h1.1]; exact hq
 obtain ⟨s1, s2⟩ := h1.stored q (mkI q)
 refine ⟨⟨ys[q], by rw [h1.cellAt q hq]; exact List.getElem?_eq_getElem hl⟩, h1.frozenAt q, ⟨_, s1, fun k hk => ?_⟩, s2⟩
 rw [List.getElem?_set]
 by_cases e : q = k
 · subst e; rw [if_pos rfl, if_pos hl]
 · rw [if_neg e]; exact h2 k (by omega)
theorem MkI.cell {w : World} {base n q g cap k : Nat} (h : MkI w base (.slice (some ⟨g, 0, none⟩) n cap) n q) (hk : k < q) (hq : q ≤ n * 1) : w.cell? ⟨g, k, none⟩ = Option.some (mkI k) := by
 obtain ⟨ys, h1, h2⟩ := h
 rw [h1.cellAt k (by omega)]
 exact h2 k hk
theorem MkI.same {w : World} {base n q : Nat} {v : Value} (h : MkI w base v n q) (r : Nat) (e : r = q) : MkI w base v n r := e ▸ h
attribute [local irreducible] mkI MkI
end Go.Proofs.Ytgcajgmokcmcgaa
end
section
namespace Go.Proofs.Ytgcajgmokcmcgaa
open Go Go.RowKit
set_option linter.unusedVariables false
set_option linter.unusedSimpArgs false
/-- the rows of numbers -/
def ilZ (L : List Int) : List (List Value) := L.map fun x => [.int .i64 x]
theorem ilZ_snoc (L : List Int) (x : Int) : ilZ (L ++ [x]) = ilZ L ++ [[.int .i64 x]] := by simp [ilZ]
theorem ilZ_len (L : List Int) : (ilZ L).length = L.length := by simp [ilZ]
theorem ilZ_nil : ilZ [] = [] := rfl
theorem ilZ_flat : ∀ (L : List Int), (ilZ L).flatten = L.map fun x => Value.int .i64 x
 | [] => rfl
 | x :: L => by
  have := ilZ_flat L
  unfold ilZ at *
  rw [List.map_cons, List.flatten_cons, this]; rfl
/-- a list of numbers whose block lies between lo and hi -/
def Seg (w : World) (lo hi : Nat) (v : Value) (L : List Int) : Prop :=
 lo ≤ hi ∧ hi ≤ w.heap.size ∧ ∃ a cap, v = .slice a L.length cap ∧ (L = [] ∨ ∃ g o t cs, a = some ⟨g, o, none⟩ ∧ lo ≤ g ∧ g < hi ∧ Row w g t cs ∧ o + L.length ≤ cs.size ∧ ∀ i x, L[i]? = some x → cs[o + i]? = some (.int .i64 x))
theorem Seg.lt {w : World} {lo hi : Nat} {v : Value} {L : List Int} (h : Seg w lo hi v L) : hi ≤ w.heap.size := h.2.1
theorem Seg.form {w : World} {lo hi : Nat} {v : Value} {L : List Int} (h : Seg w lo hi v L) : ∃ a cap, v = .slice a L.length cap := by
 obtain ⟨_, _, a, cap, e, _⟩ := h
 exact ⟨a, cap, e⟩
theorem Seg.move {w w' : World} {lo hi : Nat} {v : Value} {L : List Int} (h : Seg w lo hi v L) (hs : w.heap.size ≤ w'.heap.size) (hb : ∀ k, lo ≤ k → k < hi → w'.heap[k]? = w.heap[k]?) : Seg w' lo hi v L := by
 obtain ⟨h1, h2, a, cap, e, h3⟩ := h
 refine ⟨h1, Nat.le_trans h2 hs, a, cap, e, ?_⟩
 rcases h3 with h3 | ⟨g, o, t, cs, e2, g1, g2, hr, hc⟩
 · exact .inl h3
 · exact .inr ⟨g, o, t, cs, e2, g1, g2, hr.of (hb g g1 g2), hc⟩
theorem Seg.below {w w' : World} {lo hi : Nat} {v : Value} {L : List Int} (h : Seg w lo hi v L) {B : Nat} (hb : Below B w w') (hB : hi ≤ B) : Seg w' lo hi v L :=
 h.move hb.size fun k _ h2 => hb.block k (by omega)
theorem Seg.zw {w w' : World} {lo hi : Nat} {v : Value} {L : List Int} (h : Seg w lo hi v L) (hb : Below w.heap.size w w') : Seg w' lo hi v L := Seg.below h hb (Seg.lt h)
theorem Seg.drew {w : World} {lo hi : Nat} {v : Value} {L : List Int} (h : Seg w lo hi v L) : Seg w.drew lo hi v L := h.move (Nat.le_refl _) fun _ _ _ => rfl
theorem Seg.nil (w : World) {lo hi : Nat} (a : Option Addr) (cap : Nat) (h1 : lo ≤ hi) (h : hi ≤ w.heap.size) : Seg w lo hi (.slice a 0 cap) [] := ⟨h1, h, a, cap, rfl, .inl rfl⟩
theorem SlL.seg {w : World} {base : Nat} {v : Value} {L : List Int} (h : SlL w base 2 1 v (ilZ L)) : Seg w base w.heap.size v L := by
 delta SlL at h
 obtain ⟨h1, h2, h3⟩ := h
 refine ⟨h1, Nat.le_refl _, ?_⟩
 rw [ilZ_len] at h3
 rcases h3.2 with ⟨e, h4⟩ | ⟨g, cap, cur, e, h4, h5, h6, h7, h8, h9⟩
 · have hn : L = [] := List.length_eq_zero_iff.1 h4
   subst hn
   exact ⟨none, 0, e, .inl rfl⟩
 · refine ⟨_, cap, e, .inr ⟨g, 0, 2, cur, rfl, h4, ?_, by delta Row; exact h5, by omega, fun i x hx => ?_⟩⟩
   · have : w.heap[g]? ≠ none := by rw [h5]; simp
     simpa using this
   · rw [ilZ_flat] at h9
     have h10 : (cur.toList.take (L.length * 1))[i]? = Option.some (Value.int .i64 x) := by rw [h9, List.getElem?_map, hx]; rfl
     have hi := (List.getElem?_eq_some_iff.1 hx).1
     rw [List.getElem?_take, if_pos (by omega)] at h10
     rw [Nat.zero_add]
     simpa using h10
/-- the first q cells are marked -/
def MkS (w : World) (lo hi : Nat) (v : Value) (n q : Nat) : Prop :=
 hi ≤ w.heap.size ∧ ∃ a cap, v = .slice a n cap ∧ (n = 0 ∨ ∃ g o t cs, a = some ⟨g, o, none⟩ ∧ lo ≤ g ∧ g < hi ∧ Row w g t cs ∧ o + n ≤ cs.size ∧ ∀ k, k < q → cs[o + k]? = some (mkI k))
theorem Seg.marks {w : World} {lo hi : Nat} {v : Value} {L : List Int} (h : Seg w lo hi v L) : MkS w lo hi v L.length 0 := by
 obtain ⟨h1, h2, a, cap, e, h3⟩ := h
 refine ⟨h2, a, cap, e, ?_⟩
 rcases h3 with h3 | ⟨g, o, t, cs, e2, g1, g2, hr, hc, _⟩
 · exact .inl (by rw [h3]; rfl)
 · exact .inr ⟨g, o, t, cs, e2, g1, g2, hr, hc, fun k hk => absurd hk (by omega)⟩
theorem MkS.below {w w' : World} {lo hi : Nat} {v : Value} {n q : Nat} (h : MkS w lo hi v n q) {B : Nat} (hb : Below B w w') (hB : hi ≤ B) : MkS w' lo hi v n q := by
 obtain ⟨h2, a, cap, e, h3⟩ := h
 refine ⟨Nat.le_trans h2 hb.size, a, cap, e, ?_⟩
 rcases h3 with h3 | ⟨g, o, t, cs, e2, g1, g2, hr, hc⟩
 · exact .inl h3
 · exact .inr ⟨g, o, t, cs, e2, g1, g2, hr.below hb (by omega), hc⟩
theorem MkS.lt {w : World} {lo hi : Nat} {v : Value} {n q : Nat} (h : MkS w lo hi v n q) : hi ≤ w.heap.size := h.1
theorem MkS.zw {w w' : World} {lo hi n q : Nat} {v : Value} (h : MkS w lo hi v n q) (hb : Below w.heap.size w w') : MkS w' lo hi v n q := MkS.below h hb (MkS.lt h)
/-- a list of numbers and a code are handed back -/
def SgF (L : List Int) (c : Int) (w : World) (e : Ending) (w' : World) : Prop := ∃ v lo hi, e = .returned (.tuple #[v, .int .i64 c]) ∧ w.heap.size ≤ lo ∧ Seg w' lo hi v L ∧ Below w.heap.size w w'
attribute [local irreducible] mkI
set_option maxRecDepth 100000 in
set_option maxHeartbeats 3200000 in
theorem eqInt64S_seg (L : List Int) (lo1 hi1 lo2 hi2 : Nat) (v1 v2 : Value) (w : World) (h1 : Seg w lo1 hi1 v1 L) (h2 : Seg w lo2 hi2 v2 L) (hL : L.length ≤ 1000) :
 Calls Try.prog 21 #[v1, v2] w fun e w' => e = .returned (.bool true) ∧ Below w.heap.size w w' := by
 obtain ⟨_, s1, a1, cap1, rfl, h1⟩ := h1
 obtain ⟨_, s2, a2, cap2, rfl, h2⟩ := h2
 go_enter Try.func21, Try.ntmps21
 go_wp2_with fail
 go_loopw [5] (fun i wr => ∃ j : Nat, i = .int .i64 (j : Int) ∧ j ≤ L.length ∧ Below w.heap.size w wr) (fun i _ => L.length - (intOf i).toNat)
 case atStart => exact ⟨0, rfl, Nat.zero_le _, Below.refl _ _⟩
 case round =>
  obtain ⟨j, rfl, hjR, hb⟩ := hrel
  by_cases hj : j < L.length
  · obtain ⟨x, hx⟩ : ∃ x, L[j]? = some x := ⟨_, List.getElem?_eq_getElem hj⟩
    rcases h1 with h1 | ⟨g1, o1, t1, cs1, rfl, l1, u1, r1, b1, c1⟩
    · subst h1; simp at hj
    rcases h2 with h2 | ⟨g2, o2, t2, cs2, rfl, l2, u2, r2, b2, c2⟩
    · subst h2; simp at hj
    have R1 := r1.below hb (by omega)
    have R2 := r2.below hb (by omega)
    have cc1 := R1.cell (c1 j x hx)
    have cc2 := R2.cell (c2 j x hx)
    have hjl : (j : Int) < (L.length : Int) := by omega
    have hne : ((x : Int) != (x : Int)) = false := by simp
    clear c1 c2
    go_upto_region 6 with (fail)
    go_quiet (fail)
    go_wp2_with fail
    go_roundw
    case rel => exact ⟨j + 1, by go_num, by omega, below_drewN' hb _⟩
    case measure => simp [intOf] <;> omega
  · have hjl : ¬ (j : Int) < (L.length : Int) := by omega
    go_wp2_with fail
    go_ret
    exact ⟨rfl, hb⟩
set_option maxRecDepth 100000 in
set_option maxHeartbeats 3200000 in
theorem markInt64S_seg (n lo hi : Nat) (v : Value) (w : World) (h : MkS w lo hi v n 0) (hlo : lo ≤ w.heap.size) (hn : n ≤ 1000) :
 Calls Try.prog 22 #[v, .int .i64 1] w fun e w' => e = .returned (.int .i64 ((1 + n : Nat) : Int)) ∧ MkS w' lo hi v n n ∧ Below lo w w' := by
 obtain ⟨s1, a, cap, rfl, h⟩ := h
 go_enter Try.func22, Try.ntmps22
 go_wp2_with fail
 go_loopw [1, 5] (fun x i wr => ∃ j X : Nat, x = .int .i64 (X : Int) ∧ X = 1 + j ∧ i = .int .i64 (j : Int) ∧ j ≤ n ∧ MkS wr lo hi (.slice a n cap) n j ∧ Below lo w wr) (fun _ i _ => n - (intOf i).toNat)
 case atStart => exact ⟨0, 1, rfl, rfl, rfl, Nat.zero_le _, ⟨s1, a, cap, rfl, h⟩, Below.refl _ _⟩
 case round =>
  clear h; obtain ⟨j, X, rfl, hX, rfl, hjn, hM, hG⟩ := hrel
  by_cases hj : j < n
  · have hjl : (j : Int) < (n : Int) := by omega
    obtain ⟨s2, a', cap', ee, hM⟩ := hM
    rcases hM with hM | ⟨g, o, t, cs, rfl, l1, u1, r1, b1, c1⟩
    · omega
    cases ee
    have hX2 : X ≤ 1001 := by omega
    have e1 : mkI j = .int .i64 (X : Int) := by unfold mkI; rw [show (1 + (j : Int)) = (X : Int) by omega]
    have HX := Lib.hid hX
    clear hX
    have hol : o + j < cs.size := by omega
    have cc := r1.cell (i := o + j) (v := cs[o + j]) (Array.getElem?_eq_getElem hol)
    have zz := r1.frozen (o + j)
    have HM2 := Lib.hid (show MkS (wr.setCell ⟨g, o + j, none⟩ (.int .i64 (X : Int))) lo hi (.slice (some ⟨g, o, none⟩) n cap) n (j + 1) from ⟨by simpa using s2, _, _, rfl, .inr ⟨g, o, t, _, rfl, l1, u1, r1.set, by simpa using b1, fun k hk => by
     by_cases e : k = j
     · subst e; rw [Array.getElem?_setIfInBounds, if_pos rfl, if_pos hol, e1]
     · rw [Array.getElem?_setIfInBounds, if_neg (by omega)]; exact c1 k (by omega)⟩⟩)
    have HG2 := Lib.hid (show Below lo w (wr.setCell ⟨g, o + j, none⟩ (.int .i64 (X : Int))) from hG.setCell (by show lo ≤ g; exact l1) _)
    clear c1 e1 hG b1
    go_wp2_with fail
    go_roundw
    case rel => exact ⟨j + 1, X + 1, by go_num, by have := HX.out; omega, by go_num, by omega, HM2.out, HG2.out⟩
    case measure => simp [intOf] <;> omega
  · have hjl : ¬ (j : Int) < (n : Int) := by omega
    have e : j = n := by omega
    subst e
    go_wp2_with fail
    go_ret
    exact ⟨ret_int (by push_cast; rfl), hM, hG⟩
set_option maxRecDepth 100000 in
set_option maxHeartbeats 3200000 in
theorem heldInt64S_seg (n lo hi : Nat) (v : Value) (w : World) (h : MkS w lo hi v n n) (hn : n ≤ 1000) :
 Calls Try.prog 23 #[v, .int .i64 1] w fun e w' => e = .returned (.int .i64 ((1 + n : Nat) : Int)) ∧ w = w' := by
 obtain ⟨s1, a, cap, rfl, h⟩ := h
 go_enter Try.func23, Try.ntmps23
 go_wp2_with fail
 go_loopw [1, 5] (fun x i wr => ∃ j X : Nat, x = .int .i64 (X : Int) ∧ X = 1 + j ∧ i = .int .i64 (j : Int) ∧ j ≤ n ∧ wr = w) (fun _ i _ => n - (intOf i).toNat)
 case atStart => exact ⟨0, 1, rfl, rfl, rfl, Nat.zero_le _, rfl⟩
 case round =>
  obtain ⟨j, X, rfl, hX, rfl, hjn, rfl⟩ := hrel
  by_cases hj : j < n
  · have hjl : (j : Int) < (n : Int) := by omega
    rcases h with h | ⟨g, o, t, cs, rfl, l1, u1, r1, b1, c1⟩
    · omega
    have hX2 : X ≤ 1001 := by omega
    have e1 : mkI j = .int .i64 (X : Int) := by unfold mkI; rw [show (1 + (j : Int)) = (X : Int) by omega]
    have HX := Lib.hid hX
    clear hX
    have hc := r1.cell (c1 j hj)
    rw [e1] at hc
    have hne : ((X : Int) != (X : Int)) = false := by simp
    clear e1 c1
    go_wp2_with fail
    go_roundw
    case rel => exact ⟨j + 1, X + 1, by go_num, by have := HX.out; omega, by go_num, by omega, trivial⟩
    case measure => simp [intOf] <;> omega
  · have hjl : ¬ (j : Int) < (n : Int) := by omega
    have e : j = n := by omega
    subst e
    go_wp2_with fail
    go_ret
    exact ⟨ret_int (by push_cast; rfl), rfl⟩
end Go.Proofs.Ytgcajgmokcmcgaa
end
section
namespace Go.Proofs.Ytgcajgmokcmcgaa
open Go Go.RowKit
set_option linter.unusedVariables false
set_option linter.unusedSimpArgs false
/-- the degrees of a list -/
def dgL (L : List (Nat → Nat)) : List Int := L.map deg
theorem dgL_len (L : List (Nat → Nat)) : (dgL L).length = L.length := by simp [dgL]
theorem dgL_take {L : List (Nat → Nat)} {j : Nat} {f : Nat → Nat} (h : L[j]? = some f) : dgL (L.take (j + 1)) = dgL (L.take j) ++ [deg f] := by
 unfold dgL
 rw [List.take_add_one, h, List.map_append]; rfl
theorem dgL_zero (L : List (Nat → Nat)) : dgL (L.take 0) = [] := rfl
/-- both answers of DegreesOfPartials -/
def dpV (p : Int) (a b : Nat → Nat) : List Int × Int := (dgL (cfV p a b).1, (cfV p a b).2)
theorem dpV_c {p : Int} {a b : Nat → Nat} {c : Int} (h : cfV p a b = ([], c)) : dpV p a b = ([], c) := by unfold dpV; rw [h]; rfl
theorem dpV_len (p : Int) (a b : Nat → Nat) : (dpV p a b).1.length ≤ 1000 := by
 show (dgL (cfV p a b).1).length ≤ 1000
 rw [dgL_len]; exact cfV_len p a b
theorem slL_rowAt {w : World} {base g n cap i : Nat} {L : List (Nat → Nat)} {f : Nat → Nat} (h : SlL w base 26 64 (.slice (some ⟨g, 0, none⟩) n cap) (plR L)) (hi : L[i]? = some f) : w.rangeAt g (i * 64) (bl 64 f) := by
 have hr : (plR L)[i]? = some (bl 64 f) := by unfold plR; rw [List.getElem?_map, hi]; rfl
 exact h.range hr
attribute [local irreducible] deg quoP resP cfL cfV qcC dgL ilZ
set_option maxRecDepth 100000 in
set_option maxHeartbeats 3200000 in
theorem impl_DegreesOfPartials_any (p : Int) (a b : Nat → Nat) (ha : byte a) (hbb : byte b) (w : World) :
 Calls Try.prog 37 #[.int .i64 p, .agg (zb 64 a), .agg (zb 64 b)] w (SgF (dpV p a b).1 (dpV p a b).2 w) := by
 have HCF := Lib.hid (fun W => impl_ContinuedFraction_any p a b ha hbb W)
 have hLL := cfV_len p a b
 have HV := Lib.hid (show dpV p a b = (dgL (cfV p a b).1, (cfV p a b).2) from rfl)
 obtain ⟨LL, hLe⟩ : ∃ L, L = (cfV p a b).1 := ⟨_, rfl⟩
 obtain ⟨cd, hce⟩ : ∃ c, c = (cfV p a b).2 := ⟨_, rfl⟩
 rw [← hLe] at HCF hLL HV
 rw [← hce] at HCF HV
 clear hLe hce
 go_enter Try.func37, Try.ntmps37
 go_upto_region 1 with (fail)
 obtain ⟨W1, hwo⟩ : ∃ v : World, v = ((w.alloc (.cells (zb 64 (a)) 26)).alloc (.cells (zb 64 (b)) 26)) := ⟨_, rfl⟩
 have B0 : Blk W1 (w.heap.size) 64 26 (a) := by subst hwo; have := ((Blk.new w 64 26 (a)).alloc (.cells (zb 64 (b)) 26)); simpa using this
 have B1 : Blk W1 (w.heap.size + 1) 64 26 (b) := by subst hwo; have := (Blk.new (w.alloc (.cells (zb 64 (a)) 26)) 64 26 (b)); simpa using this
 have hb : Below w.heap.size w W1 := by subst hwo; exact (((Below.refl _ _).alloc (Nat.le_refl _) _).alloc (by simp) _)
 rw [← hwo]
 clear hwo
 go_wp2_with (first | (refine zla (.tmp 4) B0 Try.underlying26 Try.size26 ?_) | (refine zla (.tmp 5) B1 Try.underlying26 Try.size26 ?_))
 refine (HCF.out _).mono ?_
 rintro e W9 ⟨v9, rfl, hS, h9⟩
 have hWs := hb.size
 replace hb := hb.trans (h9.mono hb.size)
 replace hS := hS.base hWs
 clear h9 B0 B1 hWs
 obtain ⟨aL, capL, rfl⟩ := hS.form
 rw [plR_len] at hS ⊢
 have hD0 : SlL W9 w.heap.size 2 1 (.slice none 0 0) (ilZ (dgL (LL.take 0))) := by rw [dgL_zero, ilZ_nil]; exact SlL.nil _ _ hb.size
 go_wp2_with fail
 go_loopw [10, 22] (fun s x wr => ∃ (j : Nat) (lst : Value), lst = s ∧ j ≤ LL.length ∧ x = .int .i64 (j : Int) ∧ Below w.heap.size w wr ∧ SlL wr w.heap.size 26 64 (.slice aL LL.length capL) (plR LL) ∧ SlL wr w.heap.size 2 1 lst (ilZ (dgL (LL.take j)))) (fun _ x _ => LL.length - (intOf x).toNat)
 case atStart => exact ⟨0, _, rfl, Nat.zero_le _, rfl, hb, hS, hD0⟩
 case round =>
  clear hb hS hD0
  obtain ⟨j, lst, rfl, hjl, rfl, hb, hS, hD⟩ := hrel
  by_cases hj : j < LL.length
  · have hjI : (j : Int) < (LL.length : Int) := by omega
    obtain ⟨f, hf⟩ : ∃ f, LL[j]? = some f := ⟨_, List.getElem?_eq_getElem hj⟩
    obtain ⟨g, rfl⟩ := hS.some (by rw [plR_len]; omega)
    have hrow := slL_rowAt hS hf
    have HDG := Lib.hid (fun W => degree_any f W)
    have HTK := Lib.hid (dgL_take hf)
    have HTL := Lib.hid (show (dgL (LL.take j)).length = j by rw [dgL_len, List.length_take]; omega)
    obtain ⟨d, hd⟩ : ∃ d, d = deg f := ⟨_, rfl⟩
    rw [← hd] at HDG HTK
    obtain ⟨M, hM⟩ : ∃ M, M = dgL (LL.take j) := ⟨_, rfl⟩
    rw [← hM] at HTK HTL hD
    clear hf hd hM
    have hS0 := hS.toU
    have hD0 := hD.toU
    clear hS hD
    obtain ⟨top, htop⟩ : ∃ t, t = wr.heap.size := ⟨_, rfl⟩
    rw [← htop] at hS0 hD0
    have hwt : w.heap.size ≤ top := by rw [htop]; exact hb.size
    have ht2 := Nat.le_of_eq htop
    clear htop
    go_upto_region 6 with (first | rw [← z64] | (refine wpList_load_mid rfl 26 (.tmp 24) rfl g (j * 64) rfl (bl 64 f) _ hrow Try.underlying26 rfl (by rw [zl]; exact Try.size26) ?_) | (refine wpList_store_blk rfl 26 (.tmp 12) _ rfl _ 64 f rfl rfl 26 _ (Blk.new wr 64 26 (fun _ => 0)) Try.size26 ?_; try simp only [Act.put]; go_upto_region 6 with (fail)))
    obtain ⟨W6, hwo⟩ : ∃ v : World, v = ((wr.alloc (.cells (zb 64 (fun _ => 0)) 26)).setRow wr.heap.size (zb 64 f)) := ⟨_, rfl⟩
    have qB2 : Blk W6 wr.heap.size 64 26 f := by subst hwo; exact (Blk.new wr 64 26 (fun _ => 0)).row _
    have qS : SlU W6 w.heap.size top 26 64 (.slice (some ⟨g, 0, none⟩) LL.length capL) (plR LL) := by subst hwo; exact (hS0.alloc _).rowOther ht2
    have qD : SlU W6 w.heap.size top 2 1 lst (ilZ M) := by subst hwo; exact (hD0.alloc _).rowOther ht2
    have qhb : Below w.heap.size w W6 := by subst hwo; exact zr (hb.alloc hb.size _) hb.size _
    rw [← hwo]
    clear hwo hS0 hD0 hb hrow
    obtain ⟨N, hN⟩ : ∃ n, n = wr.heap.size := ⟨_, rfl⟩
    rw [← hN] at qB2 ⊢
    clear hN ht2
    go_upto_region 7 with (first | (refine zla (.tmp 12) qB2 Try.underlying26 Try.size26 ?_) | (go_at_call 69; refine (HDG.out _).mono ?_; rintro e W7 ⟨rfl, h7⟩; replace qS := qS.zw h7; replace qD := qD.zw h7; replace qhb := qhb.trans (h7.mono qhb.size)) | (refine wpList_buildI rfl 23 _ d rfl 2 Try.underlying23 Try.elemInt rfl ?_; intro wa hps hba; have eS := qS.1.1.below hba qS.1.1.lt; have eD := qD.1.1.below hba qD.1.1.lt; have ehb := qhb.trans (hba.mono qhb.size)) | (at_builtin; refine wpList_append_sl _ rfl _ _ 23 rfl w.heap.size 2 (.int .i64 0) 1 8 Try.underlying23 Try.infoInt (by rfl) (by decide) lst _ rfl eD W7.heap.size [.int .i64 d] rfl rfl (Row.range hps) (by intro u hu; rw [List.mem_singleton] at hu; subst hu; rfl) (by rw [ilZ_len, HTL.out]; unfold maxLen; omega) (by rw [ilZ_len, HTL.out]; omega) ?_; intro vp wp hSp hg1; have fhb := ehb.grown hg1 ehb.size (fun k e => eD.own k e); have fS := eS.grownE eD hg1 (by decide)))
    rw [← ilZ_snoc, ← HTK.out] at hSp
    go_wp2_with fail
    go_roundw
    case rel => exact ⟨j + 1, vp, rfl, by omega, by go_num, fhb, fS, hSp⟩
    case measure => simp [intOf] <;> omega
  · have hjI : ¬ (j : Int) < (LL.length : Int) := by omega
    have hje : j = LL.length := by omega
    have hT : LL.take j = LL := by rw [hje, List.take_length]
    rw [hT] at hD
    have hsg := hD.seg
    have HJ := Lib.hid hje
    clear hT hje
    go_wp2_with fail
    go_ret2
    exact ⟨lst, _, _, by rw [HV.out]; rfl, Nat.le_refl _, by rw [HV.out]; exact hsg, hb⟩
set_option maxRecDepth 100000 in
set_option maxHeartbeats 3200000 in
theorem spec_DegreesOfPartials_any (p : Int) (a b : Nat → Nat) (ha : byte a) (hbb : byte b) (w : World) :
 Calls Try.prog 36 #[.int .i64 p, .agg (zb 64 a), .agg (zb 64 b)] w (SgF (dpV p a b).1 (dpV p a b).2 w) := by
 go_enter Try.func36, Try.ntmps36
 go_upto_region 1 with (fail)
 obtain ⟨W1, hwo⟩ : ∃ v : World, v = ((w.alloc (.cells (zb 64 (a)) 26)).alloc (.cells (zb 64 (b)) 26)) := ⟨_, rfl⟩
 have B0 : Blk W1 (w.heap.size) 64 26 (a) := by subst hwo; have := ((Blk.new w 64 26 (a)).alloc (.cells (zb 64 (b)) 26)); simpa using this
 have B1 : Blk W1 (w.heap.size + 1) 64 26 (b) := by subst hwo; have := (Blk.new (w.alloc (.cells (zb 64 (a)) 26)) 64 26 (b)); simpa using this
 have hb : Below w.heap.size w W1 := by subst hwo; exact (((Below.refl _ _).alloc (Nat.le_refl _) _).alloc (by simp) _)
 rw [← hwo]
 clear hwo
 rcases qcC_split p a b true with ⟨c, hc, hc0⟩ | ⟨hc, _, m, rfl, hpr, la, lb, hd⟩
 · have HV := Lib.hid (dpV_c (cfV_c hc hc0))
   have HC := Lib.hid (show ∀ W, Calls Try.prog _ _ W _ from fun W => hc ▸ l10Code_any p a b ha hbb W)
   have hcb : (c != 0) = true := by simp [hc0]
   clear hc hc0
   go_upto_region 3 with (first | (refine zla (.tmp 4) B0 Try.underlying26 Try.size26 ?_) | (refine zla (.tmp 5) B1 Try.underlying26 Try.size26 ?_) | (go_at_call 62; refine (HC.out _).mono ?_; rintro e W2 ⟨rfl, hW2⟩; replace B0 := B0.zw hW2; replace B1 := B1.zw hW2; replace hb := (hb).trans (hW2.mono (hb).size)))
   go_wp2_with fail
   go_ret2
   exact ⟨_, w.heap.size, w.heap.size, by rw [HV.out]; rfl, Nat.le_refl _, by rw [HV.out]; exact Seg.nil _ none 0 (Nat.le_refl _) hb.size, hb⟩
 · have HV := Lib.hid (show dpV (m : Int) a b = (dgL (cfL m a b), 0) by unfold dpV; rw [cfV_0 hc])
   have HC := Lib.hid (show ∀ W, Calls Try.prog _ _ W _ from fun W => hc ▸ l10Code_any (m : Int) a b ha hbb W)
   have HCF := Lib.hid (fun W => l10Continued_any m a b W hpr la lb)
   have hLL := cfL_len m a b
   obtain ⟨LL, hLe⟩ : ∃ L, L = cfL m a b := ⟨_, rfl⟩
   rw [← hLe] at HCF hLL HV
   clear hc la lb hd hpr hLe
   go_upto_region 4 with (first | (refine zla (.tmp 4) B0 Try.underlying26 Try.size26 ?_) | (refine zla (.tmp 5) B1 Try.underlying26 Try.size26 ?_) | (go_at_call 62; refine (HC.out _).mono ?_; rintro e W2 ⟨rfl, hW2⟩; replace B0 := B0.zw hW2; replace B1 := B1.zw hW2; replace hb := (hb).trans (hW2.mono (hb).size)))
   go_wp2_with (first | (refine zla (.tmp 4) B0 Try.underlying26 Try.size26 ?_) | (refine zla (.tmp 5) B1 Try.underlying26 Try.size26 ?_))
   refine (HCF.out _).mono ?_
   rintro e W9 ⟨v9, rfl, hS, h9⟩
   have hWs := hb.size
   replace hb := hb.trans (h9.mono hb.size)
   replace hS := hS.base hWs
   clear h9 B0 B1 hWs
   obtain ⟨aL, capL, rfl⟩ := hS.form
   rw [plR_len] at hS ⊢
   have hD0 : SlL (W9.alloc (.cells #[] 2)) w.heap.size 2 1 (.slice (some ⟨W9.heap.size, 0, none⟩) 0 0) (ilZ (dgL (LL.take 0))) := by rw [dgL_zero, ilZ_nil]; exact slL_empty W9 2 1 hb.size
   replace hS := hS.alloc (.cells #[] 2)
   replace hb := hb.alloc (o := .cells #[] 2) hb.size
   go_wp2_with fail
   go_loopw [10, 11] (fun s x wr => ∃ (j : Nat) (lst : Value), lst = s ∧ j ≤ LL.length ∧ x = .int .i64 (j : Int) ∧ Below w.heap.size w wr ∧ SlL wr w.heap.size 26 64 (.slice aL LL.length capL) (plR LL) ∧ SlL wr w.heap.size 2 1 lst (ilZ (dgL (LL.take j)))) (fun _ x _ => LL.length - (intOf x).toNat)
   case atStart => exact ⟨0, _, rfl, Nat.zero_le _, rfl, hb, hS, hD0⟩
   case round =>
    clear hb hS hD0
    obtain ⟨j, lst, rfl, hjl, rfl, hb, hS, hD⟩ := hrel
    by_cases hj : j < LL.length
    · have hjI : (j : Int) < (LL.length : Int) := by omega
      obtain ⟨f, hf⟩ : ∃ f, LL[j]? = some f := ⟨_, List.getElem?_eq_getElem hj⟩
      obtain ⟨g, rfl⟩ := hS.some (by rw [plR_len]; omega)
      have hrow := slL_rowAt hS hf
      have HDG := Lib.hid (fun W => l01Deg_any f W)
      have HTK := Lib.hid (dgL_take hf)
      have HTL := Lib.hid (show (dgL (LL.take j)).length = j by rw [dgL_len, List.length_take]; omega)
      obtain ⟨d, hd⟩ : ∃ d, d = deg f := ⟨_, rfl⟩
      rw [← hd] at HDG HTK
      obtain ⟨M, hM⟩ : ∃ M, M = dgL (LL.take j) := ⟨_, rfl⟩
      rw [← hM] at HTK HTL hD
      clear hf hd hM
      go_upto_region 7 with (first | (refine wpList_load_mid rfl 26 (.tmp 33) rfl g (j * 64) rfl (bl 64 f) _ hrow Try.underlying26 rfl (by rw [zl]; exact Try.size26) ?_) | (go_at_call 63; refine (HDG.out _).mono ?_; rintro e W7 ⟨rfl, h7⟩; have qS := hS.zw h7; have qD := hD.zw h7; have qhb := hb.trans (h7.mono hb.size)) | (refine wpList_buildI rfl 23 _ d rfl 2 Try.underlying23 Try.elemInt rfl ?_; intro wa hps hba; have eS := qS.zw hba; have eD := qD.zw hba; have ehb := qhb.trans (hba.mono qhb.size)) | (at_builtin; refine wpList_append_sl _ rfl _ _ 23 rfl w.heap.size 2 (.int .i64 0) 1 8 Try.underlying23 Try.infoInt (by rfl) (by decide) lst _ rfl eD W7.heap.size [.int .i64 d] rfl rfl (Row.range hps) (by intro u hu; rw [List.mem_singleton] at hu; subst hu; rfl) (by rw [ilZ_len, HTL.out]; unfold maxLen; omega) (by rw [ilZ_len, HTL.out]; omega) ?_; intro vp wp hSp hg1; have fhb := ehb.grown hg1 ehb.size (fun k e => eD.own k e); have fS := eS.grownE eD hg1 (by decide)))
      rw [← ilZ_snoc, ← HTK.out] at hSp
      go_wp2_with fail
      go_roundw
      case rel => exact ⟨j + 1, vp, rfl, by omega, by go_num, fhb, fS, hSp⟩
      case measure => simp [intOf] <;> omega
    · have hjI : ¬ (j : Int) < (LL.length : Int) := by omega
      have hje : j = LL.length := by omega
      have hT : LL.take j = LL := by rw [hje, List.take_length]
      rw [hT] at hD
      have hsg := hD.seg
      have HJ := Lib.hid hje
      clear hT hje
      go_wp2_with fail
      go_ret2
      exact ⟨lst, _, _, by rw [HV.out]; rfl, Nat.le_refl _, by rw [HV.out]; exact hsg, hb⟩
end Go.Proofs.Ytgcajgmokcmcgaa
end
section
namespace Go.Proofs.Ytgcajgmokcmcgaa
open Go Go.RowKit
/-- a part of a tuple -/
def extL (y : Value) (k : Nat) : Value := match y with
 | .tuple xs => xs.getD k undef
 | _ => undef
end Go.Proofs.Ytgcajgmokcmcgaa
end
section
namespace Go.Proofs.Ytgcajgmokcmcgaa
open Go Go.RowKit
set_option linter.unusedVariables false
set_option linter.unusedSimpArgs false
set_option maxRecDepth 100000 in
set_option maxHeartbeats 3200000 in
theorem FnExactDegreesOfPartials_walk (p : Int) (f : Nat → Nat) (g : Nat → Nat) (hf : byte f) (hg : byte g) (w : World) :
 Calls Try.prog 7 #[.int .i64 p, .agg (zb 64 f), .agg (zb 64 g)] w fun e w' => e = .returned (.bool true) ∧ Below w.heap.size w w' := by
 obtain ⟨LL, hLL⟩ : ∃ L, L = (dpV p f g).1 := ⟨_, rfl⟩
 obtain ⟨cd, hcd⟩ : ∃ c, c = (dpV p f g).2 := ⟨_, rfl⟩
 have hR : LL.length ≤ 1000 := by rw [hLL]; exact dpV_len p f g
 have HSP := Lib.hid (fun W => show Calls Try.prog 36 #[.int .i64 p, .agg (zb 64 f), .agg (zb 64 g)] W (SgF LL cd W) from by rw [hLL, hcd]; exact spec_DegreesOfPartials_any p f g hf hg W)
 have HIM := Lib.hid (fun W => show Calls Try.prog 37 #[.int .i64 p, .agg (zb 64 f), .agg (zb 64 g)] W (SgF LL cd W) from by rw [hLL, hcd]; exact impl_DegreesOfPartials_any p f g hf hg W)
 clear hLL hcd
 have hne : (cd != cd) = false := by simp
 obtain ⟨K, hK⟩ : ∃ K, K = 1 + LL.length := ⟨_, rfl⟩
 have hK1 : (K : Int) ≤ 1000000 := by omega
 have hK2 : ((K : Int) != (K : Int)) = false := by simp
 have hK3 : ¬ (K : Int) < 0 := by omega
 have HK := Lib.hid hK
 clear hK
 go_enter Try.func7, Try.ntmps7
 go_upto_region 1 with (fail)
 obtain ⟨W1, hwo⟩ : ∃ v : World, v = ((w.alloc (.cells (zb 64 (f)) 22)).alloc (.cells (zb 64 (g)) 22)) := ⟨_, rfl⟩
 have B0 : Blk W1 (w.heap.size) 64 22 (f) := by subst hwo; have := ((Blk.new w 64 22 (f)).alloc (.cells (zb 64 (g)) 22)); simpa using this
 have B1 : Blk W1 (w.heap.size + 1) 64 22 (g) := by subst hwo; have := (Blk.new (w.alloc (.cells (zb 64 (f)) 22)) 64 22 (g)); simpa using this
 have hb : Below w.heap.size w W1 := by subst hwo; exact (((Below.refl _ _).alloc (Nat.le_refl _) _).alloc (by simp) _)
 rw [← hwo]
 clear hwo
 have hB1 := B1.lt
 have hE1 := hb.size
 refine wp_region_stepsU Try.mixed (by kernel_rfl) (by kernel_rfl) (fun v => by (simp only [frL, Act.put, pA, pB, pC, Nat.reduceAdd, Nat.zero_add]; exact rfl))
  (fun L v wx => Below W1.heap.size W1 wx ∧ VF L v [some (.int .i64 p), some (.agg (zb 64 (f))), some (.agg (zb 64 (f))), some (.agg (zb 64 (g))), some (.agg (zb 64 (g))), none, none, none, none, none, none] ∧ (L 5 = true → (∃ vl lo hi, (v 5) = .tuple #[vl, .int .i64 cd] ∧ W1.heap.size ≤ lo ∧ Seg wx lo hi vl LL)) ∧ (L 6 = true → L 5 = true ∧ v 6 = (v 5)) ∧ (L 7 = true → L 5 = true ∧ v 7 = (extL (v 5) 0)) ∧ (L 8 = true → L 5 = true ∧ v 8 = (extL (v 5) 1)) ∧ (L 9 = true → L 5 = true ∧ v 9 = (extL (v 5) 0)) ∧ (L 10 = true → L 5 = true ∧ v 10 = (extL (v 5) 1))) ?_ ?_ ?_
 · exact ⟨(Below.refl _ W1).drew, VF.start, (fun h => by cases h), (fun h => by cases h), (fun h => by cases h), (fun h => by cases h), (fun h => by cases h), (fun h => by cases h)⟩
 · refine (.cons rfl ?_ (.cons rfl ?_ (.cons rfl ?_ (.cons rfl ?_ (.cons rfl ?_ (.cons rfl ?_ (.cons rfl ?_ (.cons rfl ?_ (.cons rfl ?_ (.cons rfl ?_ (.cons rfl ?_ (.nil _))))))))))))
   · intro L v wx hd hn hU ⟨hY, V, cL, d6, d7, d8, d9, d10⟩ K hK
     go_wp2_with fail
     exact hK _ (.int .i64 p) _ (by simp only [Act.put, pA, pB, pC]) ⟨hY, V.step 0 rfl, cL, d6, d7, d8, d9, d10⟩
   · intro L v wx hd hn hU ⟨hY, V, cL, d6, d7, d8, d9, d10⟩ K hK
     refine zlc (B0.zw hY) Try.underlying22 Try.size22 ?_
     exact hK _ _ _ rfl ⟨hY, V.step 1 rfl, cL, d6, d7, d8, d9, d10⟩
   · intro L v wx hd hn hU ⟨hY, V, cL, d6, d7, d8, d9, d10⟩ K hK
     have e1 := V.at (zdq hd 1 rfl) rfl
     go_wp2_with (go_at_call 19; refine (toPoly_any f hf _).mono ?_; rintro e wy ⟨rfl, hy⟩)
     exact hK _ (.agg (zb 64 (f))) _ (by simp only [Act.put, pA, pB, pC, e1]) ⟨hY.trans (hy.mono hY.size), V.step 2 rfl, (fun h => let ⟨v1, lo1, hi1, hyE, hl1, S1⟩ := cL h; ⟨v1, lo1, hi1, hyE, hl1, S1.zw hy⟩), d6, d7, d8, d9, d10⟩
   · intro L v wx hd hn hU ⟨hY, V, cL, d6, d7, d8, d9, d10⟩ K hK
     refine zlc (B1.zw hY) Try.underlying22 Try.size22 ?_
     exact hK _ _ _ rfl ⟨hY, V.step 3 rfl, cL, d6, d7, d8, d9, d10⟩
   · intro L v wx hd hn hU ⟨hY, V, cL, d6, d7, d8, d9, d10⟩ K hK
     have e3 := V.at (zdq hd 3 rfl) rfl
     go_wp2_with (go_at_call 19; refine (toPoly_any g hg _).mono ?_; rintro e wy ⟨rfl, hy⟩)
     exact hK _ (.agg (zb 64 (g))) _ (by simp only [Act.put, pA, pB, pC, e3]) ⟨hY.trans (hy.mono hY.size), V.step 4 rfl, (fun h => let ⟨v1, lo1, hi1, hyE, hl1, S1⟩ := cL h; ⟨v1, lo1, hi1, hyE, hl1, S1.zw hy⟩), d6, d7, d8, d9, d10⟩
   · intro L v wx hd hn hU ⟨hY, V, cL, d6, d7, d8, d9, d10⟩ K hK
     have e0 := V.at (zdq hd 0 rfl) rfl
     have e2 := V.at (zdq hd 2 rfl) rfl
     have e4 := V.at (zdq hd 4 rfl) rfl
     have hN0 := hY.size
     go_wp2_with (go_at_call 36; refine (HSP.out _).mono ?_; rintro e wy ⟨vz, loz, hiz, rfl, hl, hS, hy⟩)
     have hnew : (∃ vl lo hi, (Value.tuple #[vz, .int .i64 cd]) = .tuple #[vl, .int .i64 cd] ∧ W1.heap.size ≤ lo ∧ Seg wy lo hi vl LL) := ⟨vz, loz, hiz, rfl, Nat.le_trans hN0 hl, hS⟩
     exact hK _ (.tuple #[vz, .int .i64 cd]) _ (by simp only [Act.put, pA, pB, pC, e0, e2, e4]) ⟨hY.trans (hy.mono hY.size), V.skip 5 rfl, (fun _ => hnew), (fun h => absurd (d6 h).1 (by rw [hU]; decide)), (fun h => absurd (d7 h).1 (by rw [hU]; decide)), (fun h => absurd (d8 h).1 (by rw [hU]; decide)), (fun h => absurd (d9 h).1 (by rw [hU]; decide)), (fun h => absurd (d10 h).1 (by rw [hU]; decide))⟩
   · intro L v wx hd hn hU ⟨hY, V, cL, d6, d7, d8, d9, d10⟩ K hK
     have hl := (zdq hd 5 rfl)
     have ⟨v1, lo1, hi1, hyE, hl1, S1⟩ := cL hl
     have ez : v 5 = (.tuple #[v1, .int .i64 cd]) := hyE
     go_wp2_with fail
     have hnew : L 5 = true ∧ (.tuple #[v1, .int .i64 cd]) = (v 5) := ⟨hl, by rw [hyE]; try rfl⟩
     exact hK _ (.tuple #[v1, .int .i64 cd]) _ (by simp only [Act.put, pA, pB, pC, ez, hyE]; try rfl) ⟨hY, V.skip 6 rfl, cL, (fun _ => hnew), d7, d8, d9, d10⟩
   · intro L v wx hd hn hU ⟨hY, V, cL, d6, d7, d8, d9, d10⟩ K hK
     have hs := d6 (zdq hd 6 rfl)
     have hl := hs.1
     have ⟨v1, lo1, hi1, hyE, hl1, S1⟩ := cL hl
     have ez : v 6 = (.tuple #[v1, .int .i64 cd]) := by rw [hs.2, hyE]; try rfl
     clear hs
     go_wp2_with fail
     have hnew : L 5 = true ∧ v1 = (extL (v 5) 0) := ⟨hl, by rw [hyE]; try rfl⟩
     exact hK _ v1 _ (by simp only [Act.put, pA, pB, pC, ez, hyE]; try rfl) ⟨hY, V.skip 7 rfl, cL, d6, (fun _ => hnew), d8, d9, d10⟩
   · intro L v wx hd hn hU ⟨hY, V, cL, d6, d7, d8, d9, d10⟩ K hK
     have hs := d6 (zdq hd 6 rfl)
     have hl := hs.1
     have ⟨v1, lo1, hi1, hyE, hl1, S1⟩ := cL hl
     have ez : v 6 = (.tuple #[v1, .int .i64 cd]) := by rw [hs.2, hyE]; try rfl
     clear hs
     go_wp2_with fail
     have hnew : L 5 = true ∧ (.int .i64 cd) = (extL (v 5) 1) := ⟨hl, by rw [hyE]; try rfl⟩
     exact hK _ (.int .i64 cd) _ (by simp only [Act.put, pA, pB, pC, ez, hyE]; try rfl) ⟨hY, V.skip 8 rfl, cL, d6, d7, (fun _ => hnew), d9, d10⟩
   · intro L v wx hd hn hU ⟨hY, V, cL, d6, d7, d8, d9, d10⟩ K hK
     have hs := d7 (zdq hd 7 rfl)
     have hl := hs.1
     have ⟨v1, lo1, hi1, hyE, hl1, S1⟩ := cL hl
     have ez : v 7 = v1 := by rw [hs.2, hyE]; try rfl
     clear hs
     go_wp2_with fail
     have hnew : L 5 = true ∧ v1 = (extL (v 5) 0) := ⟨hl, by rw [hyE]; try rfl⟩
     exact hK _ v1 _ (by simp only [Act.put, pA, pB, pC, ez, hyE]; try rfl) ⟨hY, V.skip 9 rfl, cL, d6, d7, d8, (fun _ => hnew), d10⟩
   · intro L v wx hd hn hU ⟨hY, V, cL, d6, d7, d8, d9, d10⟩ K hK
     have hs := d8 (zdq hd 8 rfl)
     have hl := hs.1
     have ⟨v1, lo1, hi1, hyE, hl1, S1⟩ := cL hl
     have ez : v 8 = (.int .i64 cd) := by rw [hs.2, hyE]; try rfl
     clear hs
     go_wp2_with fail
     have hnew : L 5 = true ∧ (.int .i64 cd) = (extL (v 5) 1) := ⟨hl, by rw [hyE]; try rfl⟩
     exact hK _ (.int .i64 cd) _ (by simp only [Act.put, pA, pB, pC, ez, hyE]; try rfl) ⟨hY, V.skip 10 rfl, cL, d6, d7, d8, d9, (fun _ => hnew)⟩
 · intro L v W2 hL ⟨hY, V, cL, d6, d7, d8, d9, d10⟩
   have e0 := V.at (hL 0 (by decide)) rfl
   have e1 := V.at (hL 1 (by decide)) rfl
   have e2 := V.at (hL 2 (by decide)) rfl
   have e3 := V.at (hL 3 (by decide)) rfl
   have e4 := V.at (hL 4 (by decide)) rfl
   obtain ⟨v1, lo1, hi1, hyE, hl1, S1⟩ := cL (hL 5 (by decide))
   have e5 := hyE
   have e6 : v 6 = (.tuple #[v1, .int .i64 cd]) := by rw [(d6 (hL 6 (by decide))).2, hyE]; try rfl
   have e7 : v 7 = v1 := by rw [(d7 (hL 7 (by decide))).2, hyE]; try rfl
   have e8 : v 8 = (.int .i64 cd) := by rw [(d8 (hL 8 (by decide))).2, hyE]; try rfl
   have e9 : v 9 = v1 := by rw [(d9 (hL 9 (by decide))).2, hyE]; try rfl
   have e10 : v 10 = (.int .i64 cd) := by rw [(d10 (hL 10 (by decide))).2, hyE]; try rfl
   clear hL V cL d6 d7 d8 d9 d10 hyE
   simp only [Exit.then, e0, e1, e2, e3, e4, e5, e6, e7, e8, e9, e10]
   clear e0 e1 e2 e3 e4 e5 e6 e7 e8 e9 e10
   replace B0 := B0.zw hY
   replace B1 := B1.zw hY
   replace hb := hb.trans (hY.mono hb.size)
   clear hY
   replace hB1 := Nat.lt_of_lt_of_le hB1 hl1
   replace hE1 := Nat.le_trans hE1 hl1
   go_upto_region 2 with (fail)
   have hB2 := B1.lt
   have hE2 := hb.size
   have hX2_0 := S1.lt
   refine wp_region_stepsU Try.mixed (by kernel_rfl) (by kernel_rfl) (fun v => by (simp only [frL, Act.put, pA, pB, pC, Nat.reduceAdd, Nat.zero_add]; exact rfl))
    (fun L v wx => Below W2.heap.size W2 wx ∧ VF L v [some (.int .i64 p), some (.agg (zb 64 (f))), some (.agg (zb 64 (f))), some (.agg (zb 64 (g))), some (.agg (zb 64 (g))), none, none, none, none, none, none] ∧ (L 5 = true → (∃ vl lo hi, (v 5) = .tuple #[vl, .int .i64 cd] ∧ W2.heap.size ≤ lo ∧ Seg wx lo hi vl LL)) ∧ (L 6 = true → L 5 = true ∧ v 6 = (v 5)) ∧ (L 7 = true → L 5 = true ∧ v 7 = (extL (v 5) 0)) ∧ (L 8 = true → L 5 = true ∧ v 8 = (extL (v 5) 1)) ∧ (L 9 = true → L 5 = true ∧ v 9 = (extL (v 5) 0)) ∧ (L 10 = true → L 5 = true ∧ v 10 = (extL (v 5) 1))) ?_ ?_ ?_
   · exact ⟨(Below.refl _ W2).drew, VF.start, (fun h => by cases h), (fun h => by cases h), (fun h => by cases h), (fun h => by cases h), (fun h => by cases h), (fun h => by cases h)⟩
   · refine (.cons rfl ?_ (.cons rfl ?_ (.cons rfl ?_ (.cons rfl ?_ (.cons rfl ?_ (.cons rfl ?_ (.cons rfl ?_ (.cons rfl ?_ (.cons rfl ?_ (.cons rfl ?_ (.cons rfl ?_ (.nil _))))))))))))
     · intro L v wx hd hn hU ⟨hY, V, cL, d6, d7, d8, d9, d10⟩ K hK
       go_wp2_with fail
       exact hK _ (.int .i64 p) _ (by simp only [Act.put, pA, pB, pC]) ⟨hY, V.step 0 rfl, cL, d6, d7, d8, d9, d10⟩
     · intro L v wx hd hn hU ⟨hY, V, cL, d6, d7, d8, d9, d10⟩ K hK
       refine zlc (B0.zw hY) Try.underlying22 Try.size22 ?_
       exact hK _ _ _ rfl ⟨hY, V.step 1 rfl, cL, d6, d7, d8, d9, d10⟩
     · intro L v wx hd hn hU ⟨hY, V, cL, d6, d7, d8, d9, d10⟩ K hK
       have e1 := V.at (zdq hd 1 rfl) rfl
       go_wp2_with (go_at_call 19; refine (toPoly_any f hf _).mono ?_; rintro e wy ⟨rfl, hy⟩)
       exact hK _ (.agg (zb 64 (f))) _ (by simp only [Act.put, pA, pB, pC, e1]) ⟨hY.trans (hy.mono hY.size), V.step 2 rfl, (fun h => let ⟨v2, lo2, hi2, hyE, hl2, S2⟩ := cL h; ⟨v2, lo2, hi2, hyE, hl2, S2.zw hy⟩), d6, d7, d8, d9, d10⟩
     · intro L v wx hd hn hU ⟨hY, V, cL, d6, d7, d8, d9, d10⟩ K hK
       refine zlc (B1.zw hY) Try.underlying22 Try.size22 ?_
       exact hK _ _ _ rfl ⟨hY, V.step 3 rfl, cL, d6, d7, d8, d9, d10⟩
     · intro L v wx hd hn hU ⟨hY, V, cL, d6, d7, d8, d9, d10⟩ K hK
       have e3 := V.at (zdq hd 3 rfl) rfl
       go_wp2_with (go_at_call 19; refine (toPoly_any g hg _).mono ?_; rintro e wy ⟨rfl, hy⟩)
       exact hK _ (.agg (zb 64 (g))) _ (by simp only [Act.put, pA, pB, pC, e3]) ⟨hY.trans (hy.mono hY.size), V.step 4 rfl, (fun h => let ⟨v2, lo2, hi2, hyE, hl2, S2⟩ := cL h; ⟨v2, lo2, hi2, hyE, hl2, S2.zw hy⟩), d6, d7, d8, d9, d10⟩
     · intro L v wx hd hn hU ⟨hY, V, cL, d6, d7, d8, d9, d10⟩ K hK
       have e0 := V.at (zdq hd 0 rfl) rfl
       have e2 := V.at (zdq hd 2 rfl) rfl
       have e4 := V.at (zdq hd 4 rfl) rfl
       have hN0 := hY.size
       go_wp2_with (go_at_call 37; refine (HIM.out _).mono ?_; rintro e wy ⟨vz, loz, hiz, rfl, hl, hS, hy⟩)
       have hnew : (∃ vl lo hi, (Value.tuple #[vz, .int .i64 cd]) = .tuple #[vl, .int .i64 cd] ∧ W2.heap.size ≤ lo ∧ Seg wy lo hi vl LL) := ⟨vz, loz, hiz, rfl, Nat.le_trans hN0 hl, hS⟩
       exact hK _ (.tuple #[vz, .int .i64 cd]) _ (by simp only [Act.put, pA, pB, pC, e0, e2, e4]) ⟨hY.trans (hy.mono hY.size), V.skip 5 rfl, (fun _ => hnew), (fun h => absurd (d6 h).1 (by rw [hU]; decide)), (fun h => absurd (d7 h).1 (by rw [hU]; decide)), (fun h => absurd (d8 h).1 (by rw [hU]; decide)), (fun h => absurd (d9 h).1 (by rw [hU]; decide)), (fun h => absurd (d10 h).1 (by rw [hU]; decide))⟩
     · intro L v wx hd hn hU ⟨hY, V, cL, d6, d7, d8, d9, d10⟩ K hK
       have hl := (zdq hd 5 rfl)
       have ⟨v2, lo2, hi2, hyE, hl2, S2⟩ := cL hl
       have ez : v 5 = (.tuple #[v2, .int .i64 cd]) := hyE
       go_wp2_with fail
       have hnew : L 5 = true ∧ (.tuple #[v2, .int .i64 cd]) = (v 5) := ⟨hl, by rw [hyE]; try rfl⟩
       exact hK _ (.tuple #[v2, .int .i64 cd]) _ (by simp only [Act.put, pA, pB, pC, ez, hyE]; try rfl) ⟨hY, V.skip 6 rfl, cL, (fun _ => hnew), d7, d8, d9, d10⟩
     · intro L v wx hd hn hU ⟨hY, V, cL, d6, d7, d8, d9, d10⟩ K hK
       have hs := d6 (zdq hd 6 rfl)
       have hl := hs.1
       have ⟨v2, lo2, hi2, hyE, hl2, S2⟩ := cL hl
       have ez : v 6 = (.tuple #[v2, .int .i64 cd]) := by rw [hs.2, hyE]; try rfl
       clear hs
       go_wp2_with fail
       have hnew : L 5 = true ∧ v2 = (extL (v 5) 0) := ⟨hl, by rw [hyE]; try rfl⟩
       exact hK _ v2 _ (by simp only [Act.put, pA, pB, pC, ez, hyE]; try rfl) ⟨hY, V.skip 7 rfl, cL, d6, (fun _ => hnew), d8, d9, d10⟩
     · intro L v wx hd hn hU ⟨hY, V, cL, d6, d7, d8, d9, d10⟩ K hK
       have hs := d6 (zdq hd 6 rfl)
       have hl := hs.1
       have ⟨v2, lo2, hi2, hyE, hl2, S2⟩ := cL hl
       have ez : v 6 = (.tuple #[v2, .int .i64 cd]) := by rw [hs.2, hyE]; try rfl
       clear hs
       go_wp2_with fail
       have hnew : L 5 = true ∧ (.int .i64 cd) = (extL (v 5) 1) := ⟨hl, by rw [hyE]; try rfl⟩
       exact hK _ (.int .i64 cd) _ (by simp only [Act.put, pA, pB, pC, ez, hyE]; try rfl) ⟨hY, V.skip 8 rfl, cL, d6, d7, (fun _ => hnew), d9, d10⟩
     · intro L v wx hd hn hU ⟨hY, V, cL, d6, d7, d8, d9, d10⟩ K hK
       have hs := d7 (zdq hd 7 rfl)
       have hl := hs.1
       have ⟨v2, lo2, hi2, hyE, hl2, S2⟩ := cL hl
       have ez : v 7 = v2 := by rw [hs.2, hyE]; try rfl
       clear hs
       go_wp2_with fail
       have hnew : L 5 = true ∧ v2 = (extL (v 5) 0) := ⟨hl, by rw [hyE]; try rfl⟩
       exact hK _ v2 _ (by simp only [Act.put, pA, pB, pC, ez, hyE]; try rfl) ⟨hY, V.skip 9 rfl, cL, d6, d7, d8, (fun _ => hnew), d10⟩
     · intro L v wx hd hn hU ⟨hY, V, cL, d6, d7, d8, d9, d10⟩ K hK
       have hs := d8 (zdq hd 8 rfl)
       have hl := hs.1
       have ⟨v2, lo2, hi2, hyE, hl2, S2⟩ := cL hl
       have ez : v 8 = (.int .i64 cd) := by rw [hs.2, hyE]; try rfl
       clear hs
       go_wp2_with fail
       have hnew : L 5 = true ∧ (.int .i64 cd) = (extL (v 5) 1) := ⟨hl, by rw [hyE]; try rfl⟩
       exact hK _ (.int .i64 cd) _ (by simp only [Act.put, pA, pB, pC, ez, hyE]; try rfl) ⟨hY, V.skip 10 rfl, cL, d6, d7, d8, d9, (fun _ => hnew)⟩
   · intro L v W3 hL ⟨hY, V, cL, d6, d7, d8, d9, d10⟩
     have e0 := V.at (hL 0 (by decide)) rfl
     have e1 := V.at (hL 1 (by decide)) rfl
     have e2 := V.at (hL 2 (by decide)) rfl
     have e3 := V.at (hL 3 (by decide)) rfl
     have e4 := V.at (hL 4 (by decide)) rfl
     obtain ⟨v2, lo2, hi2, hyE, hl2, S2⟩ := cL (hL 5 (by decide))
     have e5 := hyE
     have e6 : v 6 = (.tuple #[v2, .int .i64 cd]) := by rw [(d6 (hL 6 (by decide))).2, hyE]; try rfl
     have e7 : v 7 = v2 := by rw [(d7 (hL 7 (by decide))).2, hyE]; try rfl
     have e8 : v 8 = (.int .i64 cd) := by rw [(d8 (hL 8 (by decide))).2, hyE]; try rfl
     have e9 : v 9 = v2 := by rw [(d9 (hL 9 (by decide))).2, hyE]; try rfl
     have e10 : v 10 = (.int .i64 cd) := by rw [(d10 (hL 10 (by decide))).2, hyE]; try rfl
     clear hL V cL d6 d7 d8 d9 d10 hyE
     simp only [Exit.then, e0, e1, e2, e3, e4, e5, e6, e7, e8, e9, e10]
     clear e0 e1 e2 e3 e4 e5 e6 e7 e8 e9 e10
     replace B0 := B0.zw hY
     replace B1 := B1.zw hY
     replace hb := hb.trans (hY.mono hb.size)
     replace S1 := S1.zw hY
     clear hY
     replace hB2 := Nat.lt_of_lt_of_le hB2 hl2
     replace hE2 := Nat.le_trans hE2 hl2
     replace hX2_0 := Nat.le_trans hX2_0 hl2
     go_upto_region 3 with (fail)
     go_upto_region 6 with (first | (go_at_call 21; refine (eqInt64S_seg LL _ _ _ _ v2 v1 _ S2 S1 hR).mono ?_; rintro e W5 ⟨rfl, h2⟩; replace B0 := B0.zw h2; replace B1 := B1.zw h2; replace S1 := S1.zw h2; replace S2 := S2.zw h2; replace hb := hb.trans (h2.mono hb.size)))
     have hlo := Nat.le_trans S2.1 S2.lt
     go_upto_region 8 with (first | (go_at_call 22; refine (markInt64S_seg LL.length lo2 hi2 v2 _ S2.marks hlo hR).mono ?_; rintro e W6 ⟨rfl, M2, hG⟩; rw [← HK.out]))
     replace B0 := B0.below hG (by omega)
     replace B1 := B1.below hG (by omega)
     replace S1 := S1.below hG hX2_0
     replace hb := hb.trans (hG.mono hE2)
     clear S2 hG hlo
     go_upto_region 13 with (first | (go_at_call 23; refine (heldInt64S_seg LL.length lo2 hi2 v2 _ M2 hR).mono ?_; rintro e wS ⟨rfl, rfl⟩; rw [← HK.out]))
     have hB3 := B1.lt
     have hE3 := hb.size
     have hX3_0 := S1.lt
     have hX3_1 := M2.lt
     refine wp_region_stepsU Try.mixed (by kernel_rfl) (by kernel_rfl) (fun v => by (simp only [frL, Act.put, pA, pB, pC, Nat.reduceAdd, Nat.zero_add]; exact rfl))
      (fun L v wx => Below W6.heap.size W6 wx ∧ VF L v [some (.int .i64 p), some (.agg (zb 64 (f))), some (.agg (zb 64 (f))), some (.agg (zb 64 (g))), some (.agg (zb 64 (g))), none, none, none, none, none, none] ∧ (L 5 = true → (∃ vl lo hi, (v 5) = .tuple #[vl, .int .i64 cd] ∧ W6.heap.size ≤ lo ∧ Seg wx lo hi vl LL)) ∧ (L 6 = true → L 5 = true ∧ v 6 = (v 5)) ∧ (L 7 = true → L 5 = true ∧ v 7 = (extL (v 5) 0)) ∧ (L 8 = true → L 5 = true ∧ v 8 = (extL (v 5) 1)) ∧ (L 9 = true → L 5 = true ∧ v 9 = (extL (v 5) 0)) ∧ (L 10 = true → L 5 = true ∧ v 10 = (extL (v 5) 1))) ?_ ?_ ?_
     · exact ⟨(Below.refl _ W6).drew, VF.start, (fun h => by cases h), (fun h => by cases h), (fun h => by cases h), (fun h => by cases h), (fun h => by cases h), (fun h => by cases h)⟩
     · refine (.cons rfl ?_ (.cons rfl ?_ (.cons rfl ?_ (.cons rfl ?_ (.cons rfl ?_ (.cons rfl ?_ (.cons rfl ?_ (.cons rfl ?_ (.cons rfl ?_ (.cons rfl ?_ (.cons rfl ?_ (.nil _))))))))))))
       · intro L v wx hd hn hU ⟨hY, V, cL, d6, d7, d8, d9, d10⟩ K hK
         go_wp2_with fail
         exact hK _ (.int .i64 p) _ (by simp only [Act.put, pA, pB, pC]) ⟨hY, V.step 0 rfl, cL, d6, d7, d8, d9, d10⟩
       · intro L v wx hd hn hU ⟨hY, V, cL, d6, d7, d8, d9, d10⟩ K hK
         refine zlc (B0.zw hY) Try.underlying22 Try.size22 ?_
         exact hK _ _ _ rfl ⟨hY, V.step 1 rfl, cL, d6, d7, d8, d9, d10⟩
       · intro L v wx hd hn hU ⟨hY, V, cL, d6, d7, d8, d9, d10⟩ K hK
         have e1 := V.at (zdq hd 1 rfl) rfl
         go_wp2_with (go_at_call 19; refine (toPoly_any f hf _).mono ?_; rintro e wy ⟨rfl, hy⟩)
         exact hK _ (.agg (zb 64 (f))) _ (by simp only [Act.put, pA, pB, pC, e1]) ⟨hY.trans (hy.mono hY.size), V.step 2 rfl, (fun h => let ⟨v3, lo3, hi3, hyE, hl3, S3⟩ := cL h; ⟨v3, lo3, hi3, hyE, hl3, S3.zw hy⟩), d6, d7, d8, d9, d10⟩
       · intro L v wx hd hn hU ⟨hY, V, cL, d6, d7, d8, d9, d10⟩ K hK
         refine zlc (B1.zw hY) Try.underlying22 Try.size22 ?_
         exact hK _ _ _ rfl ⟨hY, V.step 3 rfl, cL, d6, d7, d8, d9, d10⟩
       · intro L v wx hd hn hU ⟨hY, V, cL, d6, d7, d8, d9, d10⟩ K hK
         have e3 := V.at (zdq hd 3 rfl) rfl
         go_wp2_with (go_at_call 19; refine (toPoly_any g hg _).mono ?_; rintro e wy ⟨rfl, hy⟩)
         exact hK _ (.agg (zb 64 (g))) _ (by simp only [Act.put, pA, pB, pC, e3]) ⟨hY.trans (hy.mono hY.size), V.step 4 rfl, (fun h => let ⟨v3, lo3, hi3, hyE, hl3, S3⟩ := cL h; ⟨v3, lo3, hi3, hyE, hl3, S3.zw hy⟩), d6, d7, d8, d9, d10⟩
       · intro L v wx hd hn hU ⟨hY, V, cL, d6, d7, d8, d9, d10⟩ K hK
         have e0 := V.at (zdq hd 0 rfl) rfl
         have e2 := V.at (zdq hd 2 rfl) rfl
         have e4 := V.at (zdq hd 4 rfl) rfl
         have hN0 := hY.size
         go_wp2_with (go_at_call 37; refine (HIM.out _).mono ?_; rintro e wy ⟨vz, loz, hiz, rfl, hl, hS, hy⟩)
         have hnew : (∃ vl lo hi, (Value.tuple #[vz, .int .i64 cd]) = .tuple #[vl, .int .i64 cd] ∧ W6.heap.size ≤ lo ∧ Seg wy lo hi vl LL) := ⟨vz, loz, hiz, rfl, Nat.le_trans hN0 hl, hS⟩
         exact hK _ (.tuple #[vz, .int .i64 cd]) _ (by simp only [Act.put, pA, pB, pC, e0, e2, e4]) ⟨hY.trans (hy.mono hY.size), V.skip 5 rfl, (fun _ => hnew), (fun h => absurd (d6 h).1 (by rw [hU]; decide)), (fun h => absurd (d7 h).1 (by rw [hU]; decide)), (fun h => absurd (d8 h).1 (by rw [hU]; decide)), (fun h => absurd (d9 h).1 (by rw [hU]; decide)), (fun h => absurd (d10 h).1 (by rw [hU]; decide))⟩
       · intro L v wx hd hn hU ⟨hY, V, cL, d6, d7, d8, d9, d10⟩ K hK
         have hl := (zdq hd 5 rfl)
         have ⟨v3, lo3, hi3, hyE, hl3, S3⟩ := cL hl
         have ez : v 5 = (.tuple #[v3, .int .i64 cd]) := hyE
         go_wp2_with fail
         have hnew : L 5 = true ∧ (.tuple #[v3, .int .i64 cd]) = (v 5) := ⟨hl, by rw [hyE]; try rfl⟩
         exact hK _ (.tuple #[v3, .int .i64 cd]) _ (by simp only [Act.put, pA, pB, pC, ez, hyE]; try rfl) ⟨hY, V.skip 6 rfl, cL, (fun _ => hnew), d7, d8, d9, d10⟩
       · intro L v wx hd hn hU ⟨hY, V, cL, d6, d7, d8, d9, d10⟩ K hK
         have hs := d6 (zdq hd 6 rfl)
         have hl := hs.1
         have ⟨v3, lo3, hi3, hyE, hl3, S3⟩ := cL hl
         have ez : v 6 = (.tuple #[v3, .int .i64 cd]) := by rw [hs.2, hyE]; try rfl
         clear hs
         go_wp2_with fail
         have hnew : L 5 = true ∧ v3 = (extL (v 5) 0) := ⟨hl, by rw [hyE]; try rfl⟩
         exact hK _ v3 _ (by simp only [Act.put, pA, pB, pC, ez, hyE]; try rfl) ⟨hY, V.skip 7 rfl, cL, d6, (fun _ => hnew), d8, d9, d10⟩
       · intro L v wx hd hn hU ⟨hY, V, cL, d6, d7, d8, d9, d10⟩ K hK
         have hs := d6 (zdq hd 6 rfl)
         have hl := hs.1
         have ⟨v3, lo3, hi3, hyE, hl3, S3⟩ := cL hl
         have ez : v 6 = (.tuple #[v3, .int .i64 cd]) := by rw [hs.2, hyE]; try rfl
         clear hs
         go_wp2_with fail
         have hnew : L 5 = true ∧ (.int .i64 cd) = (extL (v 5) 1) := ⟨hl, by rw [hyE]; try rfl⟩
         exact hK _ (.int .i64 cd) _ (by simp only [Act.put, pA, pB, pC, ez, hyE]; try rfl) ⟨hY, V.skip 8 rfl, cL, d6, d7, (fun _ => hnew), d9, d10⟩
       · intro L v wx hd hn hU ⟨hY, V, cL, d6, d7, d8, d9, d10⟩ K hK
         have hs := d7 (zdq hd 7 rfl)
         have hl := hs.1
         have ⟨v3, lo3, hi3, hyE, hl3, S3⟩ := cL hl
         have ez : v 7 = v3 := by rw [hs.2, hyE]; try rfl
         clear hs
         go_wp2_with fail
         have hnew : L 5 = true ∧ v3 = (extL (v 5) 0) := ⟨hl, by rw [hyE]; try rfl⟩
         exact hK _ v3 _ (by simp only [Act.put, pA, pB, pC, ez, hyE]; try rfl) ⟨hY, V.skip 9 rfl, cL, d6, d7, d8, (fun _ => hnew), d10⟩
       · intro L v wx hd hn hU ⟨hY, V, cL, d6, d7, d8, d9, d10⟩ K hK
         have hs := d8 (zdq hd 8 rfl)
         have hl := hs.1
         have ⟨v3, lo3, hi3, hyE, hl3, S3⟩ := cL hl
         have ez : v 8 = (.int .i64 cd) := by rw [hs.2, hyE]; try rfl
         clear hs
         go_wp2_with fail
         have hnew : L 5 = true ∧ (.int .i64 cd) = (extL (v 5) 1) := ⟨hl, by rw [hyE]; try rfl⟩
         exact hK _ (.int .i64 cd) _ (by simp only [Act.put, pA, pB, pC, ez, hyE]; try rfl) ⟨hY, V.skip 10 rfl, cL, d6, d7, d8, d9, (fun _ => hnew)⟩
     · intro L v W4 hL ⟨hY, V, cL, d6, d7, d8, d9, d10⟩
       have e0 := V.at (hL 0 (by decide)) rfl
       have e1 := V.at (hL 1 (by decide)) rfl
       have e2 := V.at (hL 2 (by decide)) rfl
       have e3 := V.at (hL 3 (by decide)) rfl
       have e4 := V.at (hL 4 (by decide)) rfl
       obtain ⟨v3, lo3, hi3, hyE, hl3, S3⟩ := cL (hL 5 (by decide))
       have e5 := hyE
       have e6 : v 6 = (.tuple #[v3, .int .i64 cd]) := by rw [(d6 (hL 6 (by decide))).2, hyE]; try rfl
       have e7 : v 7 = v3 := by rw [(d7 (hL 7 (by decide))).2, hyE]; try rfl
       have e8 : v 8 = (.int .i64 cd) := by rw [(d8 (hL 8 (by decide))).2, hyE]; try rfl
       have e9 : v 9 = v3 := by rw [(d9 (hL 9 (by decide))).2, hyE]; try rfl
       have e10 : v 10 = (.int .i64 cd) := by rw [(d10 (hL 10 (by decide))).2, hyE]; try rfl
       clear hL V cL d6 d7 d8 d9 d10 hyE
       simp only [Exit.then, e0, e1, e2, e3, e4, e5, e6, e7, e8, e9, e10]
       clear e0 e1 e2 e3 e4 e5 e6 e7 e8 e9 e10
       replace B0 := B0.zw hY
       replace B1 := B1.zw hY
       replace hb := hb.trans (hY.mono hb.size)
       replace S1 := S1.zw hY
       replace M2 := M2.zw hY
       clear hY
       replace hB3 := Nat.lt_of_lt_of_le hB3 hl3
       replace hE3 := Nat.le_trans hE3 hl3
       replace hX3_0 := Nat.le_trans hX3_0 hl3
       replace hX3_1 := Nat.le_trans hX3_1 hl3
       go_upto_region 14 with (fail)
       go_upto_region 17 with (first | (go_at_call 21; refine (eqInt64S_seg LL _ _ _ _ v3 v1 _ S3 S1 hR).mono ?_; rintro e W5 ⟨rfl, h2⟩; replace B0 := B0.zw h2; replace B1 := B1.zw h2; replace M2 := M2.zw h2; replace hb := hb.trans (h2.mono hb.size)))
       clear S3 S1
       go_wp2_with (first | (go_at_call 23; refine (heldInt64S_seg LL.length lo2 hi2 v2 _ M2 hR).mono ?_; rintro e wS ⟨rfl, rfl⟩; rw [← HK.out]))
       go_ret
       exact ⟨rfl, hb⟩
end Go.Proofs.Ytgcajgmokcmcgaa
end
section
namespace Go.Proofs.Ytgcajgmokcmcgaa
open Go.ChangeShapes Go.WideShapes Go.ChangeAt Go.RowKit
section
variable {H : Type} {enc : TypeId × Value → H} {P : Program}
theorem trod_int_to {e : TypeId} {k : IntKind} (he : P.underlying e = some (.int k)) {w : World} (w' : World) {b : Nat} (b' : Nat) {s : Nat → Bool} (s' : Nat → Bool) {h : Bool} (h' : Bool) {m : Nat} {c : List Value} {x : DataW H × List MemPlace}
 (hx : DataW.trod enc P w b s h m e c = some x) : DataW.trod enc P w' b' s' h' m e c = some x := by
 cases m with
 | zero => simp [DataW.trod] at hx
 | succ m =>
  obtain ⟨n, rfl, rfl, hw⟩ := DataW.trod_int he hx
  unfold DataW.trod
  rw [he]
  simp [hw]
theorem trod_int_same {e : TypeId} {k : IntKind} (he : P.underlying e = some (.int k)) (w w' : World) (b b' : Nat) (s s' : Nat → Bool) (h h' : Bool) (m : Nat) (c : List Value) :
 DataW.trod enc P w b s h m e c = DataW.trod enc P w' b' s' h' m e c := by
 cases h1 : DataW.trod enc P w b s h m e c with
 | some x => rw [trod_int_to he w' b' s' h' h1]
 | none =>
  cases h2 : DataW.trod enc P w' b' s' h' m e c with
  | none => rfl
  | some x => rw [trod_int_to he w b s h h2] at h1; cases h1
theorem open_barr {t e : TypeId} {n : Nat} {w : World} {r : Reach} {b0 base : Nat} {spare : Nat → Bool} {held : Bool} {v : Value} {d : DataW H} {p : List MemPlace}
 (ht : P.underlying t = some (.array n e)) (he : P.underlying e = some (.int .u8)) (hC : P.cellsOf t = n) (hCe : P.cellsOf e = 1)
 (hv : Value.okWide P w r b0 t v) (h : DataW.Trod enc P w base spare held t v d p) :
 ∃ f : Nat → Nat, byte f ∧ v = .agg (zb n f) ∧ p = [] ∧ ∀ (w' : World) (base' : Nat) (spare' : Nat → Bool) (held' : Bool), DataW.Trod enc P w' base' spare' held' t v d [] := by
 unfold Value.okWide at hv
 rw [ht] at hv
 obtain ⟨cs, rfl, hsz, _⟩ := hv
 obtain ⟨fuel, hf⟩ := h
 obtain ⟨xs, m, hm, hx, hlen, hxl, hel⟩ := DataW.trod_array ht hf
 subst hm
 have hcs : cs.size = n := by rw [hsz, hC]
 have each : ∀ i, i < n → ∃ k : Nat, k < 256 ∧ cs[i]? = some (.int .u8 (k : Int)) ∧ xs[i]? = some (.lit (.int .u8 (k : Int)), []) := by
  intro i hi
  have h1 := hel i hi
  have hxi : xs[i]? = some (xs[i]'(by omega)) := List.getElem?_eq_getElem (by omega)
  rw [hxi, hCe] at h1
  obtain ⟨z, hz1, hz2, hz3⟩ := DataW.trod_int he h1
  have hb := bounds_u8 hz3
  obtain ⟨k, rfl⟩ := Int.eq_ofNat_of_zero_le hb.1
  refine ⟨k, by omega, ?_, by rw [hxi, hz2]⟩
  have h2 : ((cs.toList.drop (i * 1)).take 1)[0]? = some (.int .u8 (k : Int)) := by
   have h3 : (Value.agg cs).cells.toList = cs.toList := rfl
   rw [← h3, hz1]; rfl
  simpa using h2
 refine ⟨fun i => match cs[i]? with | some (.int _ z) => if i < n then z.toNat else 0 | _ => 0, ?_, ?_, ?_, ?_⟩
 · intro i
   by_cases hi : i < n
   · obtain ⟨k, hk, hc, _⟩ := each i hi
     simp only [hc, hi, if_true, Int.toNat_natCast]
     exact hk
   · have : cs[i]? = none := Array.getElem?_eq_none (by omega)
     simp [this]
 · congr 1
   apply Array.ext_getElem?
   intro i
   by_cases hi : i < n
   · obtain ⟨k, hk, hc, _⟩ := each i hi
     rw [bcells_get hi]
     simp only [hc, hi, if_true, Int.toNat_natCast]
   · rw [Array.getElem?_eq_none (by omega), Array.getElem?_eq_none (by rw [zbs]; omega)]
 · have hp : p = xs.flatMap (·.2) := by simpa using congrArg Prod.snd hx
   rw [hp]
   rw [List.flatMap_eq_nil_iff]
   intro x hxm
   obtain ⟨i, hi⟩ := List.getElem?_of_mem hxm
   have hin : i < n := by rw [← hxl]; exact (List.getElem?_eq_some_iff.1 hi).1
   obtain ⟨k, _, _, h2⟩ := each i hin
   rw [hi] at h2
   injection h2 with h2
   rw [h2]
 · intro w' base' spare' held'
   refine ⟨m + 1, ?_⟩
   have e1 : DataW.trod enc P w' base' spare' held' (m + 1) t (Value.agg cs).cells.toList = DataW.trod enc P w base spare held (m + 1) t (Value.agg cs).cells.toList := by
    unfold DataW.trod
    rw [ht]
    simp only [trod_int_same he w' w base' base spare' spare held' held m]
   rw [e1, hf]
   have hp : p = xs.flatMap (·.2) := by simpa using congrArg Prod.snd hx
   have : p = [] := by
    rw [hp, List.flatMap_eq_nil_iff]
    intro x hxm
    obtain ⟨i, hi⟩ := List.getElem?_of_mem hxm
    have hin : i < n := by rw [← hxl]; exact (List.getElem?_eq_some_iff.1 hi).1
    obtain ⟨k, _, _, h2⟩ := each i hin
    rw [hi] at h2
    injection h2 with h2
    rw [h2]
   rw [this]
/-- the row's last step where the call has only made new memory, and the row does not say 'again' -/
theorem post_of_below0 {f : Func} {s : ChangeSpec} {apart fresh handsOn : Bool} {W W' : World} {args : Array Value} {v : Value} {ds gs : List (DataW H)} {before pa pv : List MemPlace}
 (hW : DataW.Whole enc P f.params.toList s.vars apart W args.toList ds gs before)
 (hres : ∀ (b : Nat) (sp : Nat → Bool) (hd : Bool), DataW.TrodAll enc P W' b sp hd f.resultTypes.toList (v.resultList f.resultTypes.size) (s.fn H (ds ++ gs)).results [])
 (hargs : ∀ sp : Nat → Bool, (∀ p ∈ before, sp p.block = true) → DataW.TrodAll enc P W' 0 sp true f.params.toList args.toList (s.fn H (ds ++ gs)).args pa)
 (hvars : ∀ sp : Nat → Bool, (∀ p ∈ before, sp p.block = true) → DataW.TrodVars enc P W' sp s.vars (s.fn H (ds ++ gs)).vars pv)
 (hps : before = pa ++ pv) (hb : Below W.heap.size W W') : s.post enc P f apart fresh handsOn false W args v W' := by
 have held : ∀ p ∈ before, (fun b => decide (b < W.heap.size)) p.block = true := fun p hp => by simpa using hW.lt p hp
 refine ⟨ds, gs, before, [], pa, pv, hW, hres _ _ _, hargs _ held, hvars _ held, ?_, fun h => by cases h⟩
 refine World.keptBut_mono (fun p hp => ⟨hp, .inr ?_⟩) (hb.frame (· ∈ before))
 rw [hps, List.mem_append] at hp
 exact hp
end
end Go.Proofs.Ytgcajgmokcmcgaa
end
section
namespace Go.Proofs.Ytgcajgmokcmcgaa
open Go
def cutW : List Char := [Char.ofNat 99, Char.ofNat 117, Char.ofNat 116]
theorem strip_cut (rest : List (List Char)) : stripLifts liftWords (cutW :: rest) = ([], cutW :: rest) := by
 have key : ∀ os : List String, (os.all fun o => !(cutW == o.toList)) = true → stripLifts os (cutW :: rest) = ([], cutW :: rest) := by
  intro os
  induction os with
  | nil => intro _; rfl
  | cons o os ih =>
   intro h
   simp only [List.all_cons, Bool.and_eq_true, Bool.not_eq_true'] at h
   unfold stripLifts
   rw [h.1]
   exact ih h.2
 exact key _ (by decide +kernel)
theorem make_cut {P : Program} {rest : List (List Char)} (h : behindMainWord (wordsSigns P.initOrder.toList) = cutW :: rest) : P.make = some .cut := by
 unfold Program.make
 rw [h]
 have e1 : (cutW == "gc".toList || cutW == "spec".toList) = false := by decide +kernel
 have e2 : (cutW == "cut".toList) = true := by decide +kernel
 simp only [e1, e2, Bool.true_or]
 rfl
theorem mayEnter_cut {P : Program} {rest : List (List Char)} (h : behindMainWord (wordsSigns P.initOrder.toList) = cutW :: rest) (h1 : P.laysLater = false) (h2 : P.bearsReflect = false) (h3 : P.doorFits [] = true) : P.mayEnter = true := by
 unfold Program.mayEnter
 rw [h]
 have e2 : (some cutW == some "cut".toList) = true := by decide +kernel
 simp only [strip_cut, h1, h2, h3, List.head?_cons, e2]
 simp
theorem lifts_cut {P : Program} {rest : List (List Char)} (h : behindMainWord (wordsSigns P.initOrder.toList) = cutW :: rest) : P.liftsFinal = false := by
 unfold Program.liftsFinal Program.headLifts
 rw [h]
 have e2 : (some cutW == some "cut".toList) = true := by decide +kernel
 have e3 : (some cutW == some "carried".toList) = false := by decide +kernel
 simp only [strip_cut, List.head?_cons, e2, e3]
 simp
/-- the signs of the head, and its words behind the first three -/
def initRest : List (List Nat) := [[97, 116], [108, 111, 111, 112, 46, 101, 120, 97, 109, 112, 108, 101, 47, 103, 48, 49, 50, 52, 53, 47, 108, 97, 119, 115, 46, 70, 110, 69, 120, 97, 99, 116, 68, 105, 103, 105, 116, 115, 79, 102, 81, 117, 111, 116, 105, 101, 110, 116], [108, 111, 111, 112, 46, 101, 120, 97, 109, 112, 108, 101, 47, 103, 48, 49, 50, 52, 53, 47, 108, 97, 119, 115, 46, 70, 110, 69, 120, 97, 99, 116, 67, 111, 110, 116, 105, 110, 117, 101, 100, 70, 114, 97, 99, 116, 105, 111, 110], [108, 111, 111, 112, 46, 101, 120, 97, 109, 112, 108, 101, 47, 103, 48, 49, 50, 52, 53, 47, 108, 97, 119, 115, 46, 70, 110, 69, 120, 97, 99, 116, 67, 111, 110, 118, 101, 114, 103, 101, 110, 116, 115, 79, 102], [108, 111, 111, 112, 46, 101, 120, 97, 109, 112, 108, 101, 47, 103, 48, 49, 50, 52, 53, 47, 108, 97, 119, 115, 46, 70, 110, 69, 120, 97, 99, 116, 66, 101, 115, 116, 65, 112, 112, 114, 111, 120, 105, 109, 97, 116, 105, 111, 110], [108, 111, 111, 112, 46, 101, 120, 97, 109, 112, 108, 101, 47, 103, 48, 49, 50, 52, 53, 47, 108, 97, 119, 115, 46, 70, 110, 69, 120, 97, 99, 116, 68, 101, 103, 114, 101, 101, 115, 79, 102, 80, 97, 114, 116, 105, 97, 108, 115], [108, 111, 111, 112, 46, 101, 120, 97, 109, 112, 108, 101, 47, 103, 48, 49, 50, 52, 53, 47, 108, 97, 119, 115, 46, 70, 110, 69, 120, 97, 99, 116, 82, 111, 111, 116, 80, 97, 114, 116], [108, 111, 111, 112, 46, 101, 120, 97, 109, 112, 108, 101, 47, 103, 48, 49, 50, 52, 53, 47, 108, 97, 119, 115, 46, 70, 110, 69, 120, 97, 99, 116, 68, 105, 103, 105, 116, 115, 79, 102, 82, 111, 111, 116], [108, 111, 111, 112, 46, 101, 120, 97, 109, 112, 108, 101, 47, 103, 48, 49, 50, 52, 53, 47, 108, 97, 119, 115, 46, 70, 110, 69, 120, 97, 99, 116, 73, 115, 83, 113, 117, 97, 114, 101, 80, 111, 108, 121], [108, 111, 111, 112, 46, 101, 120, 97, 109, 112, 108, 101, 47, 103, 48, 49, 50, 52, 53, 47, 108, 97, 119, 115, 46, 70, 110, 69, 120, 97, 99, 116, 69, 120, 112, 111, 110, 101, 110, 116, 105, 97, 108, 85, 112, 84, 111], [108, 111, 111, 112, 46, 101, 120, 97, 109, 112, 108, 101, 47, 103, 48, 49, 50, 52, 53, 47, 108, 97, 119, 115, 46, 70, 110, 69, 120, 97, 99, 116, 76, 111, 103, 97, 114, 105, 116, 104, 109, 85, 112, 84, 111], [108, 111, 111, 112, 46, 101, 120, 97, 109, 112, 108, 101, 47, 103, 48, 49, 50, 52, 53, 47, 108, 97, 119, 115, 46, 70, 110, 69, 120, 97, 99, 116, 65, 99, 116, 105, 111, 110, 79, 102], [108, 111, 111, 112, 46, 101, 120, 97, 109, 112, 108, 101, 47, 103, 48, 49, 50, 52, 53, 47, 108, 97, 119, 115, 46, 70, 110, 69, 120, 97, 99, 116, 66, 105, 110, 111, 109, 105, 97, 108, 79, 102], [108, 111, 111, 112, 46, 101, 120, 97, 109, 112, 108, 101, 47, 103, 48, 49, 50, 52, 53, 47, 108, 97, 119, 115, 46, 70, 110, 69, 120, 97, 99, 116, 77, 111, 111, 114, 101, 77, 97, 116, 114, 105, 120], [108, 111, 111, 112, 46, 101, 120, 97, 109, 112, 108, 101, 47, 103, 48, 49, 50, 52, 53, 47, 108, 97, 119, 115, 46, 70, 110, 69, 120, 97, 99, 116, 68, 114, 105, 110, 102, 101, 108, 100, 65, 99, 116, 105, 111, 110], [108, 111, 111, 112, 46, 101, 120, 97, 109, 112, 108, 101, 47, 103, 48, 49, 50, 52, 53, 47, 108, 97, 119, 115, 46, 70, 110, 69, 120, 97, 99, 116, 83, 121, 109, 98, 111, 108, 83, 117, 109]]
def initSigns : List Nat := [104, 97, 114, 110, 101, 115, 115, 32, 51, 50, 51, 53, 101, 48, 99, 53, 56, 98, 54, 99, 53, 102, 55, 52, 54, 57, 57, 49, 55, 54, 102, 50, 51, 55, 102, 51, 54, 50, 100, 99, 55, 50, 50, 55, 55, 56, 54, 57, 101, 102, 50, 52, 56, 52, 99, 101, 49, 101, 55, 49, 101, 53, 48, 56, 52, 56, 50, 52, 52, 100, 101, 49, 32, 99, 117, 116] ++ initRest.flatMap fun x => 32 :: x
theorem init_split : behindMainWord (wordsSigns (initSigns.map Char.ofNat)) = cutW :: initRest.map (fun w => w.map Char.ofNat) := by kernel_rfl
theorem init_order : Try.prog.initOrder = String.ofList (initSigns.map Char.ofNat) := by kernel_rfl
theorem init_cut : behindMainWord (wordsSigns Try.prog.initOrder.toList) = cutW :: initRest.map (fun w => w.map Char.ofNat) :=
 (congrArg (fun s : String => behindMainWord (wordsSigns s.toList)) init_order).trans ((congrArg (fun l => behindMainWord (wordsSigns l)) String.toList_ofList).trans init_split)
theorem Try.laysLater : Try.prog.laysLater = false := by kernel_rfl
theorem Try.bearsReflect : Try.prog.bearsReflect = false := by kernel_rfl
theorem Try.doorFits : Try.prog.doorFits [] = true := by kernel_rfl
theorem Try.mayEnter : Try.pinned.checked.prog.mayEnter = true := mayEnter_cut init_cut Try.laysLater Try.bearsReflect Try.doorFits
theorem Try.liftsFinal : Try.pinned.checked.prog.liftsFinal = false := lifts_cut init_cut
theorem Try.make : Try.pinned.checked.prog.make = some .cut := make_cut init_cut
end Go.Proofs.Ytgcajgmokcmcgaa
end
