/-
  What the rows of this claim rest on: arrays of bytes, walks of the functions, plain mathematics.
-/
import Derived.WalkKit
import Derived.WalkSpells
import Derived.WalkLawsBesides
import Derived.Lib.Hide
import Derived.Laws.Rows
import Derived.Laws.CopyOwn
import Derived.Deep.QuietTactic
import Derived.Deep.WholeRow
import Derived.Deep.Draws
import Derived.Deep.MidRow
import Derived.Deep.CutRange
import Derived.Deep.DeepCutAuto
import Derived.Deep.RegionHeld3
import Derived.BigQuiet
import Derived.BigRegion
import Derived.Great.BuildSlice
import Derived.Test.YtelgefgphhebnaaRows
import Derived.ScopeJumps
import Derived.Laws.StructEq
import Derived.Laws.Tables
import Derived.Maps.OwnOps
import Derived.DeepKeys4
import Derived.Carry
import Derived.Test.YtelgefgphhebnaaProg
import Derived.OwnWalk
import Derived.RangeFuncNested
import Derived.RangeFuncBound
import Derived.RangeFuncCalls
import Derived.RangeFuncLeaves
import Derived.Shelf.Abstract
import Derived.Shelf.RegionOpen
import Derived.OwnWalkIn
import Derived.TacticsInMore
import Derived.LoopNIn
import Derived.LoopIn
import Derived.Deep.CutBlock
import Derived.Handy
import Derived.Laws.MakeOwn
import Derived.Deep.Slices
import Derived.OpenShut
import Derived.ProofKit
section
namespace Go.Proofs.Ytelgefgphhebnaa
open Go.RowKit
theorem pA {α : Type} (l : List α) (i : Nat) (a : α) : l.toArray.setIfInBounds i a = (l.set i a).toArray := List.setIfInBounds_toArray ..
theorem pB {α : Type} (xs : List α) (x a : α) : (x :: xs).set 0 a = a :: xs := List.set_cons_zero
theorem pC {α : Type} (xs : List α) (x a : α) (i : Nat) : (x :: xs).set (i + 1) a = x :: xs.set i a := List.set_cons_succ
/-- the cells of an array of n bytes -/
def bl (n : Nat) (f : Nat → Nat) : List Value := (List.range n).map fun i => Value.int .u8 (f i : Int)
abbrev zb (n : Nat) (f : Nat → Nat) : Array Value := (bl n f).toArray
theorem zl (n : Nat) (f : Nat → Nat) : (bl n f).length = n := by simp [bl]
theorem bl_one {n : Nat} {f : Nat → Nat} : ∀ v ∈ bl n f, v.oneCell' = true := by
 intro v hv
 simp only [bl, List.mem_map] at hv
 obtain ⟨i, _, rfl⟩ := hv
 rfl

theorem zbs (n : Nat) (f : Nat → Nat) : (zb n f).size = n := by simp [bl]
theorem bcells_get {n : Nat} {f : Nat → Nat} {i : Nat} (h : i < n) : (zb n f)[i]? = some (.int .u8 (f i : Int)) := by
 simp [bl, h]
def upd (f : Nat → Nat) (i v : Nat) : Nat → Nat := fun j => if j = i then v else f j
theorem bcells_set {n : Nat} {f : Nat → Nat} {i v : Nat} : (zb n f).setIfInBounds i (.int .u8 (v : Int)) = zb n (upd f i v) := by
 apply Array.ext
 · simp [bl]
 · intro j h1 h2
   have hj : j < n := by simpa [bl] using h2
   rw [Array.getElem_setIfInBounds (by simpa [bl] using hj)]
   by_cases e : i = j
   · subst e; simp [bl, upd]
   · have e' : ¬ j = i := fun h => e h.symm
     simp [bl, upd, e, e']
theorem upd_lt {a b : Nat → Nat} {k v : Nat} (hv : v = a k) : ∀ i, upd (fun i => if i < k then a i else b i) k v i = if i < k + 1 then a i else b i := by
 intro i; subst hv; unfold upd
 by_cases e : i = k
 · subst e; simp
 · have : (i < k + 1) ↔ i < k := by omega
   simp [e, this]
theorem zbc {n : Nat} {f g : Nat → Nat} (h : ∀ i, i < n → f i = g i) : zb n f = zb n g := by
 unfold zb bl
 congr 1
 apply List.map_congr_left
 intro i hi
 rw [h i (by simpa using hi)]
theorem bcells_one (n : Nat) (f : Nat → Nat) : (zb n f).all (·.oneCell') = true :=
 Array.all_eq_true_iff_forall_mem.2 fun v hv => bl_one v (by simpa using hv)
/-- block b holds the bytes f -/
def Blk (w : World) (b n : Nat) (t : TypeId) (f : Nat → Nat) : Prop := w.heap[b]? = some (.cells (zb n f) t (0, 0))

theorem Blk.new (w : World) (n : Nat) (t : TypeId) (f : Nat → Nat) : Blk (w.alloc (.cells (zb n f) t)) w.heap.size n t f := heap_alloc_last w _
theorem Blk.lt {w : World} {b n : Nat} {t : TypeId} {f : Nat → Nat} (h : Blk w b n t f) : b < w.heap.size := by
 unfold Blk at h
 exact (Array.getElem?_eq_some_iff.1 h).1
theorem Blk.cell {w : World} {b n : Nat} {t : TypeId} {f : Nat → Nat} (h : Blk w b n t f) {i : Nat} (hi : i < n) : w.cell? ⟨b, i, none⟩ = some (.int .u8 (f i : Int)) := by
 rw [cell_of_row _ _ _ _ _ _ h]; exact bcells_get hi
theorem Blk.frozen {w : World} {b n : Nat} {t : TypeId} {f : Nat → Nat} (h : Blk w b n t f) (i : Nat) : w.frozen? ⟨b, i, none⟩ = false := frozen_of_row _ _ _ _ _ h
theorem Blk.congr {w : World} {b n : Nat} {t : TypeId} {f g : Nat → Nat} (h : Blk w b n t f) (e : ∀ i, i < n → f i = g i) : Blk w b n t g := by
 unfold Blk at *; rw [h, zbc e]
theorem Blk.set {w : World} {b n : Nat} {t : TypeId} {f : Nat → Nat} (h : Blk w b n t f) {i v : Nat} {x : Int} (e : x = (v : Int)) : Blk (w.setCell ⟨b, i, none⟩ (.int .u8 x)) b n t (upd f i v) := by
 subst e; unfold Blk at *
 rw [heap_setCell_same _ _ _ _ _ _ h, bcells_set]
theorem Blk.setOther {w : World} {b n : Nat} {t : TypeId} {f : Nat → Nat} (h : Blk w b n t f) {a : Addr} {v : Value} (e : b ≠ a.block) : Blk (w.setCell a v) b n t f := by
 unfold Blk at *; rw [heap_setCell_other _ _ _ _ e]; exact h
theorem Blk.alloc {w : World} {b n : Nat} {t : TypeId} {f : Nat → Nat} (h : Blk w b n t f) (o : Obj) : Blk (w.alloc o) b n t f := by
 have := h.lt
 unfold Blk at *; rw [Below.heap_alloc _ _ _ this]; exact h
theorem Blk.drew {w : World} {b n : Nat} {t : TypeId} {f : Nat → Nat} (h : Blk w b n t f) : Blk w.drew b n t f := h
theorem Blk.drewN {w : World} {b n : Nat} {t : TypeId} {f : Nat → Nat} (h : Blk w b n t f) (k : Nat) : Blk (w.drewN k) b n t f := by unfold Blk at *; exact h
theorem Blk.row {w : World} {b n : Nat} {t : TypeId} {f : Nat → Nat} (h : Blk w b n t f) (g : Nat → Nat) : Blk (w.setRow b (zb n g)) b n t g := setRow_heap _ _ _ _ _ _ h
theorem Blk.rowOther {w : World} {b n : Nat} {t : TypeId} {f : Nat → Nat} (h : Blk w b n t f) {k : Nat} {cs : Array Value} (e : b ≠ k) : Blk (w.setRow k cs) b n t f := by
 unfold Blk at *; rw [setRow_other _ _ _ _ e]; exact h
theorem Blk.below {w w' : World} {B b n : Nat} {t : TypeId} {f : Nat → Nat} (h : Blk w b n t f) (hb : Below B w w') (e : b < B) : Blk w' b n t f := by
 unfold Blk at *; rw [hb.block b e]; exact h

theorem Blk.zw {w w' : World} {b n : Nat} {t : TypeId} {f : Nat → Nat} (h : Blk w b n t f) (hb : Below w.heap.size w w') : Blk w' b n t f := Blk.below h hb (Blk.lt h)
theorem Blk.range {w : World} {b n : Nat} {t : TypeId} {f : Nat → Nat} (h : Blk w b n t f) : w.rangeAt b 0 (bl n f) := by
 intro j v hv
 rw [Nat.zero_add, cell_of_row _ _ _ _ _ _ h]
 simpa using hv
theorem Blk.there {w : World} {b n : Nat} {t : TypeId} {f : Nat → Nat} (h : Blk w b n t f) : w.there b 0 n := by
 intro j hj
 rw [Nat.zero_add, h.cell hj]
 exact ⟨rfl, h.frozen j⟩

theorem below_drewN' {B : Nat} {a w : World} (h : Below B a w) (n : Nat) : Below B a (w.drewN n) := ⟨h.os, h.tape, h.output, h.size, h.block⟩

theorem zal (w : World) (o : Obj) : Below w.heap.size w (w.alloc o) := (Below.refl _ _).alloc (Nat.le_refl _) _
/-- y points to a block from N on that holds g -/
def PF (y : Value) (w : World) (N n : Nat) (t : TypeId) (g : Nat → Nat) : Prop := ∃ b, y = .pointer (some ⟨b, 0, none⟩) ∧ N ≤ b ∧ Blk w b n t g
def AF (y : Value) (w : World) (N n : Nat) (t : TypeId) : Prop := ∃ g, PF y w N n t g
theorem PF.below {y : Value} {w w' : World} {N n : Nat} {t : TypeId} {g : Nat → Nat} (h : PF y w N n t g) (hb : Below w.heap.size w w') : PF y w' N n t g := by
 obtain ⟨b, e, hN, hk⟩ := h
 exact ⟨b, e, hN, hk.zw hb⟩
theorem AF.below {y : Value} {w w' : World} {N n : Nat} {t : TypeId} (h : AF y w N n t) (hb : Below w.heap.size w w') : AF y w' N n t := by
 obtain ⟨g, h⟩ := h
 exact ⟨g, h.below hb⟩
theorem PF.af {y : Value} {w : World} {N n : Nat} {t : TypeId} {g : Nat → Nat} (h : PF y w N n t g) : AF y w N n t := ⟨g, h⟩
theorem PF.new (w : World) {N : Nat} (n : Nat) (t : TypeId) (g : Nat → Nat) (h : N ≤ w.heap.size) : PF (.pointer (some ⟨w.heap.size, 0, none⟩)) (w.alloc (.cells (zb n g) t)) N n t g := ⟨_, rfl, h, Blk.new _ _ _ _⟩
theorem PF.row {w : World} {b N n : Nat} {t : TypeId} {f : Nat → Nat} (hb : Blk w b n t f) (hN : N ≤ b) (g : Nat → Nat) : PF (.pointer (some ⟨b, 0, none⟩)) (w.setRow b (zb n g)) N n t g := ⟨b, rfl, hN, hb.row g⟩
theorem PF.rowOther {y : Value} {w : World} {b N n : Nat} {t : TypeId} {g : Nat → Nat} {cs : Array Value} (h : PF y w N n t g) (e : y ≠ .pointer (some ⟨b, 0, none⟩)) : PF y (w.setRow b cs) N n t g := by
 obtain ⟨b', e', hN, hk⟩ := h
 refine ⟨b', e', hN, hk.rowOther ?_⟩
 rintro rfl
 exact e e'
theorem AF.row {y : Value} {w : World} {b N n m : Nat} {t u : TypeId} {f g : Nat → Nat} (h : AF y w N n t) (hb : Blk w b m u f) : AF y (w.setRow b (zb m g)) N n t := by
 obtain ⟨g', b', e', hN, hk⟩ := h
 by_cases e : b' = b
 · subst e
   have h1 := hk.symm.trans hb
   simp only [Option.some.injEq, Obj.cells.injEq, and_true] at h1
   obtain ⟨h1, h2⟩ := h1
   have h3 : n = m := by have := congrArg Array.size h1; rwa [zbs, zbs] at this
   subst h3; subst h2
   exact ⟨g, b', e', hN, hk.row g⟩
 · exact ⟨g', b', e', hN, hk.rowOther e⟩
theorem PF.out {y : Value} {w : World} {N n : Nat} {t : TypeId} {g : Nat → Nat} (h : PF y w N n t g) : ∃ b, y = .pointer (some ⟨b, 0, none⟩) ∧ N ≤ b ∧ Blk w b n t g := h
theorem AF.out {y : Value} {w : World} {N n : Nat} {t : TypeId} (h : AF y w N n t) : ∃ g b, y = .pointer (some ⟨b, 0, none⟩) ∧ N ≤ b ∧ Blk w b n t g := h
theorem zr {N b : Nat} {w0 w : World} (hb : Below N w0 w) (h : N ≤ b) (cs : Array Value) : Below N w0 (w.setRow b cs) := below_setRow hb h cs

theorem acc {P : Program} {k : FuncId} {args : Array Value} {w W0 : World} {v : Ending} (h : Calls P k args w fun e w' => e = v ∧ Below w.heap.size w w') (ha : Below W0.heap.size W0 w) :
 Calls P k args w fun e w' => e = v ∧ Below w.heap.size w w' ∧ Below W0.heap.size W0 w' :=
 h.mono fun _ _ ⟨he, hb⟩ => ⟨he, hb, ha.trans (hb.mono ha.size)⟩
section
variable {P : Program}
theorem run_index_blk (t e n : Nat) (f : Nat → Nat) (k : IntKind) (i : Nat) (hu : P.underlying t = some (.array n e)) (he : P.underlying e = some (.int .u8)) (hs : (P.info? e).map (·.size) = some 1) (hi : i < n) (w : World) :
 (Instr.index t (.agg (zb n f)) (.int k (i : Int))).run P w = .ok (.int .u8 (f i : Int)) w := by
 cases hq : P.info? e with
 | none => simp [hq] at hs
 | some ie =>
  have hsz : ie.size = 1 := by simpa [hq] using hs
  have hin : (0 : Int) ≤ (i : Int) ∧ (i : Int) < (n : Int) := by omega
  have hagg : (isAgg e).run P w = .ok false w := by
   unfold isAgg
   rw [Sem.run_bind, run_underlying he w]
   rfl
  have hg : (bl n f)[i]? = some (.int .u8 (f i : Int)) := by simp [bl, hi]
  simp [Instr.index, asIntOf, Sem.run_bind, run_underlying hu, sizeOf, typeInfo, hq, hsz, part, hagg, hg]
  intro h; omega
theorem wp_load_blk {o : Oper} {a : Act} {w : World} {K : Act → World → Prop} {Q : Exit → Act → World → Prop} (ty : TypeId) (x : Operand) (ho : o.op = .load ty x)
 (b : Nat) (hx : a.eval x = .pointer (some ⟨b, 0, none⟩)) (n : Nat) (t : TypeId) (f : Nat → Nat) (hb : Blk w b n t f) (e : TypeId)
 (hu : P.underlying ty = some (.array n e)) (hi : (P.info? ty).map (·.size) = some n) (h : K (a.put o.dst (.agg (zb n f))) w) : o.wp P a w K Q :=
 wp_load_row ty x ho b hx t _ (0, 0) _ hb hu rfl (by rw [zbs]; exact hi) h
theorem zsb {o : Oper} {a : Act} {w : World} {K : Act → World → Prop} {Q : Exit → Act → World → Prop} (ty : TypeId) (x y : Operand) (ho : o.op = .store ty x y)
 (b : Nat) (n : Nat) (g : Nat → Nat) (hx : a.eval x = .pointer (some ⟨b, 0, none⟩)) (hy : a.eval y = .agg (zb n g)) (t : TypeId) (f : Nat → Nat) (hb : Blk w b n t f)
 (hi : (P.info? ty).map (·.size) = some n) (h : K (a.put o.dst undef) (w.setRow b (zb n g))) : o.wp P a w K Q :=
 wp_store_row ty x y ho b _ hx hy t _ hb (by rw [zbs]; exact hi) (by rw [zbs, zbs]) (bcells_one n g) h
theorem wpList_store_new {ops : Array Oper} {rest : List Oper} {o : Oper} {a : Act} {w : World} {Q : Exit → Act → World → Prop} (hgd : o.guard = none) (ty : TypeId) (x y : Operand) (ho : o.op = .store ty x y)
 (old : Array Value) (t : TypeId) (n : Nat) (g : Nat → Nat) (hx : a.eval x = .pointer (some ⟨w.heap.size, 0, none⟩)) (hy : a.eval y = .agg (zb n g)) (hold : old.size = n)
 (hi : (P.info? ty).map (·.size) = some n)
 (h : wpList P ops Q rest (a.put o.dst undef) (w.alloc (.cells (zb n g) t))) : wpList P ops Q (o :: rest) a (w.alloc (.cells old t)) :=
 wpList_store_row hgd ty x y ho _ _ hx hy t old (heap_alloc_last w _) (by rw [zbs]; exact hi) (by rw [zbs]; exact hold) (bcells_one n g) (by rw [World.setRow_alloc_new]; exact h)
theorem zlb {ops : Array Oper} {rest : List Oper} {o : Oper} {a : Act} {w : World} {Q : Exit → Act → World → Prop} (hgd : o.guard = none) (ty : TypeId) (x : Operand) (ho : o.op = .load ty x)
 (b : Nat) (hx : a.eval x = .pointer (some ⟨b, 0, none⟩)) (n : Nat) (t : TypeId) (f : Nat → Nat) (hb : Blk w b n t f) (e : TypeId)
 (hu : P.underlying ty = some (.array n e)) (hi : (P.info? ty).map (·.size) = some n)
 (h : wpList P ops Q rest (a.put o.dst (.agg (zb n f))) w) : wpList P ops Q (o :: rest) a w :=
 wpList_load_row hgd ty x ho b hx t _ (0, 0) _ hb hu rfl (by rw [zbs]; exact hi) h
theorem wpList_store_blk {ops : Array Oper} {rest : List Oper} {o : Oper} {a : Act} {w : World} {Q : Exit → Act → World → Prop} (hgd : o.guard = none) (ty : TypeId) (x y : Operand) (ho : o.op = .store ty x y)
 (b : Nat) (n : Nat) (g : Nat → Nat) (hx : a.eval x = .pointer (some ⟨b, 0, none⟩)) (hy : a.eval y = .agg (zb n g)) (t : TypeId) (f : Nat → Nat) (hb : Blk w b n t f)
 (hi : (P.info? ty).map (·.size) = some n)
 (h : wpList P ops Q rest (a.put o.dst undef) (w.setRow b (zb n g))) : wpList P ops Q (o :: rest) a w :=
 wpList_store_row hgd ty x y ho b _ hx hy t _ hb (by rw [zbs]; exact hi) (by rw [zbs, zbs]) (bcells_one n g) h
theorem run_loadVar_blk (w : World) (b n : Nat) (t ty e : TypeId) (f : Nat → Nat) (hb : Blk w b n t f) (hu : P.underlying ty = some (.array n e)) (hi : (P.info? ty).map (·.size) = some n) :
 (loadVar ty ⟨b, 0, none⟩).run P w = .ok (.agg (zb n f)) w :=
 run_loadVar_row w b t ty _ (0, 0) _ hb hu rfl (by rw [zbs]; exact hi)
theorem zrb {fn : Func} {p : Tmp} {ty : TypeId} (h : fn.results = #[.cell p ty]) (tmps : Array Value) (w : World) (b n : Nat) (t e : TypeId) (f : Nat → Nat)
 (hp : tmps.getD p undef = .pointer (some ⟨b, 0, none⟩)) (hb : Blk w b n t f) (hu : P.underlying ty = some (.array n e)) (hi : (P.info? ty).map (·.size) = some n) :
 (results fn tmps).run P w = .ok (.agg (zb n f)) w :=
 results_cell_row h tmps w b t _ (0, 0) _ hp hb hu rfl (by rw [zbs]; exact hi)
theorem results_bt {fn : Func} {p q : Tmp} {ty : TypeId} (h : fn.results = #[.cell p ty, .tmp q]) (tmps : Array Value) (w : World) (b n : Nat) (t e : TypeId) (f : Nat → Nat)
 (hp : tmps.getD p undef = .pointer (some ⟨b, 0, none⟩)) (hb : Blk w b n t f) (hu : P.underlying ty = some (.array n e)) (hi : (P.info? ty).map (·.size) = some n) :
 (results fn tmps).run P w = .ok (.tuple #[.agg (zb n f), tmps.getD q undef]) w := by
 have hp' : tmps[p]?.getD undef = .pointer (some ⟨b, 0, none⟩) := by simpa using hp
 simp [results, h, hp', asAddr, run_loadVar_blk w b n t ty e f hb hu hi]
end
theorem z64 : zb 64 (fun _ => 0) = #[.int .u8 0, .int .u8 0, .int .u8 0, .int .u8 0, .int .u8 0, .int .u8 0, .int .u8 0, .int .u8 0, .int .u8 0, .int .u8 0, .int .u8 0, .int .u8 0, .int .u8 0, .int .u8 0, .int .u8 0, .int .u8 0, .int .u8 0, .int .u8 0, .int .u8 0, .int .u8 0, .int .u8 0, .int .u8 0, .int .u8 0, .int .u8 0, .int .u8 0, .int .u8 0, .int .u8 0, .int .u8 0, .int .u8 0, .int .u8 0, .int .u8 0, .int .u8 0, .int .u8 0, .int .u8 0, .int .u8 0, .int .u8 0, .int .u8 0, .int .u8 0, .int .u8 0, .int .u8 0, .int .u8 0, .int .u8 0, .int .u8 0, .int .u8 0, .int .u8 0, .int .u8 0, .int .u8 0, .int .u8 0, .int .u8 0, .int .u8 0, .int .u8 0, .int .u8 0, .int .u8 0, .int .u8 0, .int .u8 0, .int .u8 0, .int .u8 0, .int .u8 0, .int .u8 0, .int .u8 0, .int .u8 0, .int .u8 0, .int .u8 0, .int .u8 0] := by rfl
attribute [irreducible] Blk PF AF bl
end Go.Proofs.Ytelgefgphhebnaa
end
section
namespace Go.Proofs.Ytelgefgphhebnaa
def okP (p : Int) : Bool := p == 2 || p == 3 || p == 5 || p == 7
def okA (p : Int) (f : Nat → Nat) : Bool := okP p && (List.range 64).all fun i => decide ((f i : Int) < p)
theorem okP_cases {p : Int} (h : okP p = true) : p = 2 ∨ p = 3 ∨ p = 5 ∨ p = 7 := by
 simp only [okP, Bool.or_eq_true, beq_iff_eq] at h
 rcases h with ((h | h) | h) | h <;> simp [h]
theorem okP_false {p : Int} (h : okP p = false) : (p == 2) = false ∧ (p == 3) = false ∧ (p == 5) = false ∧ (p == 7) = false := by
 simp only [okP, Bool.or_eq_false_iff] at h
 exact ⟨h.1.1.1, h.1.1.2, h.1.2, h.2⟩
theorem okP_le {p : Int} (h : okP p = true) : 2 ≤ p ∧ p ≤ 7 := by rcases okP_cases h with h | h | h | h <;> subst h <;> decide
theorem okA_iff {p : Int} {f : Nat → Nat} : okA p f = true ↔ okP p = true ∧ ∀ i, i < 64 → (f i : Int) < p := by
 simp [okA, List.all_eq_true]
theorem okA_lt {p : Int} {f : Nat → Nat} (h : okA p f = true) {i : Nat} (hi : i < 64) : (f i : Int) < p := (okA_iff.1 h).2 i hi
/-- the code of a list of polynomials -/
def codeL (p : Int) (fs : List (Nat → Nat)) : Int := if okP p && fs.all (okA p) then 0 else 1
/-- f cut off at 64 -/
def cut (f : Nat → Nat) : Nat → Nat := fun i => if i < 64 then f i else 0
/-- a byte -/
def byte (f : Nat → Nat) : Prop := ∀ i, f i < 256
end Go.Proofs.Ytelgefgphhebnaa
end
section
namespace Go.Proofs.Ytelgefgphhebnaa
open Go.RowKit
/-- block b holds the polynomials fs, one behind the other -/
def PolS (w : World) (b : Nat) (fs : List (Nat → Nat)) : Prop := w.heap[b]? = some (.cells ((fs.map (bl 64)).flatten).toArray 28 (0, 0))
theorem PolS.lt {w : World} {b : Nat} {fs : List (Nat → Nat)} (h : PolS w b fs) : b < w.heap.size := by
 unfold PolS at h
 exact (Array.getElem?_eq_some_iff.1 h).1
theorem PolS.below {w w' : World} {B b : Nat} {fs : List (Nat → Nat)} (h : PolS w b fs) (hb : Below B w w') (e : b < B) : PolS w' b fs := by
 unfold PolS at *; rw [hb.block b e]; exact h
theorem PolS.zw {w w' : World} {b : Nat} {fs : List (Nat → Nat)} (h : PolS w b fs) (hb : Below w.heap.size w w') : PolS w' b fs := PolS.below h hb (PolS.lt h)
theorem flat_get : ∀ (fs : List (Nat → Nat)) (i : Nat) (f : Nat → Nat) (j : Nat), fs[i]? = some f → j < 64 → ((fs.map (bl 64)).flatten)[i * 64 + j]? = some (.int .u8 (f j : Int))
 | [], _, _, _, h, _ => by simp at h
 | g :: fs, 0, f, j, h, hj => by
  simp only [List.getElem?_cons_zero, Option.some.injEq] at h
  subst h
  rw [List.map_cons, List.flatten_cons, Nat.zero_mul, Nat.zero_add, List.getElem?_append_left (by rw [zl]; exact hj)]
  simp [bl, hj]
 | g :: fs, i + 1, f, j, h, hj => by
  rw [List.map_cons, List.flatten_cons, List.getElem?_append_right (by rw [zl]; omega), zl]
  have := flat_get fs i f j (by simpa using h) hj
  rw [show (i + 1) * 64 + j - 64 = i * 64 + j by omega]
  exact this
theorem PolS.range {w : World} {b : Nat} {fs : List (Nat → Nat)} (h : PolS w b fs) {i : Nat} {f : Nat → Nat} (hi : fs[i]? = some f) : w.rangeAt b (i * 64) (bl 64 f) := by
 intro j v hv
 have hj : j < 64 := by
  have := (List.getElem?_eq_some_iff.1 hv).1
  rwa [zl] at this
 rw [cell_of_row _ _ _ _ _ _ h]
 have e : (bl 64 f)[j]? = some (.int .u8 (f j : Int)) := by simp [bl, hj]
 rw [e] at hv
 injection hv with hv
 subst hv
 simpa using flat_get fs i f j hi hj
attribute [irreducible] PolS
end Go.Proofs.Ytelgefgphhebnaa
end
section
namespace Go.Proofs.Ytelgefgphhebnaa
open Go.RowKit
theorem Try.size22 : (Try.prog.info? 22).map (·.size) = some 64 := by kernel_rfl
theorem Try.size28 : (Try.prog.info? 28).map (·.size) = some 64 := by kernel_rfl
theorem Try.size5 : (Try.prog.info? 5).map (·.size) = some 1 := by kernel_rfl
theorem Try.mixed : Try.prog.follows .mixedOrders = true := by kernel_rfl
theorem ret_int {k : IntKind} {a b : Int} (h : a = b) : Ending.returned (.int k a) = .returned (.int k b) := by rw [h]
theorem ret_bool {a b : Bool} (h : a = b) : Ending.returned (.bool a) = .returned (.bool b) := by rw [h]

theorem isPrime_any (p : Int) (w : World) : Calls Try.prog 152 #[.int .i64 p] w fun e w' => e = .returned (.bool (okP p)) ∧ w = w' := by
 cases hp : okP p with
 | true =>
  rcases okP_cases hp with rfl | rfl | rfl | rfl <;>
  · go_enter Try.func152, Try.ntmps152
    go_wp2
    go_ret
    exact ⟨rfl, rfl⟩
 | false =>
  obtain ⟨h2, h3, h5, h7⟩ := okP_false hp
  go_enter Try.func152, Try.ntmps152
  go_wp2
  go_ret
  exact ⟨rfl, rfl⟩
theorem l01Prime_any (p : Int) (w : World) : Calls Try.prog 151 #[.int .i64 p] w fun e w' => e = .returned (.bool (okP p)) ∧ w = w' := by
 cases hp : okP p with
 | true =>
  rcases okP_cases hp with rfl | rfl | rfl | rfl <;>
  · go_enter Try.func151, Try.ntmps151
    go_wp2
    go_ret
    exact ⟨rfl, rfl⟩
 | false =>
  obtain ⟨h2, h3, h5, h7⟩ := okP_false hp
  go_enter Try.func151, Try.ntmps151
  go_wp2
  go_ret
  exact ⟨rfl, rfl⟩

theorem byteOk (f : Nat → Nat) (hf : byte f) (k : Nat) : (0 : Int) ≤ (f k : Int) ∧ (f k : Int) ≤ 255 := by have := hf k; omega

set_option maxHeartbeats 800000 in
theorem IsPoly_any (p : Int) (f : Nat → Nat) (hf : byte f) (w : World) : Calls Try.prog 136 #[.int .i64 p, .agg (zb 64 f)] w fun e w' => e = .returned (.bool (okA p f)) ∧ Below w.heap.size w w' := by
 cases hp : okP p with
 | false =>
  go_enter Try.func136, Try.ntmps136
  go_wp2_with (go_at_call 152; refine (isPrime_any _ _).mono ?_; rintro e w' ⟨rfl, rfl⟩)
  go_ret
  exact ⟨ret_bool (by simp [okA, hp]), (Below.refl _ _).alloc (Nat.le_refl _) _⟩
 | true =>
  have hb := okP_le hp
  go_enter Try.func136, Try.ntmps136
  go_wp2_with (first | (go_at_call 152; refine (isPrime_any _ _).mono ?_; rintro e w' ⟨rfl, rfl⟩) | refine zlb rfl 28 _ rfl _ rfl 64 28 _ (Blk.new _ _ _ _) 5 Try.underlying28 Try.size28 ?_)
  go_loop [11] (fun i => ∃ k : Nat, k ≤ 64 ∧ (∀ j, j < k → (f j : Int) < p) ∧ i = .int .i64 (k : Int)) (fun i => 64 - (intOf i).toNat)
  case atStart => exact ⟨0, by omega, fun j hj => by omega, rfl⟩
  case round =>
   obtain ⟨k, hk, hall, rfl⟩ := hrel
   have HA := Lib.hid hall; clear hall
   by_cases hlt : k < 64
   · have hx := fun W => run_index_blk (P := Try.prog) 28 5 64 f .i64 k Try.underlying28 Try.underlying5 Try.size5 hlt W
     have hfk := byteOk f hf k
     by_cases hge : p ≤ (f k : Int)
     · go_wp2_with fail
       go_ret
       refine ⟨ret_bool ?_, (Below.refl _ _).alloc (Nat.le_refl _) _⟩
       cases h : okA p f with
       | false => rfl
       | true => have := okA_lt h hlt; omega
     · go_wp2_with fail
       go_round
       case rel =>
        refine ⟨k + 1, by omega, fun j hj => ?_, by go_num⟩
        by_cases e : j = k
        · subst e; omega
        · exact HA.out j (by omega)
       case measure => simp [intOf]; omega
   · go_wp2_with fail
     go_ret
     refine ⟨ret_bool ?_, (Below.refl _ _).alloc (Nat.le_refl _) _⟩
     exact (okA_iff.2 ⟨hp, fun i hi => HA.out i (by omega)⟩).symm

set_option maxHeartbeats 800000 in
theorem l01Is_any (p : Int) (f : Nat → Nat) (hf : byte f) (w : World) : Calls Try.prog 133 #[.int .i64 p, .agg (zb 64 f)] w fun e w' => e = .returned (.bool (okA p f)) ∧ Below w.heap.size w w' := by
 go_enter Try.func133, Try.ntmps133
 go_wp2_with fail
 go_loop [5] (fun i => ∃ k : Nat, k ≤ 64 ∧ (∀ j, j < k → (f j : Int) < p) ∧ i = .int .i64 (k : Int)) (fun i => 64 - (intOf i).toNat)
 case atStart => exact ⟨0, by omega, fun j hj => by omega, rfl⟩
 case round =>
  obtain ⟨k, hk, hall, rfl⟩ := hrel
  have HA := Lib.hid hall; clear hall
  by_cases hlt : k < 64
  · have hc := (Blk.new w 64 28 f).cell hlt
    have hfk := byteOk f hf k
    by_cases hge : p ≤ (f k : Int)
    · go_wp2_with fail
      go_ret
      refine ⟨ret_bool ?_, (Below.refl _ _).alloc (Nat.le_refl _) _⟩
      cases h : okA p f with
      | false => rfl
      | true => have := okA_lt h hlt; omega
    · go_wp2_with fail
      go_round
      case rel =>
       refine ⟨k + 1, by omega, fun j hj => ?_, by go_num⟩
       by_cases e : j = k
       · subst e; omega
       · exact HA.out j (by omega)
      case measure => simp [intOf]; omega
  · go_wp2_with (go_at_call 151; refine (l01Prime_any _ _).mono ?_; rintro e w' ⟨rfl, rfl⟩)
    go_ret
    refine ⟨ret_bool ?_, (Below.refl _ _).alloc (Nat.le_refl _) _⟩
    cases hp : okP p with
    | false => simp [okA, hp]
    | true => exact (okA_iff.2 ⟨hp, fun i hi => HA.out i (by omega)⟩).symm
end Go.Proofs.Ytelgefgphhebnaa
end
section
namespace Go.Proofs.Ytelgefgphhebnaa
open Go.RowKit
theorem codeL_p {p : Int} {fs : List (Nat → Nat)} (h : okP p = false) : codeL p fs = 1 := by simp [codeL, h]
theorem codeL_bad {p : Int} {fs : List (Nat → Nat)} {k : Nat} {f : Nat → Nat} (hk : fs[k]? = some f) (h : okA p f = false) : codeL p fs = 1 := by
 have : ¬ (fs.all (okA p) = true) := by
  rw [List.all_eq_true]
  intro h2
  have := h2 f (List.mem_of_getElem? hk)
  rw [h] at this; cases this
 simp [codeL, this]
theorem codeL_ok {p : Int} {fs : List (Nat → Nat)} (hp : okP p = true) (h : ∀ (j : Nat) (f : Nat → Nat), fs[j]? = some f → okA p f = true) : codeL p fs = 0 := by
 have : fs.all (okA p) = true := by
  rw [List.all_eq_true]
  intro f hf
  obtain ⟨j, hj⟩ := List.getElem?_of_mem hf
  exact h j f hj
 simp [codeL, hp, this]
end Go.Proofs.Ytelgefgphhebnaa
end
section
namespace Go.Proofs.Ytelgefgphhebnaa
open Go.RowKit
set_option linter.unusedVariables false
set_option maxRecDepth 100000 in
set_option maxHeartbeats 400000 in
theorem toPoly_any (f : Nat → Nat) (hf : byte f) (w : World) : Calls Try.prog 16 #[.agg (zb 64 f)] w fun e w' => e = .returned (.agg (zb 64 f)) ∧ Below w.heap.size w w' := by
 go_enter Try.func16, Try.ntmps16
 go_wp2_with fail
 rw [← z64]
 go_loopw [4] (fun i wr => ∃ k : Nat, k ≤ 64 ∧ i = .int .i64 (k : Int) ∧ Below w.heap.size w wr ∧ Blk wr w.heap.size 64 22 f ∧ Blk wr (w.heap.size + 1) 64 28 (fun _ => 0) ∧ Blk wr (w.heap.size + 1 + 1) 64 28 (fun i => if i < k then f i else 0)) (fun i _ => 64 - (intOf i).toNat)
 case atStart =>
  refine ⟨0, by omega, rfl, (((Below.refl _ _).alloc (Nat.le_refl _) _).alloc (by simp) _).alloc (by simp; omega) _, ?_, ?_, ?_⟩
  · exact (((Blk.new w _ _ _).alloc _).alloc _)
  · have := ((Blk.new (w.alloc (.cells (zb 64 f) 22)) 64 28 (fun _ => 0)).alloc (.cells (zb 64 fun _ => 0) 28)); simpa using this
  · have := (Blk.new ((w.alloc (.cells (zb 64 f) 22)).alloc (.cells (zb 64 fun _ => 0) 28)) 64 28 (fun _ => 0)); simpa using this
 case round =>
  obtain ⟨k, hk, rfl, hb, h0, h1, h2⟩ := hrel
  by_cases hlt : k < 64
  · have c4 := h0.cell hlt
    have c5 := h2.cell hlt
    have z4 := h2.frozen k
    have b1 := byteOk f hf k
    go_wp2_with fail
    go_roundw
    case rel =>
     refine ⟨k + 1, by omega, by go_num, hb.setCell (by simp; omega) _, ?_, ?_, ?_⟩
     · exact h0.setOther (by simp; omega)
     · exact h1.setOther (by simp)
     · exact (h2.set (v := f k) rfl).congr (fun i _ => upd_lt (a := f) rfl i)
    case measure => simp [intOf]; omega
  · have e : k = 64 := by omega
    subst e
    go_wp2_with (first | refine zlb rfl 28 _ rfl _ rfl 64 28 _ (h2) 5 Try.underlying28 Try.size28 ?_ | refine wpList_store_blk rfl 28 _ _ rfl _ 64 ((fun i => if i < 64 then f i else 0)) rfl rfl 28 _ (h1) Try.size28 ?_)
    refine bodyPost_ret (zrb rfl _ _ _ 64 28 5 _ rfl (h1.row _) Try.underlying28 Try.size28) rfl ⟨?_, ?_⟩
    · rw [zbc (g := f)]
      intro i hi; simp [hi]
    · exact below_setRow hb (by omega) _

set_option maxRecDepth 100000 in
set_option maxHeartbeats 400000 in
theorem eqPoly_same (f g : Nat → Nat) (hfg : ∀ i, i < 64 → f i = g i) (w : World) : Calls Try.prog 38 #[.agg (zb 64 f), .agg (zb 64 g)] w fun e w' => e = .returned (.bool true) ∧ Below w.heap.size w w' := by
 rw [zbc (fun i hi => (hfg i hi).symm)]
 go_enter Try.func38, Try.ntmps38
 go_wp2_with fail
 clear hfg
 go_loopw [5] (fun i wr => ∃ k : Nat, k ≤ 64 ∧ i = .int .i64 (k : Int) ∧ Below w.heap.size w wr ∧ Blk wr w.heap.size 64 28 f ∧ Blk wr (w.heap.size + 1) 64 28 f) (fun i _ => 64 - (intOf i).toNat)
 case atStart =>
  refine ⟨0, by omega, rfl, ((Below.refl _ _).alloc (Nat.le_refl _) _).alloc (by simp) _, (Blk.new w _ _ _).alloc _, ?_⟩
  have := Blk.new (w.alloc (.cells (zb 64 f) 28)) 64 28 f; simpa using this
 case round =>
  obtain ⟨k, hk, rfl, hb, h0, h1⟩ := hrel
  by_cases hlt : k < 64
  · have c4 := h0.cell hlt
    have c5 := h1.cell hlt
    have hk0 : (0 : Int) ≤ (k : Int) := by omega
    have hk1 : (k : Int) < 64 := by omega
    have hne : ((f k : Int) != (f k : Int)) = false := by simp
    go_wp2_with fail
    go_quiet (fail)
    go_wp2_with fail
    go_roundw
    case rel => exact ⟨k + 1, by omega, by go_num, below_drewN' hb _, h0.drewN _, h1.drewN _⟩
    case measure => simp [intOf]; omega
  · go_wp2_with fail
    go_ret
    exact ⟨rfl, hb⟩

set_option maxRecDepth 100000 in
set_option maxHeartbeats 400000 in
theorem sum_any (p : Nat) (f g : Nat → Nat) (w : World) (hp1 : 2 ≤ p) (hp2 : p ≤ 7) (hf : ∀ i, i < 64 → f i < p) (hg : ∀ i, i < 64 → g i < p) :
 Calls Try.prog 117 #[.int .i64 (p : Int), .agg (zb 64 f), .agg (zb 64 g)] w fun e w' => e = .returned (.agg (zb 64 fun i => (f i + g i) % p)) ∧ Below w.heap.size w w' := by
 go_enter Try.func117, Try.ntmps117
 go_wp2_with fail
 have HF := Lib.hid hf; clear hf
 have HG := Lib.hid hg; clear hg
 rw [← z64]
 go_loopw [8] (fun i wr => ∃ k : Nat, k ≤ 64 ∧ i = .int .i64 (k : Int) ∧ Below w.heap.size w wr ∧ Blk wr w.heap.size 64 28 (fun i => if i < k then (f i + g i) % p else f i) ∧ Blk wr (w.heap.size + 1) 64 28 g ∧ Blk wr (w.heap.size + 1 + 1) 64 28 (fun _ => 0)) (fun i _ => 64 - (intOf i).toNat)
 case atStart =>
  refine ⟨0, by omega, rfl, (((Below.refl _ _).alloc (Nat.le_refl _) _).alloc (by simp) _).alloc (by simp; omega) _, ?_, ?_, ?_⟩
  · exact (((Blk.new w _ _ _).alloc _).alloc _).congr (by simp)
  · have := ((Blk.new (w.alloc (.cells (zb 64 f) 28)) 64 28 g).alloc (.cells (zb 64 fun _ => 0) 28)); simpa using this
  · have := (Blk.new ((w.alloc (.cells (zb 64 f) 28)).alloc (.cells (zb 64 g) 28)) 64 28 (fun _ => 0)); simpa using this
 case round =>
  obtain ⟨k, hk, rfl, hb, h0, h1, h2⟩ := hrel
  by_cases hlt : k < 64
  · have c4 : wr.cell? ⟨w.heap.size, k, none⟩ = some (.int .u8 (f k : Int)) := by rw [h0.cell hlt]; simp
    have c5 := h1.cell hlt
    have z4 := h0.frozen k
    have b1 : f k < p := HF.out k hlt
    have b2 : g k < p := HG.out k hlt
    go_wp2_with fail
    go_region
    go_wp2_with fail
    go_roundw
    case rel =>
     refine ⟨k + 1, by omega, by go_num, (hb.setCell (by simp) _).drew, ?_, ?_, ?_⟩
     · exact ((h0.set (v := (f k + g k) % p) (by push_cast; rfl)).congr (fun i _ => upd_lt (a := fun i => (f i + g i) % p) rfl i)).drew
     · exact (h1.setOther (by simp)).drew
     · exact (h2.setOther (by simp; omega)).drew
    case measure => simp [intOf]; omega
  · have e : k = 64 := by omega
    subst e
    go_wp2_with (first | refine zlb rfl 28 _ rfl _ rfl 64 28 _ (h0) 5 Try.underlying28 Try.size28 ?_ | refine wpList_store_blk rfl 28 _ _ rfl _ 64 ((fun i => if i < 64 then (f i + g i) % p else f i)) rfl rfl 28 _ (h2) Try.size28 ?_)
    refine bodyPost_ret (zrb rfl _ _ _ 64 28 5 _ rfl (h2.row _) Try.underlying28 Try.size28) rfl ⟨?_, ?_⟩
    · rw [zbc (g := fun i => (f i + g i) % p)]
      intro i hi; simp [hi]
    · exact below_setRow hb (by omega) _

/-- f and k times g, modulo p -/
def addK (p : Nat) (f g : Nat → Nat) (k : Int) : Nat → Nat := fun i => (((f i : Int) + k * (g i : Int)) % (p : Int)).toNat
theorem small_mul (k : Int) (n : Nat) (hk1 : -6 ≤ k) (hk2 : k ≤ 6) (hn : n < 7) : -42 ≤ k * (n : Int) ∧ k * (n : Int) ≤ 42 := by
 have : n = 0 ∨ n = 1 ∨ n = 2 ∨ n = 3 ∨ n = 4 ∨ n = 5 ∨ n = 6 := by omega
 rcases this with h | h | h | h | h | h | h <;> subst h <;> constructor <;> omega

set_option maxRecDepth 100000 in
set_option maxHeartbeats 800000 in
theorem l01Add_any (p : Nat) (f g : Nat → Nat) (k0 : Int) (w : World) (hp1 : 2 ≤ p) (hp2 : p ≤ 7) (hk1 : -6 ≤ k0) (hk2 : k0 ≤ 6) (hf : ∀ i, i < 64 → f i < p) (hg : ∀ i, i < 64 → g i < p) :
 Calls Try.prog 80 #[.int .i64 (p : Int), .agg (zb 64 f), .agg (zb 64 g), .int .i64 k0] w fun e w' => e = .returned (.agg (zb 64 (addK p f g k0))) ∧ Below w.heap.size w w' := by
 go_enter Try.func80, Try.ntmps80
 go_wp2_with fail
 have HF := Lib.hid hf; clear hf
 have HG := Lib.hid hg; clear hg
 rw [← z64]
 go_loopw [9] (fun i wr => ∃ k : Nat, k ≤ 64 ∧ i = .int .i64 (k : Int) ∧ Below w.heap.size w wr ∧ Blk wr w.heap.size 64 28 (fun i => if i < k then addK p f g k0 i else f i) ∧ Blk wr (w.heap.size + 1) 64 28 g ∧ Blk wr (w.heap.size + 1 + 1) 64 28 (fun _ => 0)) (fun i _ => 64 - (intOf i).toNat)
 case atStart =>
  refine ⟨0, by omega, rfl, (((Below.refl _ _).alloc (Nat.le_refl _) _).alloc (by simp) _).alloc (by simp; omega) _, ?_, ?_, ?_⟩
  · exact (((Blk.new w _ _ _).alloc _).alloc _).congr (by simp)
  · have := ((Blk.new (w.alloc (.cells (zb 64 f) 28)) 64 28 g).alloc (.cells (zb 64 fun _ => 0) 28)); simpa using this
  · have := (Blk.new ((w.alloc (.cells (zb 64 f) 28)).alloc (.cells (zb 64 g) 28)) 64 28 (fun _ => 0)); simpa using this
 case round =>
  obtain ⟨k, hk, rfl, hb, h0, h1, h2⟩ := hrel
  by_cases hlt : k < 64
  · have c4 : wr.cell? ⟨w.heap.size, k, none⟩ = some (.int .u8 (f k : Int)) := by rw [h0.cell hlt]; simp
    have c5 := h1.cell hlt
    have z4 := h0.frozen k
    have b1 : f k < p := HF.out k hlt
    have b2 : g k < p := HG.out k hlt
    obtain ⟨m1, m2⟩ := small_mul k0 (g k) hk1 hk2 (by omega)
    have t1 : -(p : Int) < ((f k : Int) + k0 * (g k : Int)).tmod p := by
     have := Int.tmod_lt_of_pos (-((f k : Int) + k0 * (g k : Int))) (b := (p : Int)) (by omega)
     rw [Int.neg_tmod] at this; omega
    have t2 : ((f k : Int) + k0 * (g k : Int)).tmod p < (p : Int) := Int.tmod_lt_of_pos _ (by omega)
    have hA : Hid (((f k : Int) + k0 * (g k : Int)).tmod p % p % 256 = (addK p f g k0 k : Int)) := by
     have e1 : ((f k : Int) + k0 * (g k : Int)).tmod p % p = ((f k : Int) + k0 * (g k : Int)) % p := by rw [Int.tmod_def, Int.sub_mul_emod_self_left]
     have e2 := Int.emod_nonneg ((f k : Int) + k0 * (g k : Int)) (b := (p : Int)) (by omega)
     have e3 := Int.emod_lt_of_pos ((f k : Int) + k0 * (g k : Int)) (b := (p : Int)) (by omega)
     unfold addK
     rw [Int.toNat_of_nonneg e2, e1]
     exact Int.emod_eq_of_lt e2 (by omega)
    have hm0 : (0 : Int) ≤ ((f k : Int) + k0 * (g k : Int)).tmod p + p := by omega
    go_wp2_with fail
    go_region
    go_wp2_with fail
    go_roundw
    case rel =>
     refine ⟨k + 1, by omega, by go_num, (hb.setCell (by simp) _).drew, ?_, ?_, ?_⟩
     · exact ((h0.set (v := addK p f g k0 k) hA.out).congr (fun i _ => upd_lt (a := addK p f g k0) rfl i)).drew
     · exact (h1.setOther (by simp)).drew
     · exact (h2.setOther (by simp; omega)).drew
    case measure => simp [intOf]; omega
  · have e : k = 64 := by omega
    subst e
    go_wp2_with (first | refine zlb rfl 28 _ rfl _ rfl 64 28 _ (h0) 5 Try.underlying28 Try.size28 ?_ | refine wpList_store_blk rfl 28 _ _ rfl _ 64 ((fun i => if i < 64 then addK p f g k0 i else f i)) rfl rfl 28 _ (h2) Try.size28 ?_)
    refine bodyPost_ret (zrb rfl _ _ _ 64 28 5 _ rfl (h2.row _) Try.underlying28 Try.size28) rfl ⟨?_, ?_⟩
    · rw [zbc (g := addK p f g k0)]
      intro i hi; simp [hi]
    · exact below_setRow hb (by omega) _
end Go.Proofs.Ytelgefgphhebnaa
end
section
namespace Go.Proofs.Ytelgefgphhebnaa
open Go.RowKit
set_option linter.unusedVariables false
theorem codeL_two (p : Int) (fs : List (Nat → Nat)) : codeL p fs = 0 ∨ codeL p fs = 1 := by
 unfold codeL; split <;> simp
theorem codeL_zero {p : Int} {fs : List (Nat → Nat)} (h : codeL p fs = 0) : okP p = true ∧ ∀ f ∈ fs, okA p f = true := by
 unfold codeL at h
 split at h
 · rename_i h'
   simpa [List.all_eq_true] using h'
 · cases h
theorem addK_one (p : Nat) (f g : Nat → Nat) : addK p f g 1 = fun i => (f i + g i) % p := by
 funext i; unfold addK
 rw [Int.one_mul, ← Int.natCast_add, ← Int.natCast_emod, Int.toNat_natCast]
end Go.Proofs.Ytelgefgphhebnaa
end
section
namespace Go.Proofs.Ytelgefgphhebnaa
open Go.RowKit
set_option linter.unusedVariables false
theorem okP_nat {p : Int} (h : okP p = true) : ∃ n : Nat, p = (n : Int) ∧ 2 ≤ n ∧ n ≤ 7 := by
 have := okP_le h
 exact ⟨p.toNat, by omega, by omega, by omega⟩
def degB (f : Nat → Nat) : Nat → Int
 | 0 => -1
 | n + 1 => if f n ≠ 0 then (n : Int) else degB f n
def deg (f : Nat → Nat) : Int := degB f 64
theorem degB_step {f : Nat → Nat} {k : Nat} (h : f k = 0) : degB f (k + 1) = degB f k := by simp [degB, h]
theorem degB_hit {f : Nat → Nat} {k : Nat} (h : f k ≠ 0) : degB f (k + 1) = (k : Int) := by simp [degB, h]
set_option maxHeartbeats 400000 in
theorem degree_any (f : Nat → Nat) (w : World) :
 Calls Try.prog 77 #[.agg (zb 64 f)] w fun e w' => e = .returned (.int .i64 (deg f)) ∧ Below w.heap.size w w' := by
 go_enter Try.func77, Try.ntmps77
 go_wp2_with fail
 go_loop [3] (fun i => ∃ k : Nat, k ≤ 64 ∧ degB f 64 = degB f k ∧ i = .int .i64 ((k : Int) - 1)) (fun i => (intOf i + 1).toNat)
 case atStart => exact ⟨64, by omega, rfl, by rfl⟩
 case round =>
  obtain ⟨k, hk, hd, rfl⟩ := hrel
  have hD := Lib.hid hd; clear hd
  rcases k with _ | k
  · go_wp2
    go_ret
    exact ⟨ret_int (by rw [deg, hD.out]; rfl), (Below.refl _ _).alloc (Nat.le_refl _) _⟩
  · have hc := (Blk.new w 64 28 f).cell (i := k) (by omega)
    have e1 : ((k + 1 : Nat) : Int) - 1 = (k : Int) := by omega
    rw [e1]
    by_cases h0 : f k = 0
    · have hb : ((f k : Int) != 0) = false := by simp [h0]
      go_wp2
      go_round
      case rel => exact ⟨k, by omega, by rw [hD.out, degB_step h0], by go_num⟩
      case measure => simp [intOf]
    · have hb : ((f k : Int) != 0) = true := by simpa using h0
      go_wp2
      go_ret
      exact ⟨ret_int (by rw [deg, hD.out, degB_hit h0]), (Below.refl _ _).alloc (Nat.le_refl _) _⟩
set_option maxHeartbeats 400000 in
theorem l01Deg_any (f : Nat → Nat) (w : World) :
 Calls Try.prog 106 #[.agg (zb 64 f)] w fun e w' => e = .returned (.int .i64 (deg f)) ∧ Below w.heap.size w w' := by
 go_enter Try.func106, Try.ntmps106
 go_wp2_with fail
 go_loop [3] (fun i => ∃ k : Nat, k ≤ 64 ∧ degB f 64 = degB f k ∧ i = .int .i64 ((k : Int) - 1)) (fun i => (intOf i + 1).toNat)
 case atStart => exact ⟨64, by omega, rfl, by rfl⟩
 case round =>
  obtain ⟨k, hk, hd, rfl⟩ := hrel
  have hD := Lib.hid hd; clear hd
  rcases k with _ | k
  · go_wp2
    go_ret
    exact ⟨ret_int (by rw [deg, hD.out]; rfl), (Below.refl _ _).alloc (Nat.le_refl _) _⟩
  · have hc := (Blk.new w 64 28 f).cell (i := k) (by omega)
    have e1 : ((k + 1 : Nat) : Int) - 1 = (k : Int) := by omega
    rw [e1]
    by_cases h0 : f k = 0
    · have hb : ((f k : Int) == 0) = true := by simp [h0]
      go_wp2
      go_round
      case rel => exact ⟨k, by omega, by rw [hD.out, degB_step h0], by go_num⟩
      case measure => simp [intOf]
    · have hb : ((f k : Int) == 0) = false := by simpa using h0
      go_wp2
      go_ret
      exact ⟨ret_int (by rw [deg, hD.out, degB_hit h0]), (Below.refl _ _).alloc (Nat.le_refl _) _⟩
end Go.Proofs.Ytelgefgphhebnaa
end
section
namespace Go.Proofs.Ytelgefgphhebnaa
open Go.RowKit
set_option linter.unusedVariables false
theorem degB_spec (f : Nat → Nat) : ∀ k, (degB f k = -1 ∧ ∀ j, j < k → f j = 0) ∨ ∃ d, d < k ∧ degB f k = (d : Int) ∧ f d ≠ 0 ∧ ∀ j, d < j → j < k → f j = 0
 | 0 => .inl ⟨rfl, fun j hj => by omega⟩
 | k + 1 => by
  by_cases h : f k = 0
  · rw [degB_step h]
    rcases degB_spec f k with ⟨e, hz⟩ | ⟨d, hd, e, hne, hz⟩
    · refine .inl ⟨e, fun j hj => ?_⟩
      by_cases hj2 : j = k
      · rw [hj2]; exact h
      · exact hz j (by omega)
    · refine .inr ⟨d, by omega, e, hne, fun j h1 h2 => ?_⟩
      by_cases hj2 : j = k
      · rw [hj2]; exact h
      · exact hz j h1 (by omega)
  · exact .inr ⟨k, by omega, degB_hit h, h, fun j h1 h2 => by omega⟩
theorem deg_spec (f : Nat → Nat) : (deg f = -1 ∧ ∀ j, j < 64 → f j = 0) ∨ ∃ d : Nat, d < 64 ∧ deg f = (d : Int) ∧ f d ≠ 0 ∧ ∀ j : Nat, d < j → j < 64 → f j = 0 := degB_spec f 64
end Go.Proofs.Ytelgefgphhebnaa
end
section
namespace Go.Proofs.Ytelgefgphhebnaa
open Go.RowKit
set_option linter.unusedVariables false
/-- digit i of n at base p -/
def dgt (p n i : Nat) : Nat := n / p ^ i % p
def ofN (p : Nat) (n : Nat) : Nat → Nat := fun i => dgt p n i
end Go.Proofs.Ytelgefgphhebnaa
end
section
namespace Go.Proofs.Ytelgefgphhebnaa
open Go.RowKit
set_option linter.unusedVariables false
theorem small_nat_mul {a b p : Nat} (hp : p ≤ 7) (ha : a < p) (hb : b < p) : (a : Int) * (b : Int) ≤ 36 ∧ 0 ≤ (a : Int) * (b : Int) := by
 refine ⟨?_, Int.mul_nonneg (by omega) (by omega)⟩
 have : a * b ≤ 6 * 6 := Nat.mul_le_mul (by omega) (by omega)
 have h : ((a * b : Nat) : Int) ≤ 36 := by omega
 rwa [Int.natCast_mul] at h
end Go.Proofs.Ytelgefgphhebnaa
end
section
namespace Go.Proofs.Ytelgefgphhebnaa
/-- the coefficient at k of the product, after the rows below i -/
def cv (p : Nat) (f g : Nat → Nat) : Nat → Nat → Nat
 | 0, _ => 0
 | i + 1, k => (cv p f g i k + (if i ≤ k then f i * g (k - i) else 0)) % p
theorem cv_zero (p : Nat) (f g : Nat → Nat) (k : Nat) : cv p f g 0 k = 0 := rfl
theorem cv_succ (p : Nat) (f g : Nat → Nat) (i k : Nat) : cv p f g (i + 1) k = (cv p f g i k + (if i ≤ k then f i * g (k - i) else 0)) % p := rfl
theorem cv_lt (p : Nat) (f g : Nat → Nat) (hp : 0 < p) (i k : Nat) : cv p f g i k < p := by
 cases i with
 | zero => exact hp
 | succ i => exact Nat.mod_lt _ hp
theorem cv_same {p : Nat} {f g : Nat → Nat} (hp : 0 < p) {i k : Nat} (h : i ≤ k → f i * g (k - i) = 0) : cv p f g (i + 1) k = cv p f g i k := by
 rw [cv_succ]
 have : (if i ≤ k then f i * g (k - i) else 0) = 0 := by
  by_cases hik : i ≤ k
  · rw [if_pos hik, h hik]
  · rw [if_neg hik]
 rw [this, Nat.add_zero, Nat.mod_eq_of_lt (cv_lt p f g hp i k)]
theorem cv_hit {p : Nat} {f g : Nat → Nat} (i j : Nat) : cv p f g (i + 1) (i + j) = (cv p f g i (i + j) + f i * g j) % p := by
 rw [cv_succ, if_pos (by omega), show i + j - i = j by omega]
/-- the state inside row i, behind j cells -/
def cvr (p : Nat) (f g : Nat → Nat) (i j : Nat) : Nat → Nat := fun k => if i ≤ k ∧ k < i + j then cv p f g (i + 1) k else cv p f g i k
theorem cvr_zero (p : Nat) (f g : Nat → Nat) (i k : Nat) : cvr p f g i 0 k = cv p f g i k := by
 unfold cvr; rw [if_neg (by omega)]
theorem cvr_at (p : Nat) (f g : Nat → Nat) (i j : Nat) : cvr p f g i j (i + j) = cv p f g i (i + j) := by
 unfold cvr; rw [if_neg (by omega)]
theorem cvr_next (p : Nat) (f g : Nat → Nat) (i j : Nat) : ∀ k, upd (cvr p f g i j) (i + j) (cv p f g (i + 1) (i + j)) k = cvr p f g i (j + 1) k := by
 intro k
 unfold upd cvr
 by_cases h : k = i + j
 · subst h; rw [if_pos rfl, if_pos (by omega)]
 · rw [if_neg h]
   by_cases h2 : i ≤ k ∧ k < i + j
   · rw [if_pos h2, if_pos (by omega)]
   · rw [if_neg h2, if_neg (by omega)]
theorem cvr_full {p : Nat} {f g : Nat → Nat} (hp : 0 < p) {i m : Nat} (hg : ∀ j, m ≤ j → g j = 0) (k : Nat) : cvr p f g i m k = cv p f g (i + 1) k := by
 unfold cvr
 by_cases h : i ≤ k ∧ k < i + m
 · rw [if_pos h]
 · rw [if_neg h]
   symm
   apply cv_same hp
   intro hik
   rw [hg (k - i) (by omega), Nat.mul_zero]
theorem cv_skip {p : Nat} {f g : Nat → Nat} (hp : 0 < p) {i : Nat} (hf : f i = 0) (k : Nat) : cv p f g (i + 1) k = cv p f g i k :=
 cv_same hp (fun _ => by rw [hf, Nat.zero_mul])
theorem cv_stop {p : Nat} {f g : Nat → Nat} (hp : 0 < p) {n : Nat} (hf : ∀ i, n ≤ i → f i = 0) (k : Nat) : ∀ d, cv p f g (n + d) k = cv p f g n k
 | 0 => rfl
 | d + 1 => by
  rw [show n + (d + 1) = (n + d) + 1 by omega, cv_skip hp (hf _ (by omega)), cv_stop hp hf k d]
/-- the product -/
def prd (p : Nat) (f g : Nat → Nat) : Nat → Nat := fun k => cv p (cut f) (cut g) 64 k
theorem zcz (f : Nat → Nat) {i : Nat} (h : 64 ≤ i) : cut f i = 0 := by unfold cut; rw [if_neg (by omega)]
theorem cut_in (f : Nat → Nat) {i : Nat} (h : i < 64) : cut f i = f i := by unfold cut; rw [if_pos h]
theorem prd_rows {p : Nat} {f g : Nat → Nat} (hp : 0 < p) {n : Nat} (hn : n ≤ 64) (hf : ∀ i, n ≤ i → i < 64 → f i = 0) (k : Nat) : prd p f g k = cv p (cut f) (cut g) n k := by
 have := cv_stop (f := cut f) (g := cut g) hp (n := n) (fun i hi => by
  by_cases h : i < 64
  · rw [cut_in f h]; exact hf i hi h
  · exact zcz f (by omega)) k (64 - n)
 rw [show n + (64 - n) = 64 by omega] at this
 exact this
end Go.Proofs.Ytelgefgphhebnaa
end
section
namespace Go.Proofs.Ytelgefgphhebnaa
open Go.RowKit
set_option linter.unusedVariables false
attribute [local irreducible] deg
theorem Try.size151 : (Try.prog.info? 151).map (·.size) = some 128 := by kernel_rfl
theorem zero128 : zb 128 (fun _ => 0) = Try.zeroCells151 := by simp only [zb, bl]; kernel_rfl
set_option maxRecDepth 100000 in
set_option maxHeartbeats 3200000 in
theorem wideProduct_any (p : Nat) (f g : Nat → Nat) (w : World) (hp1 : 2 ≤ p) (hp2 : p ≤ 7) (hf : ∀ i, i < 64 → f i < p) (hg : ∀ i, i < 64 → g i < p) :
 Calls Try.prog 149 #[.int .i64 (p : Int), .agg (zb 64 f), .agg (zb 64 g)] w fun e w' => e = .returned (.agg (zb 128 (prd p f g))) ∧ Below w.heap.size w w' := by
 obtain ⟨n, hn, hdn, hfz⟩ : ∃ n : Nat, n ≤ 64 ∧ deg f + 1 = (n : Int) ∧ ∀ i, n ≤ i → i < 64 → f i = 0 := by
  rcases deg_spec f with ⟨e, hz⟩ | ⟨d, hd, e, hne, hz⟩
  · exact ⟨0, by omega, by rw [e]; rfl, fun i _ h => hz i h⟩
  · exact ⟨d + 1, by omega, by rw [e]; push_cast; rfl, fun i h1 h2 => hz i (by omega) h2⟩
 obtain ⟨m, hm, hdm, hgz⟩ : ∃ m : Nat, m ≤ 64 ∧ deg g + 1 = (m : Int) ∧ ∀ i, m ≤ i → i < 64 → g i = 0 := by
  rcases deg_spec g with ⟨e, hz⟩ | ⟨d, hd, e, hne, hz⟩
  · exact ⟨0, by omega, by rw [e]; rfl, fun i _ h => hz i h⟩
  · exact ⟨d + 1, by omega, by rw [e]; push_cast; rfl, fun i h1 h2 => hz i (by omega) h2⟩
 have hdgb1 : 0 ≤ deg g + 1 := by omega
 have hdgb2 : deg g + 1 ≤ 64 := by omega
 have hdfb1 : 0 ≤ deg f + 1 := by omega
 have hdfb2 : deg f + 1 ≤ 64 := by omega
 have HF := Lib.hid hf; clear hf
 have HG := Lib.hid hg; clear hg
 have HFZ := Lib.hid hfz; clear hfz
 have HGZ := Lib.hid hgz; clear hgz
 go_enter Try.func149, Try.ntmps149
 have HN := Lib.hid hdn; have HM := Lib.hid hdm; clear hdn hdm
 go_upto_region 2 with (fail)
 rw [← zero128]
 obtain ⟨wo, hwo⟩ : ∃ wo : World, wo = (((w.alloc (.cells (zb 64 f) 28)).alloc (.cells (zb 64 g) 28)).alloc (.cells (zb 128 fun _ => 0) 151)).alloc (.cells (zb 128 fun _ => 0) 151) := ⟨_, rfl⟩
 have b0 : Blk wo w.heap.size 64 28 f := by subst hwo; exact (((Blk.new w _ _ _).alloc _).alloc _).alloc _
 have b1 : Blk wo (w.heap.size + 1) 64 28 g := by subst hwo; have := ((Blk.new (w.alloc (.cells (zb 64 f) 28)) 64 28 g).alloc (.cells (zb 128 fun _ => 0) 151)).alloc (.cells (zb 128 fun _ => 0) 151); simpa using this
 have b2 : Blk wo (w.heap.size + 1 + 1) 128 151 (fun _ => 0) := by subst hwo; have := (Blk.new ((w.alloc (.cells (zb 64 f) 28)).alloc (.cells (zb 64 g) 28)) 128 151 (fun _ => 0)).alloc (.cells (zb 128 fun _ => 0) 151); simpa using this
 have b3 : Blk wo (w.heap.size + 1 + 1 + 1) 128 151 (fun _ => 0) := by subst hwo; have := (Blk.new (((w.alloc (.cells (zb 64 f) 28)).alloc (.cells (zb 64 g) 28)).alloc (.cells (zb 128 fun _ => 0) 151)) 128 151 (fun _ => 0)); simpa using this
 have hb : Below w.heap.size w wo := by subst hwo; exact ((((Below.refl _ _).alloc (Nat.le_refl _) _).alloc (by simp) _).alloc (by simp; omega) _).alloc (by simp; omega) _
 rw [← hwo]
 clear hwo
 have ha : Below wo.heap.size wo wo := Below.refl _ _
 go_wp2_with (first | refine zlb rfl 28 _ rfl _ rfl 64 28 _ (b1.below (by assumption) b1.lt) 5 Try.underlying28 Try.size28 ?_ | refine zlb rfl 28 _ rfl _ rfl 64 28 _ (b0.below (by assumption) b0.lt) 5 Try.underlying28 Try.size28 ?_ | (go_at_call 77; refine (acc (degree_any _ _) (by assumption)).mono ?_; rintro e w1 ⟨rfl, h1, ha⟩))
 have hgm : deg g = (m : Int) - 1 := by have := HM.out; omega
 rw [HN.out, hgm]
 clear hgm hdgb1 hdgb2 hdfb1 hdfb2
 replace hb := hb.trans (ha.mono hb.size)
 replace b0 := b0.zw ha
 replace b1 := b1.zw ha
 replace b2 := b2.zw ha
 replace b3 := b3.zw ha
 clear ha h1
 go_loopw [16] (fun c wr => ∃ i : Nat, i ≤ n ∧ c = .int .i64 (i : Int) ∧ Below w.heap.size w wr ∧ Blk wr w.heap.size 64 28 f ∧ Blk wr (w.heap.size + 1) 64 28 g ∧ Blk wr (w.heap.size + 1 + 1) 128 151 (fun _ => 0) ∧ Blk wr (w.heap.size + 1 + 1 + 1) 128 151 (cv p (cut f) (cut g) i)) (fun c _ => n - (intOf c).toNat)
 case atStart => exact ⟨0, by omega, rfl, hb, b0, b1, b2, b3.congr (fun k _ => by rw [cv_zero])⟩
 case round =>
  clear hb b0 b1 b2 b3
  obtain ⟨i, hi, rfl, hb, b0, b1, b2, b3⟩ := hrel
  by_cases hlt : i < n
  · go_wp2_with fail
    obtain ⟨wi, rfl⟩ : ∃ v : World, v = wr := ⟨_, rfl⟩
    have b3' := b3.congr (fun k _ => (cvr_zero p (cut f) (cut g) i k).symm)
    clear b3
    go_loopw [21] (fun c wr => ∃ j : Nat, j ≤ m ∧ c = .int .i64 (j : Int) ∧ Below w.heap.size w wr ∧ Blk wr w.heap.size 64 28 f ∧ Blk wr (w.heap.size + 1) 64 28 g ∧ Blk wr (w.heap.size + 1 + 1) 128 151 (fun _ => 0) ∧ Blk wr (w.heap.size + 1 + 1 + 1) 128 151 (cvr p (cut f) (cut g) i j)) (fun c _ => m - (intOf c).toNat)
    case atStart => exact ⟨0, by omega, rfl, hb, b0, b1, b2, b3'⟩
    case round =>
     clear hb b0 b1 b2 b3'
     obtain ⟨j, hj, rfl, hb, b0, b1, b2, b3⟩ := hrel
     by_cases hltj : j < m
     · have c0 := b0.cell (i := i) (by omega)
       have c1 := b1.cell (i := j) (by omega)
       have c3 : wr.cell? ⟨w.heap.size + 1 + 1 + 1, i + j, none⟩ = some (.int .u8 (cv p (cut f) (cut g) i (i + j) : Int)) := by rw [b3.cell (by omega), cvr_at]
       have z3 := b3.frozen (i + j)
       have hij : ((i : Int) + (j : Int)).toNat = i + j := by omega
       have v1 : f i < p := HF.out i (by omega)
       have v2 : g j < p := HG.out j (by omega)
       have v3 := cv_lt p (cut f) (cut g) (by omega) i (i + j)
       obtain ⟨m1, m2⟩ := small_nat_mul hp2 v1 v2
       have HE := Lib.hid (show (cv p (cut f) (cut g) (i + 1) (i + j) : Int) = ((cv p (cut f) (cut g) i (i + j) : Int) + (f i : Int) * (g j : Int)) % (p : Int) by rw [cv_hit, cut_in f (by omega), cut_in g (by omega)]; push_cast; rfl)
       go_wp2_with fail
       go_region
       go_wp2_with fail
       go_roundw
       case rel =>
        refine ⟨j + 1, by omega, by go_num, (hb.setCell (by simp; omega) _).drew, (b0.setOther (by simp <;> omega)).drew, (b1.setOther (by simp <;> omega)).drew, (b2.setOther (by simp <;> omega)).drew, ?_⟩
        exact ((b3.set (v := cv p (cut f) (cut g) (i + 1) (i + j)) HE.out.symm).congr (fun k _ => cvr_next p (cut f) (cut g) i j k)).drew
       case measure => simp [intOf] <;> omega
     · have e : j = m := by omega
       subst e
       go_wp2_with fail
       go_roundw
       case rel =>
        refine ⟨i + 1, by omega, by go_num, hb, b0, b1, b2, b3.congr (fun k _ => cvr_full (by omega) (fun q hq => ?_) k)⟩
        by_cases h64 : q < 64
        · rw [cut_in g h64]; exact HGZ.out q hq h64
        · exact zcz g (by omega)
       case measure => simp [intOf] <;> omega
  · have e : i = n := by omega
    subst e
    go_wp2_with (first | refine zlb rfl 151 _ rfl _ rfl 128 151 _ (b3) 5 Try.underlying151 Try.size151 ?_ | refine wpList_store_blk rfl 151 _ _ rfl _ 128 (_) rfl rfl 151 _ (b2) Try.size151 ?_)
    refine bodyPost_ret (zrb rfl _ _ _ 128 151 5 _ rfl (b2.row _) Try.underlying151 Try.size151) rfl ⟨?_, below_setRow hb (by omega) _⟩
    rw [zbc (fun k _ => prd_rows (by omega) hn HFZ.out k)]
end Go.Proofs.Ytelgefgphhebnaa
end
section
namespace Go.Proofs.Ytelgefgphhebnaa
open Go.RowKit
def setL (L : Nat → Bool) (i : Nat) : Nat → Bool := fun j => if j = i then true else L j
def updV (v : Nat → Value) (i : Nat) (y : Value) : Nat → Value := fun j => if j = i then y else v j
/-- the frame a0 with the value v i laid into the slot of operation i, for each i -/
def frL (a0 : Act) : List Oper → Nat → (Nat → Value) → Act
 | [], _, _ => a0
 | o :: os, k, v => frL (a0.put o.dst (v k)) os (k + 1) v
def fr (a0 : Act) (ops : Array Oper) (v : Nat → Value) : Act := frL a0 ops.toList 0 v

/-- all later edges lead back; no slot is written twice -/
def edgesOk (ops : Array Oper) : Bool := (List.range ops.size).all fun i => (ops[i]?.map fun o => o.after.all fun e => !Region.binds .any e || decide (e.on < i)).getD true
def dstsOkL : List Oper → Bool
 | [] => true
 | o :: os => (match o.dst with | none => true | some d => os.all fun q => q.dst != some d) && dstsOkL os
theorem put_comm {a : Act} {d e : Option Tmp} {x y : Value} (h : d = none ∨ d ≠ e) : (a.put d x).put e y = (a.put e y).put d x := by
 cases d with
 | none => cases e <;> rfl
 | some d =>
  cases e with
  | none => rfl
  | some e =>
   have hne : d ≠ e := by
    rcases h with h | h
    · cases h
    · exact fun h' => h (by rw [h'])
   simp only [Act.put]
   congr 1
   apply Array.ext_getElem?
   intro j
   simp only [Array.getElem?_setIfInBounds, Array.size_setIfInBounds]
   by_cases h1 : e = j <;> by_cases h2 : d = j <;> simp_all
theorem put_twice {a : Act} {d : Option Tmp} {x y : Value} : (a.put d x).put d y = a.put d y := by
 cases d with
 | none => rfl
 | some d => simp [Act.put]
theorem frL_congr : ∀ (os : List Oper) (a0 : Act) (k : Nat) (v v' : Nat → Value), (∀ j, k ≤ j → v j = v' j) → frL a0 os k v = frL a0 os k v'
 | [], _, _, _, _, _ => rfl
 | o :: os, a0, k, v, v', h => by
  simp only [frL]
  rw [h k (Nat.le_refl _)]
  exact frL_congr os _ (k + 1) v v' fun j hj => h j (by omega)
theorem frL_put : ∀ (os : List Oper) (a0 : Act) (k : Nat) (v : Nat → Value) (d : Option Tmp) (y : Value), (d = none ∨ os.all (fun q => q.dst != d) = true) → (frL a0 os k v).put d y = frL (a0.put d y) os k v
 | [], _, _, _, _, _, _ => rfl
 | o :: os, a0, k, v, d, y, h => by
  simp only [frL]
  have h' : d = none ∨ os.all (fun q => q.dst != d) = true := by
   rcases h with h | h
   · exact .inl h
   · simp only [List.all_cons, Bool.and_eq_true] at h; exact .inr h.2
  rw [frL_put os _ (k + 1) v d y h']
  congr 1
  rcases h with h | h
  · subst h; rfl
  · simp only [List.all_cons, Bool.and_eq_true] at h
    have : o.dst ≠ d := by simpa using h.1
    exact put_comm (.inr this)
theorem frL_step : ∀ (os : List Oper) (a0 : Act) (k : Nat) (v : Nat → Value) (i : Nat) (o : Oper) (y : Value), dstsOkL os = true → os[i]? = some o → (frL a0 os k v).put o.dst y = frL a0 os k (updV v (k + i) y)
 | [], _, _, _, _, _, _, _, h => by simp at h
 | p :: os, a0, k, v, 0, o, y, hd, h => by
  simp only [List.getElem?_cons_zero, Option.some.injEq] at h
  subst h
  simp only [dstsOkL, Bool.and_eq_true] at hd
  have h' : p.dst = none ∨ os.all (fun q => q.dst != p.dst) = true := by
   cases hp : p.dst with
   | none => exact .inl rfl
   | some d => right; have := hd.1; rw [hp] at this; exact this
  simp only [frL, Nat.add_zero]
  rw [frL_put os _ (k + 1) v p.dst y h', put_twice]
  have : updV v k y k = y := by simp [updV]
  rw [this]
  exact frL_congr os _ (k + 1) _ _ fun j hj => by simp [updV, show j ≠ k by omega]
 | p :: os, a0, k, v, i + 1, o, y, hd, h => by
  simp only [dstsOkL, Bool.and_eq_true] at hd
  simp only [List.getElem?_cons_succ] at h
  simp only [frL]
  rw [frL_step os _ (k + 1) v i o y hd.2 h]
  have e1 : updV v (k + (i + 1)) y k = v k := by simp [updV]
  have e2 : k + 1 + i = k + (i + 1) := by omega
  rw [e1, e2]
theorem put_self {a : Act} {d : Option Tmp} : (a.put d ((d.map fun t => a.tmps.getD t undef).getD undef)) = a := by
 cases d with
 | none => rfl
 | some d =>
  simp only [Act.put, Option.map_some, Option.getD_some]
  cases a with
  | mk t ds =>
   congr 1
   apply Array.ext_getElem?
   intro j
   simp only [Array.getElem?_setIfInBounds]
   by_cases h : d = j
   · subst h
     by_cases hs : d < t.size <;> simp [hs]
   · simp [h]
theorem frL_start : ∀ (os : List Oper) (a0 : Act) (k : Nat) (v : Nat → Value), (∀ i o, os[i]? = some o → v (k + i) = ((o.dst.map fun t => a0.tmps.getD t undef).getD undef)) → frL a0 os k v = a0
 | [], _, _, _, _ => rfl
 | o :: os, a0, k, v, h => by
  simp only [frL]
  have h0 := h 0 o rfl
  rw [Nat.add_zero] at h0
  rw [h0, put_self]
  exact frL_start os a0 (k + 1) v fun i p hp => by
   have := h (i + 1) p (by simpa using hp)
   rw [show k + 1 + i = k + (i + 1) by omega]
   exact this
section
variable {P : Program} {ops : Array Oper} {Q : Exit → Act → World → Prop}
/-- what is asked of operation i -/
def StepOk (P : Program) (ops : Array Oper) (Q : Exit → Act → World → Prop) (a0 : Act) (Ψ : (Nat → Bool) → (Nat → Value) → World → Prop) (i : Nat) (o : Oper) : Prop :=
 ∀ (L : Nat → Bool) (v : Nat → Value) (w : World), (∀ e, e ∈ o.after → Region.binds .any e = true → L e.on = true) →
  (∀ j p, ops[j]? = some p → L j = true → ∀ e, e ∈ p.after → Region.binds .any e = true → e.on ≠ i) → Ψ L v w →
  ∀ K : Act → World → Prop, (∀ a' y w', a' = (fr a0 ops v).put o.dst y → Ψ (setL L i) (updV v i y) w' → K a' w') →
   if Region.wanted o (yielded ops (fr a0 ops v).tmps) = true then Oper.wp P o (fr a0 ops v) w K Q else K ((fr a0 ops v).put o.dst undef) w

theorem zdq {A : Array Edge} {L : Nat → Bool} (hd : ∀ e, e ∈ A → Region.binds .any e = true → L e.on = true) (i : Nat) (h : A.toList.any (fun e => e.on == i && Region.binds .any e) = true) : L i = true := by
 obtain ⟨e, he, h2⟩ := List.any_eq_true.1 h
 simp only [Bool.and_eq_true, beq_iff_eq] at h2
 rw [← h2.1]
 exact hd e (by simpa using he) h2.2
theorem wpAny_inv {a0 : Act} {Ψ : (Nat → Bool) → (Nat → Value) → World → Prop} (hd : dstsOkL ops.toList = true) (he : edgesOk ops = true)
 (hstep : ∀ i o, ops[i]? = some o → StepOk P ops Q a0 Ψ i o)
 (hend : ∀ L v w, (∀ i, i < ops.size → L i = true) → Ψ L v w → Q .normal (fr a0 ops v) w) :
 ∀ (fuel : Nat) (listed : Array Bool) (v : Nat → Value) (w : World), listed.size = ops.size → (listed.toList.filter (!·)).length = fuel → Ψ (fun j => listed.getD j false) v w →
  (∀ j p, ops[j]? = some p → listed.getD j false = true → ∀ e, e ∈ p.after → Region.binds .any e = true → listed.getD e.on false = true) →
  wpAny P .any ops Q fuel listed (fr a0 ops v) w := by
 have hall : ∀ listed : Array Bool, listed.size = ops.size → Region.ready .any ops listed = [] → ∀ i, i < ops.size → listed.getD i false = true := by
  intro listed hs hr i
  induction i using Nat.strongRecOn with
  | _ i ih =>
   intro hi
   cases hb : listed.getD i false with
   | true => rfl
   | false =>
    exfalso
    have hmem : i ∈ Region.ready .any ops listed := by
     unfold Region.ready
     simp only [List.mem_filter, List.mem_range, hi, true_and, Bool.and_eq_true]
     have ho : ops[i]? = some ops[i] := Array.getElem?_eq_getElem hi
     constructor
     · have : listed.getD i true = false := by
        have h2 : i < listed.size := by omega
        simpa [Array.getD, h2] using hb
       simp [this]
     · rw [ho]
       simp only [Option.map_some, Option.getD_some, Array.all_eq_true_iff_forall_mem]
       intro e hem
       have hE := he
       unfold edgesOk at hE
       rw [List.all_eq_true] at hE
       have := hE i (by simpa using hi)
       rw [ho] at this
       simp only [Option.map_some, Option.getD_some, Array.all_eq_true_iff_forall_mem] at this
       have h3 := this e hem
       cases hbd : Region.binds .any e with
       | false => simp
       | true =>
        simp only [hbd, Bool.not_true, Bool.false_or, decide_eq_true_eq] at h3
        simp [ih e.on h3 (by omega)]
    rw [hr] at hmem
    cases hmem
 intro fuel
 induction fuel with
 | zero =>
  intro listed v w hs hc hI _
  have hl : ∀ i, i < ops.size → listed.getD i false = true := by
   intro i hi
   have h2 : i < listed.size := by omega
   cases hb : listed[i] with
   | true => simp [Array.getD, h2, hb]
   | false =>
    exfalso
    have : false ∈ listed.toList.filter (!·) := by
     rw [List.mem_filter]
     exact ⟨by rw [← hb]; simp, rfl⟩
    rw [List.length_eq_zero_iff.1 hc] at this
    cases this
  refine ⟨?_, hend _ v w hl hI⟩
  unfold Region.ready
  rw [List.filter_eq_nil_iff]
  intro i hi
  have hi' : i < ops.size := by simpa using hi
  have h2 : i < listed.size := by omega
  have := hl i hi'
  have h4 : listed.getD i true = true := by simpa [Array.getD, h2] using this
  simp [h4]
 | succ fuel ih =>
  intro listed v w hs hc hI hcl
  refine ⟨fun hr => hend _ v w (hall listed hs hr) hI, ?_⟩
  intro i hi
  unfold Region.ready at hi
  simp only [List.mem_filter, List.mem_range, Bool.and_eq_true] at hi
  obtain ⟨hin, hnl, haf⟩ := hi
  have ho : ops[i]? = some ops[i] := Array.getElem?_eq_getElem hin
  rw [ho] at haf
  simp only [Option.map_some, Option.getD_some, Array.all_eq_true_iff_forall_mem] at haf
  have h2 : i < listed.size := by omega
  have hfalse : listed[i] = false := by
   have : listed.getD i true = false := by simpa using hnl
   simpa [Array.getD, h2] using this
  refine wpOp_step ho fun K' hK => ?_
  refine hstep i _ ho _ v w ?_ ?_ hI K' ?_
  · intro e hem hb
    have := haf e hem
    simpa [hb] using this
  · intro j p hp hj e hem hb he'
    have := hcl j p hp hj e hem hb
    rw [he'] at this
    simp [Array.getD, h2, hfalse] at this
  · intro a' y w' ha' hΨ
    subst ha'
    refine hK _ _ ?_
    have hst : (fr a0 ops v).put ops[i].dst y = fr a0 ops (updV v i y) := by
     have := frL_step ops.toList a0 0 v i ops[i] y hd (by simp [hin])
     rw [Nat.zero_add] at this
     exact this
    rw [hst]
    have e : (fun j => (listed.setIfInBounds i true).getD j false) = setL (fun j => listed.getD j false) i := by
     funext j
     unfold setL
     by_cases h : j = i
     · subst h; simp [Array.getD, h2]
     · have h' : ¬ i = j := fun e => h e.symm
       simp only [h, if_false, Array.getD, Array.size_setIfInBounds]
       by_cases h3 : j < listed.size
       · simp [h3, h']
       · simp [h3]
    refine ih _ _ _ (by simpa using hs) ?_ ?_ ?_
    · have : ∀ (l : List Bool) (i : Nat) (h : i < l.length), l[i] = false → ((l.set i true).filter (!·)).length + 1 = (l.filter (!·)).length := by
       intro l
       induction l with
       | nil => intro i h; simp at h
       | cons b l ihl =>
        intro i h hf
        cases i with
        | zero => simp at hf; subst hf; simp
        | succ i =>
         simp only [List.set_cons_succ]
         have := ihl i (by simpa using h) (by simpa using hf)
         cases b <;> simp <;> omega
      have := this listed.toList i (by simpa using h2) (by simpa using hfalse)
      rw [Array.toList_setIfInBounds]
      omega
    · rw [e]
      exact hΨ
    · intro j p hp hj e2 hem hb
      have ej := congrFun e j
      have ee := congrFun e e2.on
      skip
      rw [ej] at hj
      rw [ee]
      unfold setL at hj ⊢
      by_cases h1 : e2.on = i
      · simp [h1]
      · simp only [h1, if_false]
        by_cases h2 : j = i
        · subst h2
          rw [ho] at hp
          simp only [Option.some.injEq] at hp
          subst hp
          have := haf e2 hem
          simpa [hb] using this
        · simp only [h2, if_false] at hj
          exact hcl j p hp hj e2 hem hb

theorem wp_region_psi {id : Nat} {a0 : Act} {w : World} (hm : P.follows .mixedOrders = true) (hd : dstsOkL ops.toList = true) (he : edgesOk ops = true)
 (Ψ : (Nat → Bool) → (Nat → Value) → World → Prop) (h0 : ∀ v, Ψ (fun _ => false) v w.drew)
 (hstep : ∀ i o, ops[i]? = some o → StepOk P ops Q a0 Ψ i o)
 (hend : ∀ L v w, (∀ i, i < ops.size → L i = true) → Ψ L v w → Q .normal (fr a0 ops v) w) : (Code.region id ops true).wp P Q a0 w := by
 refine wp_region_any hm ?_
 have hfr : fr a0 ops (fun i => ((ops[i]?.bind (·.dst)).map fun t => a0.tmps.getD t undef).getD undef) = a0 := by
  refine frL_start _ _ _ _ fun i o ho => ?_
  have ho' : ops[i]? = some o := by simpa using ho
  simp [ho']
 have key := wpAny_inv (P := P) (Q := Q) hd he hstep hend ops.size (Array.replicate ops.size false) (fun i => ((ops[i]?.bind (·.dst)).map fun t => a0.tmps.getD t undef).getD undef) w.drew (by simp) (by simp) (by
  have e : (fun j => (Array.replicate ops.size false).getD j false) = fun _ => false := by
   funext j; simp [Array.getD]
  rw [e]; exact h0 _) (by
  intro j p _ hj
  simp [Array.getD] at hj)
 rw [hfr] at key
 exact key

/-- what is asked of operation i, no guard before it; F: the frame, written out -/
def StepU (P : Program) (ops : Array Oper) (Q : Exit → Act → World → Prop) (F : (Nat → Value) → Act) (Ψ : (Nat → Bool) → (Nat → Value) → World → Prop) (i : Nat) (o : Oper) : Prop :=
 ∀ (L : Nat → Bool) (v : Nat → Value) (w : World), (∀ e, e ∈ o.after → Region.binds .any e = true → L e.on = true) →
  (∀ j p, ops[j]? = some p → L j = true → ∀ e, e ∈ p.after → Region.binds .any e = true → e.on ≠ i) → Ψ L v w →
  ∀ K : Act → World → Prop, (∀ a' y w', a' = (F v).put o.dst y → Ψ (setL L i) (updV v i y) w' → K a' w') → Oper.wp P o (F v) w K Q
inductive Steps (P : Program) (ops : Array Oper) (Q : Exit → Act → World → Prop) (F : (Nat → Value) → Act) (Ψ : (Nat → Bool) → (Nat → Value) → World → Prop) : List Oper → Nat → Prop
 | nil (k : Nat) : Steps P ops Q F Ψ [] k
 | cons {o : Oper} {os : List Oper} {k : Nat} (hg : o.guard = none) (h : StepU P ops Q F Ψ k o) (hs : Steps P ops Q F Ψ os (k + 1)) : Steps P ops Q F Ψ (o :: os) k
theorem steps_of {F : (Nat → Value) → Act} {Ψ : (Nat → Bool) → (Nat → Value) → World → Prop} : ∀ (os : List Oper) (k : Nat), Steps P ops Q F Ψ os k → ∀ i o, os[i]? = some o → o.guard = none ∧ StepU P ops Q F Ψ (k + i) o
 | [], _, _, _, _, h => by simp at h
 | p :: os, k, hs, 0, o, h => by
  simp only [List.getElem?_cons_zero, Option.some.injEq] at h
  subst h
  cases hs with
  | cons hg h _ => exact ⟨hg, h⟩
 | p :: os, k, hs, i + 1, o, h => by
  cases hs with
  | cons _ _ hs =>
   have := steps_of os (k + 1) hs i o (by simpa using h)
   rwa [show k + 1 + i = k + (i + 1) by omega] at this
theorem wp_region_steps {os : List Oper} {id : Nat} {a0 : Act} {w : World} (hm : P.follows .mixedOrders = true) (hd : dstsOkL os = true) (he : edgesOk os.toArray = true)
 {F : (Nat → Value) → Act} (hF : ∀ v, frL a0 os 0 v = F v)
 (Ψ : (Nat → Bool) → (Nat → Value) → World → Prop) (h0 : ∀ v, Ψ (fun _ => false) v w.drew)
 (hstep : Steps P os.toArray Q F Ψ os 0)
 (hend : ∀ L v w, (∀ i, i < os.length → L i = true) → Ψ L v w → Q .normal (F v) w) : (Code.region id os.toArray true).wp P Q a0 w := by
 refine wp_region_psi hm (by simpa using hd) he Ψ h0 (fun i o ho => ?_) (fun L v w hL hΨ => ?_)
 · obtain ⟨hg, hs⟩ := steps_of _ _ hstep i o (by simpa using ho)
   rw [Nat.zero_add] at hs
   intro L v w h1 h2 h3 K hK
   have hw : Region.wanted o (yielded os.toArray (fr a0 os.toArray v).tmps) = true := by simp [Region.wanted, hg]
   rw [if_pos hw]
   have hf : fr a0 os.toArray v = F v := hF v
   rw [hf] at hK ⊢
   exact hs L v w h1 h2 h3 K hK
 · have hf : fr a0 os.toArray v = F v := hF v
   rw [hf]
   exact hend L v w (by simpa using hL) hΨ
end
end Go.Proofs.Ytelgefgphhebnaa
end
section
namespace Go.Proofs.Ytelgefgphhebnaa
open Go.RowKit
set_option linter.unusedVariables false
set_option linter.unusedSimpArgs false
attribute [local irreducible] deg
theorem Blk.pre {w : World} {b n m : Nat} {t : TypeId} {f : Nat → Nat} (h : Blk w b n t f) (hm : m ≤ n) : w.rangeAt b 0 (bl m f) := by
 intro j v hv
 have hj : j < m := by
  have := (List.getElem?_eq_some_iff.1 hv).1
  rwa [zl] at this
 have e : (bl m f)[j]? = some (.int .u8 (f j : Int)) := by have := bcells_get (f := f) hj; simpa using this
 rw [e] at hv
 injection hv with hv
 subst hv
 rw [Nat.zero_add]
 exact h.cell (by omega)
set_option maxRecDepth 100000 in
set_option maxHeartbeats 1600000 in
theorem product_any (p : Nat) (f g : Nat → Nat) (w : World) (hp1 : 2 ≤ p) (hp2 : p ≤ 7) (hf : ∀ i, i < 64 → f i < p) (hg : ∀ i, i < 64 → g i < p) :
 Calls Try.prog 118 #[.int .i64 (p : Int), .agg (zb 64 f), .agg (zb 64 g)] w fun e w' => e = .returned (.agg (zb 64 (prd p f g))) ∧ Below w.heap.size w w' := by
 go_enter Try.func118, Try.ntmps118
 go_upto_region 1 with (fail)
 obtain ⟨wo, hwo⟩ : ∃ wo : World, wo = (((w.alloc (.cells (zb 64 f) 28)).alloc (.cells (zb 64 g) 28)).alloc (.cells (zb 64 fun _ => 0) 28)) := ⟨_, rfl⟩
 have b0 : Blk wo (w.heap.size) 64 28 f := by subst hwo; have := (((Blk.new w 64 28 f).alloc (.cells (zb 64 g) 28)).alloc (.cells (zb 64 fun _ => 0) 28)); simpa using this
 have b1 : Blk wo (w.heap.size + 1) 64 28 g := by subst hwo; have := ((Blk.new (w.alloc (.cells (zb 64 f) 28)) 64 28 g).alloc (.cells (zb 64 fun _ => 0) 28)); simpa using this
 have b2 : Blk wo (w.heap.size + 1 + 1) 64 28 (fun _ => 0) := by subst hwo; have := (Blk.new ((w.alloc (.cells (zb 64 f) 28)).alloc (.cells (zb 64 g) 28)) 64 28 (fun _ => 0)); simpa using this
 have hb : Below w.heap.size w wo := by subst hwo; exact ((((Below.refl _ _).alloc (Nat.le_refl _) _).alloc (by simp) _).alloc (by simp; omega) _)
 rw [← z64, ← hwo]
 clear hwo
 go_upto_region 2 with (first | refine zlb rfl 28 _ rfl _ rfl 64 28 _ (b0) 5 Try.underlying28 Try.size28 ?_ | refine zlb rfl 28 _ rfl _ rfl 64 28 _ (b1) 5 Try.underlying28 Try.size28 ?_ | (go_at_call 149; refine (wideProduct_any p f g _ hp1 hp2 hf hg).mono ?_; rintro e w1 ⟨rfl, h1⟩) | (refine wpList_store_new rfl 151 _ _ rfl _ 151 128 (prd p f g) rfl rfl (by rw [← zero128, zbs]) Try.size151 ?_))
 have hq := (Blk.new w1 128 151 (prd p f g)).pre (m := 64) (by omega)
 replace b2 := (b2.zw h1).alloc (.cells (zb 128 (prd p f g)) 151)
 replace hb := hb.trans ((h1.trans ((zal w1 (.cells (zb 128 (prd p f g)) 151)).mono h1.size)).mono hb.size)
 have hat := fun (W : World) (a : Option Addr) => run_arrayAt (P := Try.prog) (w := W) 28 5 64 a 64 128 Try.underlying28 (by omega)
 go_wp2_with (first | (refine wpList_load_mid rfl 28 _ rfl _ 0 rfl _ _ hq Try.underlying28 rfl (by rw [zl]; exact Try.size28) ?_) | refine wpList_store_blk rfl 28 _ _ rfl _ 64 (_) rfl rfl 28 _ (b2) Try.size28 ?_)
 refine bodyPost_ret (zrb rfl _ _ _ 64 28 5 _ rfl (b2.row _) Try.underlying28 Try.size28) rfl ⟨rfl, below_setRow hb (by omega) _⟩
theorem zdb (f : Nat → Nat) : -1 ≤ deg f ∧ deg f ≤ 63 := by
 rcases deg_spec f with ⟨e, _⟩ | ⟨d, hd, e, _⟩ <;> omega
theorem prd_zero_left {p : Nat} {f g : Nat → Nat} (hp : 0 < p) (h : ∀ i, i < 64 → f i = 0) (k : Nat) : prd p f g k = 0 := by
 rw [prd_rows hp (n := 0) (by omega) (fun i _ hi => h i hi), cv_zero]
theorem prd_zero_right {p : Nat} {f g : Nat → Nat} (hp : 0 < p) (h : ∀ i, i < 64 → g i = 0) (k : Nat) : prd p f g k = 0 := by
 have : ∀ n, cv p (cut f) (cut g) n k = 0 := by
  intro n
  induction n with
  | zero => rfl
  | succ n ih =>
   have hz : ∀ j, cut g j = 0 := fun j => by
    by_cases hj : j < 64
    · rw [cut_in g hj]; exact h j hj
    · exact zcz g (by omega)
   rw [cv_same hp (fun _ => by rw [hz, Nat.mul_zero]), ih]
 exact this 64
theorem deg_neg {f : Nat → Nat} (h : deg f < 0) : ∀ i, i < 64 → f i = 0 := by
 rcases deg_spec f with ⟨_, hz⟩ | ⟨d, hd, e, _⟩
 · exact hz
 · omega
def tmV (p : Nat) (f g : Nat → Nat) : (Nat → Nat) × Bool := if deg f + deg g ≤ 63 then (prd p f g, true) else (fun _ => 0, false)
set_option maxRecDepth 100000 in
set_option maxHeartbeats 3200000 in
theorem l01Times_any (p : Nat) (f g : Nat → Nat) (w : World) (hp1 : 2 ≤ p) (hp2 : p ≤ 7) (hf : ∀ i, i < 64 → f i < p) (hg : ∀ i, i < 64 → g i < p) :
 Calls Try.prog 85 #[.int .i64 (p : Int), .agg (zb 64 f), .agg (zb 64 g)] w fun e w' => e = .returned (.tuple #[.agg (zb 64 (tmV p f g).1), .bool (tmV p f g).2]) ∧ Below w.heap.size w w' := by
 obtain ⟨df1, df2⟩ := zdb f
 obtain ⟨dg1, dg2⟩ := zdb g
 have HF := Lib.hid hf; clear hf
 have HG := Lib.hid hg; clear hg
 go_enter Try.func85, Try.ntmps85
 go_upto_region 1 with (fail)
 obtain ⟨wo, hwo⟩ : ∃ wo : World, wo = (((w.alloc (.cells (zb 64 f) 28)).alloc (.cells (zb 64 g) 28)).alloc (.cells (zb 64 fun _ => 0) 28)) := ⟨_, rfl⟩
 have b0 : Blk wo (w.heap.size) 64 28 f := by subst hwo; have := (((Blk.new w 64 28 f).alloc (.cells (zb 64 g) 28)).alloc (.cells (zb 64 fun _ => 0) 28)); simpa using this
 have b1 : Blk wo (w.heap.size + 1) 64 28 g := by subst hwo; have := ((Blk.new (w.alloc (.cells (zb 64 f) 28)) 64 28 g).alloc (.cells (zb 64 fun _ => 0) 28)); simpa using this
 have b2 : Blk wo (w.heap.size + 1 + 1) 64 28 (fun _ => 0) := by subst hwo; have := (Blk.new ((w.alloc (.cells (zb 64 f) 28)).alloc (.cells (zb 64 g) 28)) 64 28 (fun _ => 0)); simpa using this
 have hb : Below w.heap.size w wo := by subst hwo; exact ((((Below.refl _ _).alloc (Nat.le_refl _) _).alloc (by simp) _).alloc (by simp; omega) _)
 rw [← z64, ← hwo]
 clear hwo
 refine wp_region_steps Try.mixed (by kernel_rfl) (by kernel_rfl) (fun v => by (simp only [frL, Act.put, pA, pB, pC, Nat.reduceAdd, Nat.zero_add]; exact rfl))
  (fun L v w1 => Below wo.heap.size wo w1 ∧ (L 0 = true → v 0 = (.agg (zb 64 (f)))) ∧ (L 1 = true → v 1 = (.int .i64 (deg f))) ∧ (L 2 = true → v 2 = (.agg (zb 64 (g)))) ∧ (L 3 = true → v 3 = (.int .i64 (deg g))) ∧ (L 4 = true → v 4 = (.agg (zb 64 (fun _ => 0)))) ∧ (L 5 = true → AF (v 5) w1 wo.heap.size 64 28) ∧ (L 6 = true → v 6 = (.int .i64 (deg f))) ∧ (L 7 = true → v 7 = (.int .i64 (deg g))) ∧ (L 8 = true → PF (v 5) w1 wo.heap.size 64 28 (fun _ => 0))) ?_ ?_ ?_
 · intro v
   exact ⟨(Below.refl _ _).drew, (fun h => by cases h), (fun h => by cases h), (fun h => by cases h), (fun h => by cases h), (fun h => by cases h), (fun h => by cases h), (fun h => by cases h), (fun h => by cases h), (fun h => by cases h)⟩
 · refine (.cons rfl ?_ (.cons rfl ?_ (.cons rfl ?_ (.cons rfl ?_ (.cons rfl ?_ (.cons rfl ?_ (.cons rfl ?_ (.cons rfl ?_ (.cons rfl ?_ (.nil _))))))))))
   all_goals intro L v w1 hd hn ⟨hS1, h0, h1, h2, h3, h4, h5, h6, h7, h8⟩ K hK
   · refine wp_load_blk 28 _ rfl _ rfl 64 28 _ (b0.zw hS1) _ Try.underlying28 Try.size28 ?_
     exact hK _ _ _ rfl ⟨hS1, fun _ => rfl, h1, h2, h3, h4, h5, h6, h7, h8⟩
   · have e0 := h0 (zdq hd 0 rfl)
     go_wp2_with (go_at_call 106; refine (l01Deg_any _ _).mono ?_; rintro e w1y ⟨rfl, hy⟩)
     exact hK _ (.int .i64 (deg f)) _ (by simp only [Act.put, pA, pB, pC, e0]) ⟨hS1.trans (hy.mono hS1.size), h0, fun _ => rfl, h2, h3, h4, fun h => (h5 h).below hy, h6, h7, fun h => (h8 h).below hy⟩
   · refine wp_load_blk 28 _ rfl _ rfl 64 28 _ (b1.zw hS1) _ Try.underlying28 Try.size28 ?_
     exact hK _ _ _ rfl ⟨hS1, h0, h1, fun _ => rfl, h3, h4, h5, h6, h7, h8⟩
   · have e2 := h2 (zdq hd 2 rfl)
     go_wp2_with (go_at_call 106; refine (l01Deg_any _ _).mono ?_; rintro e w1y ⟨rfl, hy⟩)
     exact hK _ (.int .i64 (deg g)) _ (by simp only [Act.put, pA, pB, pC, e2]) ⟨hS1.trans (hy.mono hS1.size), h0, h1, h2, fun _ => rfl, h4, fun h => (h5 h).below hy, h6, h7, fun h => (h8 h).below hy⟩
   · go_wp2_with fail
     rw [← z64]
     exact hK _ (.agg (zb 64 (fun _ => 0))) _ (by simp only [Act.put, pA, pB, pC ]) ⟨hS1, h0, h1, h2, h3, fun _ => rfl, h5, h6, h7, h8⟩
   · go_wp2_with fail
     rw [← z64]
     exact hK _ (.pointer (some ⟨w1.heap.size, 0, none⟩)) _ (by simp only [Act.put, pA, pB, pC ]) ⟨hS1.alloc hS1.size _, h0, h1, h2, h3, h4, fun _ => (PF.new w1 64 28 _ hS1.size).af, h6, h7, fun h => absurd rfl (hn 8 _ rfl h ⟨5, .data⟩ (by simp) rfl)⟩
   · have e1 := h1 (zdq hd 1 rfl)
     go_wp2_with fail
     exact hK _ (.int .i64 (deg f)) _ (by simp only [Act.put, pA, pB, pC, e1]) ⟨hS1, h0, h1, h2, h3, h4, h5, fun _ => rfl, h7, h8⟩
   · have e3 := h3 (zdq hd 3 rfl)
     go_wp2_with fail
     exact hK _ (.int .i64 (deg g)) _ (by simp only [Act.put, pA, pB, pC, e3]) ⟨hS1, h0, h1, h2, h3, h4, h5, h6, fun _ => rfl, h8⟩
   · have e4 := h4 (zdq hd 4 rfl)
     obtain ⟨gz, b, ea, hN, hk⟩ := (h5 (zdq hd 5 rfl)).out
     refine zsb 28 _ _ rfl b 64 (fun _ => 0) ea e4 28 gz hk Try.size28 ?_
     exact hK _ undef _ rfl ⟨zr hS1 hN _, h0, h1, h2, h3, h4, fun h => (h5 h).row hk, h6, h7, fun _ => by rw [show updV v 8 undef 5 = v 5 from rfl, ea]; exact PF.row hk hN _⟩
 · intro L v w1 hL ⟨hS1, h0, h1, h2, h3, h4, h5, h6, h7, h8⟩
   have e0 := h0 (hL 0 (by decide))
   have e1 := h1 (hL 1 (by decide))
   have e2 := h2 (hL 2 (by decide))
   have e3 := h3 (hL 3 (by decide))
   have e4 := h4 (hL 4 (by decide))
   have e6 := h6 (hL 6 (by decide))
   have e7 := h7 (hL 7 (by decide))
   obtain ⟨b5, e5, hN5, hb5⟩ := (h8 (hL 8 (by decide))).out
   clear hL h0 h1 h2 h3 h4 h5 h6 h7 h8
   simp only [Exit.then, e0, e1, e2, e3, e4, e6, e7, e5]
   clear e0 e1 e2 e3 e4 e6 e7 e5
   have hlt2 := b2.lt
   replace b0 := b0.zw hS1
   replace b1 := b1.zw hS1
   replace b2 := b2.zw hS1
   have hB5 : w.heap.size + 1 + 1 + 1 ≤ b5 := by omega
   clear hlt2
   replace hb := hb.trans (hS1.mono hb.size)
   by_cases hlim : deg f + deg g ≤ 63
   · have HV := Lib.hid (show tmV p f g = (prd p f g, true) from if_pos hlim)
     by_cases hf0 : deg f < 0
     · have HZ : ∀ k, k < 64 → (0 : Nat) = prd p f g k := fun k _ => (prd_zero_left (by omega) (deg_neg hf0) k).symm
       go_wp2_with (first | refine zlb rfl 28 _ rfl _ rfl 64 28 _ (hb5) 5 Try.underlying28 Try.size28 ?_ | refine wpList_store_blk rfl 28 _ _ rfl _ 64 (_) rfl rfl 28 _ (b2) Try.size28 ?_)
       refine bodyPost_ret (results_bt rfl _ _ _ 64 28 5 _ rfl (b2.row _) Try.underlying28 Try.size28) rfl ⟨by rw [HV.out, ← zbc HZ]; rfl, below_setRow hb (by omega) _⟩
     · by_cases hg0 : deg g < 0
       · have HZ : ∀ k, k < 64 → (0 : Nat) = prd p f g k := fun k _ => (prd_zero_right (by omega) (deg_neg hg0) k).symm
         go_wp2_with (first | refine zlb rfl 28 _ rfl _ rfl 64 28 _ (hb5) 5 Try.underlying28 Try.size28 ?_ | refine wpList_store_blk rfl 28 _ _ rfl _ 64 (_) rfl rfl 28 _ (b2) Try.size28 ?_)
         refine bodyPost_ret (results_bt rfl _ _ _ 64 28 5 _ rfl (b2.row _) Try.underlying28 Try.size28) rfl ⟨by rw [HV.out, ← zbc HZ]; rfl, below_setRow hb (by omega) _⟩
       · obtain ⟨n, hn⟩ := Int.eq_ofNat_of_zero_le (show 0 ≤ deg f by omega)
         obtain ⟨m, hm⟩ := Int.eq_ofNat_of_zero_le (show 0 ≤ deg g by omega)
         have HFZ : Hid (∀ i, n + 1 ≤ i → i < 64 → f i = 0) := by
          rcases deg_spec f with ⟨e, hz⟩ | ⟨d, hd, e, hne, hz⟩
          · exact fun i _ h => hz i h
          · exact fun i h1 h2 => hz i (by omega) h2
         have HGZ : Hid (∀ i, m + 1 ≤ i → i < 64 → g i = 0) := by
          rcases deg_spec g with ⟨e, hz⟩ | ⟨d, hd, e, hne, hz⟩
          · exact fun i _ h => hz i h
          · exact fun i h1 h2 => hz i (by omega) h2
         have hnm : n + m ≤ 63 := by omega
         rw [hn, hm]
         clear df1 df2 dg1 dg2 hlim hf0 hg0 hn hm
         go_wp2_with fail
         go_loopw [11] (fun c wr => ∃ i : Nat, i ≤ n + 1 ∧ c = .int .i64 (i : Int) ∧ Below w.heap.size w wr ∧ Blk wr w.heap.size 64 28 f ∧ Blk wr (w.heap.size + 1) 64 28 g ∧ Blk wr (w.heap.size + 1 + 1) 64 28 (fun _ => 0) ∧ Blk wr b5 64 28 (cv p (cut f) (cut g) i)) (fun c _ => n + 1 - (intOf c).toNat)
         case atStart => exact ⟨0, by omega, rfl, hb, b0, b1, b2, hb5.congr (fun k _ => by rw [cv_zero])⟩
         case round =>
          clear hb b0 b1 b2 hb5
          obtain ⟨i, hi, rfl, hb, b0, b1, b2, b3⟩ := hrel
          by_cases hlt : i ≤ n
          · go_wp2_with fail
            obtain ⟨wi, rfl⟩ : ∃ v : World, v = wr := ⟨_, rfl⟩
            have b3' := b3.congr (fun k _ => (cvr_zero p (cut f) (cut g) i k).symm)
            clear b3
            go_loopw [12] (fun c wr => ∃ j : Nat, j ≤ m + 1 ∧ (f i = 0 → j = 0) ∧ c = .int .i64 (j : Int) ∧ Below w.heap.size w wr ∧ Blk wr w.heap.size 64 28 f ∧ Blk wr (w.heap.size + 1) 64 28 g ∧ Blk wr (w.heap.size + 1 + 1) 64 28 (fun _ => 0) ∧ Blk wr b5 64 28 (cvr p (cut f) (cut g) i j)) (fun c _ => m + 1 - (intOf c).toNat)
            case atStart => exact ⟨0, by omega, fun _ => rfl, rfl, hb, b0, b1, b2, b3'⟩
            case round =>
             clear hb b0 b1 b2 b3'
             obtain ⟨j, hj, hfj, rfl, hb, b0, b1, b2, b3⟩ := hrel
             have HJ := Lib.hid hfj; clear hfj
             by_cases hltj : j ≤ m
             · have c0 := b0.cell (i := i) (by omega)
               by_cases hfi : f i = 0
               · have hne : ((f i : Int) != 0) = false := by simp [hfi]
                 have HFI := Lib.hid hfi; clear hfi
                 go_wp2_with fail
                 go_roundw
                 case rel =>
                  have hj0 := HJ.out HFI.out
                  subst hj0
                  exact ⟨i + 1, by omega, by go_num, hb, b0, b1, b2, b3.congr (fun k _ => by rw [cvr_zero, cv_skip (by omega) (by rw [cut_in f (by omega)]; exact HFI.out)])⟩
                 case measure => simp [intOf] <;> omega
               · have hne : ((f i : Int) != 0) = true := by simpa using hfi
                 have HFI := Lib.hid hfi; clear hfi
                 have c1 := b1.cell (i := j) (by omega)
                 have c3 : wr.cell? ⟨b5, i + j, none⟩ = some (.int .u8 (cv p (cut f) (cut g) i (i + j) : Int)) := by rw [b3.cell (by omega), cvr_at]
                 have z3 := b3.frozen (i + j)
                 have hij : ((i : Int) + (j : Int)).toNat = i + j := by omega
                 have v1 : f i < p := HF.out i (by omega)
                 have v2 : g j < p := HG.out j (by omega)
                 have v3 := cv_lt p (cut f) (cut g) (by omega) i (i + j)
                 obtain ⟨m1, m2⟩ := small_nat_mul hp2 v1 v2
                 have m4 : 0 ≤ ((cv p (cut f) (cut g) i (i + j) : Int) + (f i : Int) * (g j : Int)) % (p : Int) := Int.emod_nonneg _ (by omega)
                 have m5 : ((cv p (cut f) (cut g) i (i + j) : Int) + (f i : Int) * (g j : Int)) % (p : Int) < (p : Int) := Int.emod_lt_of_pos _ (by omega)
                 have HE := Lib.hid (show (cv p (cut f) (cut g) (i + 1) (i + j) : Int) = ((cv p (cut f) (cut g) i (i + j) : Int) + (f i : Int) * (g j : Int)) % (p : Int) by rw [cv_hit, cut_in f (by omega), cut_in g (by omega)]; push_cast; rfl)
                 go_wp2_with fail
                 go_region
                 go_wp2_with fail
                 go_roundw
                 case rel =>
                  refine ⟨j + 1, by omega, fun h => absurd h HFI.out, by go_num, (hb.setCell (by simp <;> omega) _).drew, (b0.setOther (by simp <;> omega)).drew, (b1.setOther (by simp <;> omega)).drew, (b2.setOther (by simp <;> omega)).drew, ?_⟩
                  exact ((b3.set (v := cv p (cut f) (cut g) (i + 1) (i + j)) HE.out.symm).congr (fun k _ => cvr_next p (cut f) (cut g) i j k)).drew
                 case measure => simp [intOf] <;> omega
             · have e : j = m + 1 := by omega
               subst e
               go_wp2_with fail
               go_roundw
               case rel =>
                refine ⟨i + 1, by omega, by go_num, hb, b0, b1, b2, b3.congr (fun k _ => cvr_full (by omega) (fun q hq => ?_) k)⟩
                by_cases h64 : q < 64
                · rw [cut_in g h64]; exact HGZ.out q hq h64
                · exact zcz g (by omega)
               case measure => simp [intOf] <;> omega
          · have e : i = n + 1 := by omega
            subst e
            go_wp2_with (first | refine zlb rfl 28 _ rfl _ rfl 64 28 _ (b3) 5 Try.underlying28 Try.size28 ?_ | refine wpList_store_blk rfl 28 _ _ rfl _ 64 (_) rfl rfl 28 _ (b2) Try.size28 ?_)
            refine bodyPost_ret (results_bt rfl _ _ _ 64 28 5 _ rfl (b2.row _) Try.underlying28 Try.size28) rfl ⟨?_, below_setRow hb (by omega) _⟩
            rw [HV.out, zbc (fun k _ => (prd_rows (by omega) (by omega) HFZ.out k).symm)]
            rfl
   · have hlim2 : 63 < deg f + deg g := by omega
     have HV := Lib.hid (show tmV p f g = (fun _ => 0, false) from if_neg hlim)
     clear hlim
     have hf0 : 0 ≤ deg f := by omega
     have hg0 : 0 ≤ deg g := by omega
     go_wp2_with (first | refine zlb rfl 28 _ rfl _ rfl 64 28 _ (hb5) 5 Try.underlying28 Try.size28 ?_ | refine wpList_store_blk rfl 28 _ _ rfl _ 64 (_) rfl rfl 28 _ (b2) Try.size28 ?_)
     refine bodyPost_ret (results_bt rfl _ _ _ 64 28 5 _ rfl (b2.row _) Try.underlying28 Try.size28) rfl ⟨by rw [HV.out]; rfl, below_setRow hb (by omega) _⟩
end Go.Proofs.Ytelgefgphhebnaa
end
section
namespace Go.Proofs.Ytelgefgphhebnaa
/-- one step of the division at n: c times b, moved by n - m, is taken away -/
def stp (p inv m : Nat) (b : Nat → Nat) (n : Nat) (a : Nat → Nat) : Nat → Nat :=
 fun k => if n - m ≤ k ∧ k ≤ n then (a k + (p - a n * inv % p) * b (k - (n - m))) % p else a k
/-- behind the steps at 127, .., 128 - i -/
def dS (p inv m : Nat) (b a : Nat → Nat) : Nat → Nat → Nat
 | 0 => a
 | i + 1 => stp p inv m b (127 - i) (dS p inv m b a i)
/-- the quotient's digit at k, from the step at k + m -/
def qd (p inv m : Nat) (b a : Nat → Nat) (k : Nat) : Nat := dS p inv m b a (127 - (k + m)) (k + m) * inv % p
/-- the quotient behind i steps -/
def qS (p inv m : Nat) (b a : Nat → Nat) (i : Nat) : Nat → Nat := fun k => if 128 - i ≤ k + m ∧ k + m ≤ 127 then qd p inv m b a k else 0
/-- quotient and rest of a (up to 127) by b, m its degree, inv the inverse of its leading coefficient -/
def quoW (p inv m : Nat) (b a : Nat → Nat) : Nat → Nat := qS p inv m b a (128 - m)
def resW (p inv m : Nat) (b a : Nat → Nat) : Nat → Nat := dS p inv m b a (128 - m)
/-- the number whose product with c is 1 -/
def invN (p c : Nat) : Nat := ((List.range 7).find? fun k => k * c % p == 1).getD 0
end Go.Proofs.Ytelgefgphhebnaa
end
section
namespace Go.Proofs.Ytelgefgphhebnaa
attribute [local irreducible] deg invN
theorem deg_le {f : Nat → Nat} {d : Int} (hd : -1 ≤ d) (h : ∀ k : Nat, d < (k : Int) → k < 64 → f k = 0) : deg f ≤ d := by
 rcases deg_spec f with ⟨e, _⟩ | ⟨n, hn, e, hne, _⟩
 · omega
 · by_cases hlt : d < (n : Int)
   · exact absurd (h n hlt hn) hne
   · omega
/-- quotient and rest of a by b, other than 0 -/
def quoP (p : Nat) (a b : Nat → Nat) : Nat → Nat := quoW p (invN p (b (deg b).toNat)) (deg b).toNat b (cut a)
def resP (p : Nat) (a b : Nat → Nat) : Nat → Nat := resW p (invN p (b (deg b).toNat)) (deg b).toNat b (cut a)
theorem deg_top {f : Nat → Nat} {m : Nat} (h : deg f = (m : Int)) : m < 64 ∧ 0 < f m ∧ ∀ k, m < k → k < 64 → f k = 0 := by
 rcases deg_spec f with ⟨e, _⟩ | ⟨d, hd, e, hne, hz⟩
 · omega
 · have : d = m := by omega
   subst this
   exact ⟨hd, by omega, hz⟩
theorem prd_lt {p : Nat} {f g : Nat → Nat} (hp : 0 < p) (k : Nat) : prd p f g k < p := cv_lt p _ _ hp _ _
end Go.Proofs.Ytelgefgphhebnaa
end
section
namespace Go.Proofs.Ytelgefgphhebnaa
attribute [local irreducible] deg invN
/-- the sum of t below n -/
def cs : Nat → (Nat → Int) → Int
 | 0, _ => 0
 | n + 1, t => cs n t + t n
end Go.Proofs.Ytelgefgphhebnaa
end
section
namespace Go.Proofs.Ytelgefgphhebnaa
/-- sums and products as in the whole numbers -/
class Rg (R : Type) extends Add R, Mul R, Neg R where
 o : R
 e : R
 acomm : ∀ a b : R, a + b = b + a
 aassoc : ∀ a b c : R, a + b + c = a + (b + c)
 oadd : ∀ a : R, o + a = a
 nadd : ∀ a : R, -a + a = o
 mcomm : ∀ a b : R, a * b = b * a
 massoc : ∀ a b c : R, a * b * c = a * (b * c)
 emul : ∀ a : R, e * a = a
 madd : ∀ a b c : R, a * (b + c) = a * b + a * c
namespace Rg
variable {R : Type} [Rg R]
/-- a^n -/
def pw (a : R) : Nat → R
 | 0 => e
 | n + 1 => a * pw a n
/-- k times a -/
def nm : Nat → R → R
 | 0, _ => o
 | k + 1, a => nm k a + a
/-- the sum of c(i) x^i y^(n - i), for the n + 1 numbers of a list -/
def hm (x y : R) : List Nat → R
 | [] => o
 | c :: cs => nm c (pw y cs.length) + x * hm x y cs
def pas : Nat → List Nat → List Nat
 | q, [] => [q]
 | q, c :: cs => (q + c) :: pas c cs
def row : Nat → List Nat
 | 0 => [1]
 | n + 1 => pas 0 (row n)
end Rg
end Go.Proofs.Ytelgefgphhebnaa
set_option linter.unusedVariables false
set_option linter.unusedVariables false
set_option linter.unusedVariables false
namespace Go.Proofs.Ytelgefgphhebnaa
attribute [local irreducible] deg invN quoP resP
/-- the numbers of the monic polynomials of the degree n -/
def monL (p n : Nat) : List Nat := List.range' (p ^ n) (p ^ n)
/-- how often m divides a, and what is left -/
def dvo (p : Nat) (m : Nat → Nat) : Nat → (Nat → Nat) → Nat × (Nat → Nat)
 | 0, a => (0, a)
 | f + 1, a => if deg (resP p a m) < 0 then ((dvo p m f (quoP p a m)).1 + 1, (dvo p m f (quoP p a m)).2) else (0, a)
end Go.Proofs.Ytelgefgphhebnaa
set_option linter.unusedVariables false
namespace Go.Proofs.Ytelgefgphhebnaa
attribute [local irreducible] deg invN quoP resP
/-- all of a list, divided out one after the other: what is told, and what is left -/
def foR (p : Nat) : List Nat → (Nat → Nat) → List (Nat × Nat) × (Nat → Nat)
 | [], a => ([], a)
 | N :: ms, a => ((if 0 < (dvo p (ofN p N) 64 a).1 then [(N, (dvo p (ofN p N) 64 a).1)] else []) ++ (foR p ms (dvo p (ofN p N) 64 a).2).1, (foR p ms (dvo p (ofN p N) 64 a).2).2)
/-- degree by degree -/
def run (p : Nat) : Nat → Nat → (Nat → Nat) → List (Nat × Nat)
 | 0, _, _ => []
 | f + 1, n, a => if deg a ≤ 0 then [] else (foR p (monL p n) a).1 ++ run p f (n + 1) (foR p (monL p n) a).2
end Go.Proofs.Ytelgefgphhebnaa
set_option linter.unusedVariables false
set_option linter.unusedVariables false
set_option linter.unusedVariables false
set_option linter.unusedVariables false
namespace Go.Proofs.Ytelgefgphhebnaa
attribute [local irreducible] deg invN quoP resP
theorem addK_lt {p : Nat} {f g : Nat → Nat} {c : Int} (hp : 0 < p) (k : Nat) : addK p f g c k < p := by
 unfold addK
 have h1 : 0 ≤ ((f k : Int) + c * (g k : Int)) % (p : Int) := Int.emod_nonneg _ (by omega)
 have h2 := Int.emod_lt_of_pos ((f k : Int) + c * (g k : Int)) (b := (p : Int)) (by omega)
 omega
end Go.Proofs.Ytelgefgphhebnaa
end
section
namespace Go.Proofs.Ytelgefgphhebnaa
open Go Go.RowKit
section
variable {P : Program} {Q : Exit → Act → World → Prop}
theorem wp_region_psi0 {ops : Array Oper} {id : Nat} {a0 : Act} {w : World} (hm : P.follows .mixedOrders = true) (hd : dstsOkL ops.toList = true) (he : edgesOk ops = true)
 (Ψ : (Nat → Bool) → (Nat → Value) → World → Prop) (h0 : ∀ v, (∀ i, v i = ((ops[i]?.bind (·.dst)).map fun t => a0.tmps.getD t undef).getD undef) → Ψ (fun _ => false) v w.drew)
 (hstep : ∀ i o, ops[i]? = some o → StepOk P ops Q a0 Ψ i o)
 (hend : ∀ L v w, (∀ i, i < ops.size → L i = true) → Ψ L v w → Q .normal (fr a0 ops v) w) : (Code.region id ops true).wp P Q a0 w := by
 refine wp_region_any hm ?_
 have hfr : fr a0 ops (fun i => ((ops[i]?.bind (·.dst)).map fun t => a0.tmps.getD t undef).getD undef) = a0 := by
  refine frL_start _ _ _ _ fun i o ho => ?_
  have ho' : ops[i]? = some o := by simpa using ho
  simp [ho']
 have key := wpAny_inv (P := P) (Q := Q) hd he hstep hend ops.size (Array.replicate ops.size false) (fun i => ((ops[i]?.bind (·.dst)).map fun t => a0.tmps.getD t undef).getD undef) w.drew (by simp) (by simp) (by
  have e : (fun j => (Array.replicate ops.size false).getD j false) = fun _ => false := by
   funext j; simp [Array.getD]
  rw [e]; exact h0 _ (fun _ => rfl)) (by
  intro j p _ hj
  simp [Array.getD] at hj)
 rw [hfr] at key
 exact key
theorem zq {os : List Oper} {id : Nat} {a0 : Act} {w : World} (hm : P.follows .mixedOrders = true) (hd : dstsOkL os = true) (he : edgesOk os.toArray = true)
 {F : (Nat → Value) → Act} (hF : ∀ v, frL a0 os 0 v = F v)
 (Ψ : (Nat → Bool) → (Nat → Value) → World → Prop) (h0 : ∀ v, (∀ i, v i = ((os[i]?.bind (·.dst)).map fun t => a0.tmps.getD t undef).getD undef) → Ψ (fun _ => false) v w.drew)
 (hstep : Steps P os.toArray Q F Ψ os 0)
 (hend : ∀ L v w, (∀ i, i < os.length → L i = true) → Ψ L v w → Q .normal (F v) w) : (Code.region id os.toArray true).wp P Q a0 w := by
 refine wp_region_psi0 hm (by simpa using hd) he Ψ (fun v hv => h0 v (by simpa using hv)) (fun i o ho => ?_) (fun L v w hL hΨ => ?_)
 · obtain ⟨hg, hs⟩ := steps_of _ _ hstep i o (by simpa using ho)
   rw [Nat.zero_add] at hs
   intro L v w h1 h2 h3 K hK
   have hw : Region.wanted o (yielded os.toArray (fr a0 os.toArray v).tmps) = true := by simp [Region.wanted, hg]
   rw [if_pos hw]
   have hf : fr a0 os.toArray v = F v := hF v
   rw [hf] at hK ⊢
   exact hs L v w h1 h2 h3 K hK
 · have hf : fr a0 os.toArray v = F v := hF v
   rw [hf]
   exact hend L v w (by simpa using hL) hΨ
end
def VF (L : Nat → Bool) (v : Nat → Value) (vals : List (Option Value)) : Prop := ∀ i x, vals[i]? = some (some x) → L i = true → v i = x
theorem VF.start {v : Nat → Value} {vals : List (Option Value)} : VF (fun _ => false) v vals := fun _ _ _ h => by cases h
theorem VF.at {L : Nat → Bool} {v : Nat → Value} {vals : List (Option Value)} (h : VF L v vals) {i : Nat} {x : Value} (hL : L i = true) (e : vals[i]? = some (some x)) : v i = x := h i x e hL
theorem VF.step {L : Nat → Bool} {v : Nat → Value} {vals : List (Option Value)} (h : VF L v vals) (i : Nat) {y : Value} (e : vals[i]? = some (some y)) : VF (setL L i) (updV v i y) vals := fun j x hj hL => by
 unfold setL at hL
 unfold updV
 by_cases c : j = i
 · subst c
   rw [e] at hj
   injection hj with hj
   injection hj with hj
   rw [if_pos rfl]; exact hj
 · rw [if_neg c] at hL ⊢
   exact h j x hj hL
theorem VF.skip {L : Nat → Bool} {v : Nat → Value} {vals : List (Option Value)} (h : VF L v vals) (i : Nat) {y : Value} (e : vals[i]? = some none) : VF (setL L i) (updV v i y) vals := fun j x hj hL => by
 unfold setL at hL
 unfold updV
 by_cases c : j = i
 · subst c
   rw [e] at hj
   injection hj with hj
   cases hj
 · rw [if_neg c] at hL ⊢
   exact h j x hj hL
attribute [irreducible] VF
end Go.Proofs.Ytelgefgphhebnaa
end
section
namespace Go.Proofs.Ytelgefgphhebnaa
open Go.RowKit
set_option linter.unusedVariables false
set_option linter.unusedSimpArgs false
attribute [local irreducible] deg invN dS qS stp
/-- the first scope within a code -/
def scopeIn : Code → Option Code
 | .seq a b => match scopeIn a with
  | some c => some c
  | none => scopeIn b
 | .scope c => some c
 | _ => none
/-- what stands behind a label of the first scope -/
def behind (fn : Func) (l : Nat) : Code := (findLabel ((fn.body.bind scopeIn).getD .skip) l).getD .skip
end Go.Proofs.Ytelgefgphhebnaa
end
section
namespace Go.Proofs.Ytelgefgphhebnaa
open Go Go.RowKit
/-- the first n cells are the same -/
def eqN (n : Nat) (f g : Nat → Nat) : Bool := (List.range n).all fun i => f i == g i
section
variable {P : Program}
theorem run_part_byte (w : World) (e n i : Nat) (f : Nat → Nat) (he : P.underlying e = some (.int .u8)) (hi : i < n) : (part e (zb n f) (i * 1)).run P w = .ok (.int .u8 (f i : Int)) w := by
 have h := bcells_get (f := f) hi
 rw [Nat.mul_one]
 unfold part isAgg
 simp only [Sem.run_bind, run_underlying he, Result.andThen_ok, Sem.run_pure]
 simp [h]
theorem zeb (w : World) (d t e n : Nat) (f g : Nat → Nat) (hu : P.underlying t = some (.array n e)) (he : P.underlying e = some (.int .u8)) (hs : (P.info? e).map (·.size) = some 1) :
 (Op.equalIn (d + 2) t (.agg (zb n f)) (.agg (zb n g))).run P w = .ok (eqN n f g) w := by
 have hsz : (sizeOf e).run P w = .ok 1 w := by
  cases hq : P.info? e with
  | none => simp [hq] at hs
  | some i =>
   have : i.size = 1 := by simpa [hq] using hs
   simp [sizeOf, typeInfo, hq, this, Sem.run_bind]
 rw [Op.equalIn]
 simp only [Sem.run_bind, run_underlying hu, Result.andThen_ok, hsz]
 rw [Std.Legacy.Range.forIn_eq_forIn_range']
 have key : ∀ l : List Nat, (∀ i, i ∈ l → i < n) → (forIn l ((none : Option Bool), ()) fun i __s => (do
           let __do_lift ← part e (zb n f) (i * 1)
           let __do_lift_1 ← part e (zb n g) (i * 1)
           let __do_lift ← Op.equalIn (d + 1) e __do_lift __do_lift_1
           if (!__do_lift) = true then pure (ForInStep.done (some false, ())) else pure (ForInStep.yield (none, ())) : Sem (ForInStep (Option Bool × Unit)))).run P w = .ok (if (l.all fun i => f i == g i) then none else some false, ()) w := by
  intro l
  induction l with
  | nil => intro _; simp
  | cons i l ih =>
   intro hl
   have hi := hl i (by simp)
   rw [List.forIn_cons]
   simp only [Sem.run_bind, run_part_byte w e n i f he hi, run_part_byte w e n i g he hi, Result.andThen_ok, run_equalIn_int w d e .u8 .u8 _ _ he]
   by_cases h : f i = g i
   · have h' : ((f i : Int) == (g i : Int)) = true := by simp [h]
     rw [h']
     simp only [Bool.not_true, Bool.false_eq_true, if_false, Sem.run_pure, Result.andThen_ok, List.all_cons, h, beq_self_eq_true, Bool.true_and]
     exact ih (fun j hj => hl j (by simp [hj]))
   · have h' : ((f i : Int) == (g i : Int)) = false := by simp; omega
     rw [h']
     simp [List.all_cons, h]
 have hr := key (List.range' 0 n) (fun i hi => by simpa using hi)
 have e1 : (List.range' 0 n).all (fun i => f i == g i) = eqN n f g := by rw [eqN, List.range_eq_range']
 rw [e1] at hr
 have e2 : ([:n].size) = n := by simp [Std.Legacy.Range.size]
 rw [show (List.range' [:n].start [:n].size [:n].step) = List.range' 0 n by rw [e2]]
 rw [hr]
 cases eqN n f g <;> simp
end
end Go.Proofs.Ytelgefgphhebnaa
end
section
namespace Go.Proofs.Ytelgefgphhebnaa
open Go.RowKit
set_option linter.unusedVariables false
set_option linter.unusedSimpArgs false
attribute [local irreducible] deg invN dS qS stp quoP resP
theorem Try.noGuard28 : Try.prog.eqGuardType Try.prog.depth 28 = false := by kernel_rfl
end Go.Proofs.Ytelgefgphhebnaa
end
section
namespace Go.Proofs.Ytelgefgphhebnaa
open Go.RowKit
set_option linter.unusedVariables false
/-- three polynomials, one behind the other -/
def c3 (r u v : Nat → Nat) : Nat → Nat := fun k => if k < 64 then r k else if k < 128 then u (k - 64) else v (k - 128)
end Go.Proofs.Ytelgefgphhebnaa
end
section
namespace Go.Proofs.Ytelgefgphhebnaa
open Go Go.RowKit
section
variable {P : Program}
theorem wp_load_any {o : Oper} {a : Act} {w : World} {K : Act → World → Prop} {Q : Exit → Act → World → Prop} (ty : TypeId) (x : Operand) (ho : o.op = .load ty x)
 (b : Nat) (hx : a.eval x = .pointer (some ⟨b, 0, none⟩)) (n : Nat) (t : TypeId) (f : Nat → Nat) (hb : Blk w b n t f) (d : TypeDesc)
 (hu : P.underlying ty = some d) (hd : (match d with | .struct _ | .array _ _ => true | _ => false) = true) (hi : (P.info? ty).map (·.size) = some n) (h : K (a.put o.dst (.agg (zb n f))) w) : o.wp P a w K Q := by
 have hb' : w.heap[b]? = some (.cells (zb n f) t (0, 0)) := by unfold Blk at hb; exact hb
 exact wp_load_row ty x ho b hx t _ (0, 0) d hb' hu hd (by rw [zbs]; exact hi) h
theorem zlc {o : Oper} {a : Act} {w : World} {K : Act → World → Prop} {Q : Exit → Act → World → Prop} {ty : TypeId} {x : Operand} {b n : Nat} {t : TypeId} {f : Nat → Nat} {d : TypeDesc} (hb : Blk w b n t f) (hu : P.underlying ty = some d) (hi : (P.info? ty).map (·.size) = some n) (h : K (a.put o.dst (.agg (zb n f))) w) (ho : o.op = .load ty x := by rfl) (hx : a.eval x = .pointer (some ⟨b, 0, none⟩) := by rfl) (hd : (match d with | .struct _ | .array _ _ => true | _ => false) = true := by rfl) : o.wp P a w K Q := wp_load_any ty x ho b hx n t f hb d hu hd hi h
theorem wpList_load_any {ops : Array Oper} {rest : List Oper} {o : Oper} {a : Act} {w : World} {Q : Exit → Act → World → Prop} (hgd : o.guard = none) (ty : TypeId) (x : Operand) (ho : o.op = .load ty x)
 (b : Nat) (hx : a.eval x = .pointer (some ⟨b, 0, none⟩)) (n : Nat) (t : TypeId) (f : Nat → Nat) (hb : Blk w b n t f) (d : TypeDesc)
 (hu : P.underlying ty = some d) (hd : (match d with | .struct _ | .array _ _ => true | _ => false) = true) (hi : (P.info? ty).map (·.size) = some n)
 (h : wpList P ops Q rest (a.put o.dst (.agg (zb n f))) w) : wpList P ops Q (o :: rest) a w := by
 have hb' : w.heap[b]? = some (.cells (zb n f) t (0, 0)) := by unfold Blk at hb; exact hb
 exact wpList_load_row hgd ty x ho b hx t _ (0, 0) d hb' hu hd (by rw [zbs]; exact hi) h
theorem zla {ops : Array Oper} {rest : List Oper} {o : Oper} {a : Act} {w : World} {Q : Exit → Act → World → Prop} {ty : TypeId} {b n : Nat} {t : TypeId} {f : Nat → Nat} {d : TypeDesc} (x : Operand) (hb : Blk w b n t f) (hu : P.underlying ty = some d) (hi : (P.info? ty).map (·.size) = some n) (h : wpList P ops Q rest (a.put o.dst (.agg (zb n f))) w) (hgd : o.guard = none := by rfl) (ho : o.op = .load ty x := by rfl) (hx : a.eval x = .pointer (some ⟨b, 0, none⟩) := by rfl) (hd : (match d with | .struct _ | .array _ _ => true | _ => false) = true := by rfl) : wpList P ops Q (o :: rest) a w := wpList_load_any hgd ty x ho b hx n t f hb d hu hd hi h
theorem zsr {ops : Array Oper} {rest : List Oper} {o : Oper} {a : Act} {w : World} {Q : Exit → Act → World → Prop} {ty : TypeId} {b n : Nat} {t : TypeId} {f : Nat → Nat} (x y : Operand) (g : Nat → Nat) (hb : Blk w b n t f) (hi : (P.info? ty).map (·.size) = some n) (h : wpList P ops Q rest (a.put o.dst undef) (w.setRow b (zb n g))) (hgd : o.guard = none := by rfl) (ho : o.op = .store ty x y := by rfl) (hx : a.eval x = .pointer (some ⟨b, 0, none⟩) := by rfl) (hy : a.eval y = .agg (zb n g) := by rfl) : wpList P ops Q (o :: rest) a w := wpList_store_blk hgd ty x y ho b n g hx hy t f hb hi h
theorem zlg {ops : Array Oper} {rest : List Oper} {o : Oper} {a : Act} {w : World} {Q : Exit → Act → World → Prop} (hw : Region.wanted o (yielded ops a.tmps) = true) (ty : TypeId) (x : Operand) (ho : o.op = .load ty x)
 (b : Nat) (hx : a.eval x = .pointer (some ⟨b, 0, none⟩)) (n : Nat) (t : TypeId) (f : Nat → Nat) (hb : Blk w b n t f) (d : TypeDesc)
 (hu : P.underlying ty = some d) (hd : (match d with | .struct _ | .array _ _ => true | _ => false) = true) (hi : (P.info? ty).map (·.size) = some n)
 (h : wpList P ops Q rest (a.put o.dst (.agg (zb n f))) w) : wpList P ops Q (o :: rest) a w := by
 unfold wpList
 rw [if_pos hw]
 exact Or.inl (wp_load_any ty x ho b hx n t f hb d hu hd hi h)
theorem wp_build_of {o : Oper} {a : Act} {w : World} {K : Act → World → Prop} {Q : Exit → Act → World → Prop} (t : TypeId) (parts : Array (Nat × Operand)) (ho : o.op = .build t parts)
 (cells : Array Value) (hc : P.built t (parts.map fun (i, x) => (i, a.eval x)).toList = some cells) (h : K (a.put o.dst (.agg cells)) w) : o.wp P a w K Q := by
 refine wp_build t parts ho (by rw [hc]; rfl) ?_
 rw [hc]; exact h
theorem zbo {ops : Array Oper} {rest : List Oper} {o : Oper} {a : Act} {w : World} {Q : Exit → Act → World → Prop} (hg : o.guard = none) (t : TypeId) (parts : Array (Nat × Operand)) (ho : o.op = .build t parts)
 (cells : Array Value) (hc : P.built t (parts.map fun (i, x) => (i, a.eval x)).toList = some cells) (h : wpList P ops Q rest (a.put o.dst (.agg cells)) w) : wpList P ops Q (o :: rest) a w :=
 wpList_plain hg fun _ hK => wp_build_of t parts ho cells hc (hK _ _ h)
end
end Go.Proofs.Ytelgefgphhebnaa
end
section
namespace Go.Proofs.Ytelgefgphhebnaa
open Go Go.RowKit Go.ChangeMaps
open Go.Maps (Keyed)
/-- block b is a map with the entries L, keys of type k -/
def MapG (P : Program) (k : TypeId) (w : World) (b : Nat) (L : List (Value × Value)) : Prop :=
 ∃ es clock, w.heap[b]? = some (.map es clock) ∧ es.toList.map (fun e => (e.key, e.val)) = L ∧ ∀ e ∈ es.toList, ∃ l, keyOf P k e.key = some l
theorem MapG.lt {P : Program} {k : TypeId} {w : World} {b : Nat} {L : List (Value × Value)} (h : MapG P k w b L) : b < w.heap.size := by
 obtain ⟨es, clock, hb, _⟩ := h
 exact (Array.getElem?_eq_some_iff.1 hb).1
theorem MapG.new (P : Program) (k : TypeId) (w : World) : MapG P k (w.alloc (.map #[] 0)) w.heap.size [] := ⟨#[], 0, (MapKept.heap_alloc w _).1, rfl, by simp⟩
theorem MapG.of {P : Program} {k : TypeId} {w w' : World} {b : Nat} {L : List (Value × Value)} (h : MapG P k w b L) (e : w'.heap[b]? = w.heap[b]?) : MapG P k w' b L := by
 obtain ⟨es, clock, hb, r⟩ := h
 exact ⟨es, clock, e.trans hb, r⟩
theorem MapG.alloc {P : Program} {k : TypeId} {w : World} {b : Nat} {L : List (Value × Value)} (h : MapG P k w b L) (o : Obj) : MapG P k (w.alloc o) b L := h.of (Below.heap_alloc _ _ _ h.lt)
theorem MapG.drew {P : Program} {k : TypeId} {w : World} {b : Nat} {L : List (Value × Value)} (h : MapG P k w b L) : MapG P k w.drew b L := h
theorem MapG.below {P : Program} {k : TypeId} {w w' : World} {B b : Nat} {L : List (Value × Value)} (h : MapG P k w b L) (hb : Below B w w') (e : b < B) : MapG P k w' b L := h.of (hb.block b e)
theorem MapG.zw {P : Program} {k : TypeId} {w w' : World} {b : Nat} {L : List (Value × Value)} (h : MapG P k w b L) (hb : Below w.heap.size w w') : MapG P k w' b L := MapG.below h hb (MapG.lt h)
theorem MapG.setOther {P : Program} {k : TypeId} {w : World} {b : Nat} {L : List (Value × Value)} (h : MapG P k w b L) {a : Addr} {v : Value} (e : b ≠ a.block) : MapG P k (w.setCell a v) b L := h.of (heap_setCell_other _ _ _ _ e)
theorem MapG.rowOther {P : Program} {k : TypeId} {w : World} {b : Nat} {L : List (Value × Value)} (h : MapG P k w b L) {j : Nat} {cs : Array Value} (e : b ≠ j) : MapG P k (w.setRow j cs) b L := h.of (setRow_other _ _ _ _ e)
/-- block b is one cell that holds v -/
def One (w : World) (b : Nat) (t : TypeId) (v : Value) : Prop := w.heap[b]? = some (.cells #[v] t (0, 0))
theorem One.new (w : World) (t : TypeId) (v : Value) : One (w.alloc (.cells #[v] t)) w.heap.size t v := heap_alloc_last w _
theorem One.lt {w : World} {b : Nat} {t : TypeId} {v : Value} (h : One w b t v) : b < w.heap.size := by
 unfold One at h
 exact (Array.getElem?_eq_some_iff.1 h).1
theorem One.cell {w : World} {b : Nat} {t : TypeId} {v : Value} (h : One w b t v) : w.cell? ⟨b, 0, none⟩ = some v := by
 rw [cell_of_row _ _ _ _ _ _ h]; rfl
theorem One.frozen {w : World} {b : Nat} {t : TypeId} {v : Value} (h : One w b t v) (i : Nat) : w.frozen? ⟨b, i, none⟩ = false := frozen_of_row _ _ _ _ _ h
theorem One.of {w w' : World} {b : Nat} {t : TypeId} {v : Value} (h : One w b t v) (e : w'.heap[b]? = w.heap[b]?) : One w' b t v := by unfold One at *; rw [e]; exact h
theorem One.alloc {w : World} {b : Nat} {t : TypeId} {v : Value} (h : One w b t v) (o : Obj) : One (w.alloc o) b t v := h.of (Below.heap_alloc _ _ _ h.lt)
theorem One.drew {w : World} {b : Nat} {t : TypeId} {v : Value} (h : One w b t v) : One w.drew b t v := h
theorem One.below {w w' : World} {B b : Nat} {t : TypeId} {v : Value} (h : One w b t v) (hb : Below B w w') (e : b < B) : One w' b t v := h.of (hb.block b e)
theorem One.zw {w w' : World} {b : Nat} {t : TypeId} {v : Value} (h : One w b t v) (hb : Below w.heap.size w w') : One w' b t v := One.below h hb (One.lt h)
theorem One.setOther {w : World} {b : Nat} {t : TypeId} {v x : Value} (h : One w b t v) {a : Addr} (e : b ≠ a.block) : One (w.setCell a x) b t v := h.of (heap_setCell_other _ _ _ _ e)
theorem One.rowOther {w : World} {b : Nat} {t : TypeId} {v : Value} (h : One w b t v) {j : Nat} {cs : Array Value} (e : b ≠ j) : One (w.setRow j cs) b t v := h.of (setRow_other _ _ _ _ e)
theorem One.grown {w w' : World} {b j : Nat} {t : TypeId} {v : Value} (h : One w b t v) (hg : w.grownBy w' (some j)) (e : b ≠ j) : One w' b t v := h.of (hg.block b h.lt (fun x => e (by cases x; rfl)))
theorem wp_load_one {P : Program} {o : Oper} {a : Act} {w : World} {K : Act → World → Prop} {Q : Exit → Act → World → Prop} (ty : TypeId) (x : Operand) (ho : o.op = .load ty x)
 (b : Nat) (hx : a.eval x = .pointer (some ⟨b, 0, none⟩)) (t : TypeId) (v : Value) (hb : One w b t v) (d : TypeDesc)
 (hu : P.underlying ty = some d) (hd : (match d with | .struct _ | .array _ _ => true | _ => false) = false) (h : K (a.put o.dst v) w) : o.wp P a w K Q := by
 have hc := hb.cell
 have hagg : (isAgg ty).run P w = .ok false w := by
  unfold isAgg
  rw [Sem.run_bind, run_underlying hu w]
  cases d <;> simp_all
 unfold Oper.wp execOp
 simp only [ho, hx, Instr.loadAt, Instr.sureAddr, Sem.run_bind, Sem.run_pure, Result.andThen_ok, loadVar, hagg, Bool.false_eq_true, if_false, Sem.run_ite, run_load, hc]
 exact h
theorem zlo {P : Program} {ops : Array Oper} {rest : List Oper} {o : Oper} {a : Act} {w : World} {Q : Exit → Act → World → Prop} (hgd : o.guard = none) (ty : TypeId) (x : Operand) (ho : o.op = .load ty x)
 (b : Nat) (hx : a.eval x = .pointer (some ⟨b, 0, none⟩)) (t : TypeId) (v : Value) (hb : One w b t v) (d : TypeDesc)
 (hu : P.underlying ty = some d) (hd : (match d with | .struct _ | .array _ _ => true | _ => false) = false) (h : wpList P ops Q rest (a.put o.dst v) w) : wpList P ops Q (o :: rest) a w :=
 wpList_plain hgd fun _ hK => wp_load_one ty x ho b hx t v hb d hu hd (hK _ _ h)
/-- a new key -/
theorem MapG.put {P : Program} {k e t : TypeId} (K : Keyed P k) (ht : P.underlying t = some (.map k e)) {w : World} {b : Nat} {L : List (Value × Value)} (h : MapG P k w b L) {key val : Value} {kl : Lit} (hkey : keyOf P k key = some kl) (hn : ∀ q ∈ L, q.1 ≠ key) :
 ∃ w', (Instr.mapUpdate t (.map (some b)) key val).run P w = .ok () w' ∧ MapG P k w' b (L ++ [(key, val)]) ∧ w.grownBy w' (some b) := by
 obtain ⟨es, clock, hb, rfl, hr⟩ := h
 rcases K.find w hkey es.toList hr with ⟨h1, h2⟩ | ⟨j, e0, h1, h2, h3⟩
 · refine ⟨setBlock w b (.map (es.push ⟨key, val, clock⟩) (clock + 1)), ?_, ⟨_, _, heap_setBlock_same hb _, by simp, ?_⟩, ⟨rfl, rfl, rfl, by simp [setBlock], fun i _ hi => heap_setBlock_other hb _ (fun e => hi (by rw [e]))⟩⟩
   · simp [Instr.mapUpdate, run_underlying ht, MapKept.run_getObj_map hb, K.check w false hkey, h1, MapKept.run_setObj_map _ hb, Result.andThen, setBlock]
   · intro x hx
     simp only [Array.toList_push, List.mem_append, List.mem_singleton] at hx
     rcases hx with hx | rfl
     · exact hr x hx
     · exact ⟨_, hkey⟩
 · exact absurd h3 (hn (e0.key, e0.val) (List.mem_map.2 ⟨e0, List.mem_of_getElem? h2, rfl⟩))
/-- what a store into the map leaves of another block -/
theorem Blk.grown {w w' : World} {b n j : Nat} {t : TypeId} {f : Nat → Nat} (h : Blk w b n t f) (hg : w.grownBy w' (some j)) (e : b ≠ j) : Blk w' b n t f := by
 have hl := h.lt
 unfold Blk at *; rw [hg.block b hl (fun x => e (by cases x; rfl))]; exact h
attribute [irreducible] MapG One
end Go.Proofs.Ytelgefgphhebnaa
end
section
namespace Go.Proofs.Ytelgefgphhebnaa
theorem pow_big {p k : Nat} (h1 : 1 ≤ p) (h2 : p ≤ 7) (hk : k ≤ 20) : 1 ≤ p ^ k ∧ p ^ k ≤ 79792266297612001 := by
 have a1 : p ^ k ≤ 7 ^ k := Nat.pow_le_pow_left h2 k
 have a2 : 7 ^ k ≤ 7 ^ 20 := Nat.pow_le_pow_right (by omega) hk
 have a3 : 1 ≤ p ^ k := Nat.pow_pos (by omega)
 have a4 : 7 ^ 20 = 79792266297612001 := by decide
 omega
end Go.Proofs.Ytelgefgphhebnaa
namespace Go.Proofs.Ytelgefgphhebnaa
open Go.RowKit
set_option linter.unusedVariables false
set_option linter.unusedSimpArgs false
theorem norm_any (p n : Nat) (w : World) (hp1 : 2 ≤ p) (hp2 : p ≤ 7) (hn : n ≤ 20) :
 Calls Try.prog 164 #[.int .i64 (p : Int), .int .i64 (n : Int)] w fun e w' => e = .returned (.int .i64 ((p ^ n : Nat) : Int)) ∧ w = w' := by
 go_enter Try.func164, Try.ntmps164
 go_wp2_with fail
 go_loopw [5, 7] (fun x i wr => ∃ k X : Nat, k ≤ n ∧ X = p ^ k ∧ x = .int .i64 (X : Int) ∧ i = .int .i64 (k : Int) ∧ wr = w) (fun _ i _ => n - (intOf i).toNat)
 case atStart => exact ⟨0, 1, by omega, rfl, rfl, rfl, rfl⟩
 case round =>
  obtain ⟨k, X, hk, hX, rfl, rfl, rfl⟩ := hrel
  obtain ⟨x1, x2⟩ := pow_big (p := p) (k := k) (by omega) hp2 (by omega)
  rw [← hX] at x1 x2
  by_cases hlt : k < n
  · obtain ⟨y1, y2⟩ := pow_big (p := p) (k := k + 1) (by omega) hp2 (by omega)
    rw [Nat.pow_succ, ← hX] at y1 y2
    have HX := Lib.hid hX; clear hX
    have z1 : ((X * p : Nat) : Int) ≤ 79792266297612001 := by omega
    have z2 : 1 ≤ ((X * p : Nat) : Int) := by omega
    rw [Int.natCast_mul] at z1 z2
    clear y1 y2
    go_wp2_with fail
    go_roundw
    case rel => exact ⟨k + 1, X * p, by omega, by rw [Nat.pow_succ, ← HX.out], by go_num, by go_num, trivial⟩
    case measure => simp [intOf]; omega
  · have e : k = n := by omega
    subst e
    have HX := Lib.hid hX; clear hX
    go_wp2_with fail
    go_ret
    exact ⟨ret_int (congrArg (fun x : Nat => (x : Int)) HX.out), rfl⟩
end Go.Proofs.Ytelgefgphhebnaa
namespace Go.Proofs.Ytelgefgphhebnaa
open Go Go.RowKit
set_option linter.unusedVariables false
/-- v is a slice of the rows cs, each of so many cells, in a block from base on (or nil) -/
def SlL (w : World) (base : Nat) (e : TypeId) (size : Nat) (v : Value) (cs : List (List Value)) : Prop := base ≤ w.heap.size ∧ (∀ c ∈ cs, c.length = size) ∧ w.ownsRow base e size v cs.length cs.flatten
theorem SlL.lt {w : World} {base : Nat} {e : TypeId} {size : Nat} {v : Value} {cs : List (List Value)} (h : SlL w base e size v cs) : base ≤ w.heap.size := h.1
theorem SlL.nil {w : World} {base : Nat} (e : TypeId) (size : Nat) (h : base ≤ w.heap.size) : SlL w base e size (.slice none 0 0) [] := ⟨h, by simp, World.ownsRow_nil _ _ _ _⟩
theorem SlL.grown {w w' : World} {base : Nat} {e : TypeId} {size : Nat} {v : Value} {cs : List (List Value)} {row : Option Nat} (h : SlL w base e size v cs) (hg : w.grownBy w' row) (hr : ∀ r, row = some r → r < base) : SlL w' base e size v cs :=
 ⟨Nat.le_trans h.1 hg.size, h.2.1, h.2.2.kept hg (by
  cases hv : v.ownBlock with
  | none => exact .inl rfl
  | some k =>
   right
   intro he
   have h1 := (h.2.2.lt k hv).1
   have h2 := hr k he.symm
   omega)⟩
theorem SlL.alloc {w : World} {base : Nat} {e : TypeId} {size : Nat} {v : Value} {cs : List (List Value)} (h : SlL w base e size v cs) (o : Obj) : SlL (w.alloc o) base e size v cs := h.grown (World.grownBy_alloc w o none) (fun r e => by cases e)
theorem SlL.drew {w : World} {base : Nat} {e : TypeId} {size : Nat} {v : Value} {cs : List (List Value)} (h : SlL w base e size v cs) : SlL w.drew base e size v cs := h
theorem SlL.below {w w' : World} {base : Nat} {e : TypeId} {size : Nat} {v : Value} {cs : List (List Value)} (h : SlL w base e size v cs) (hb : Below w.heap.size w w') (_ : base ≤ w.heap.size) : SlL w' base e size v cs :=
 h.grown (row := none) ⟨hb.os, hb.tape, hb.output, hb.size, fun k hk _ => hb.block k hk⟩ (fun r e => by cases e)
theorem SlL.zw {w w' : World} {base : Nat} {e : TypeId} {size : Nat} {v : Value} {cs : List (List Value)} (h : SlL w base e size v cs) (hb : Below w.heap.size w w') : SlL w' base e size v cs := SlL.below h hb (SlL.lt h)
theorem SlL.rowOther {w : World} {base : Nat} {e : TypeId} {size : Nat} {v : Value} {cs : List (List Value)} (h : SlL w base e size v cs) {k : Nat} {xs : Array Value} (hk : k < base) : SlL (w.setRow k xs) base e size v cs :=
 h.grown (row := some k) ⟨rfl, rfl, rfl, by simp [World.setRow], fun j _ hj => setRow_other _ _ _ _ (fun e => hj (by rw [e]))⟩ (fun r e => by cases e; exact hk)
theorem SlL.setOther {w : World} {base : Nat} {e : TypeId} {size : Nat} {v x : Value} {cs : List (List Value)} (h : SlL w base e size v cs) {a : Addr} (ha : a.block < base) : SlL (w.setCell a x) base e size v cs :=
 ⟨by simpa using h.1, h.2.1, ownsRow_setCell_below h.2.2 ha x⟩
theorem SlL.own {w : World} {base : Nat} {e : TypeId} {size : Nat} {v : Value} {cs : List (List Value)} (h : SlL w base e size v cs) : ∀ r, v.ownBlock = some r → base ≤ r := fun r hr => (h.2.2.lt r hr).1
theorem SlL.shape {w : World} {base : Nat} {e : TypeId} {size : Nat} {v : Value} {cs : List (List Value)} (h : SlL w base e size v cs) : (v = .slice none 0 0 ∧ cs = []) ∨ ∃ g cap, v = .slice (some ⟨g, 0, none⟩) cs.length cap := by
 obtain ⟨_, _, _, h | ⟨g, cap, cur, rfl, _⟩⟩ := h
 · exact .inl ⟨h.1, List.eq_nil_of_length_eq_zero h.2⟩
 · exact .inr ⟨g, cap, rfl⟩
theorem flat_at : ∀ (cs : List (List Value)) (size i : Nat) (c : List Value) (j : Nat) (u : Value), (∀ c ∈ cs, c.length = size) → cs[i]? = some c → c[j]? = some u → cs.flatten[i * size + j]? = some u
 | [], _, _, _, _, _, _, h, _ => by simp at h
 | g :: cs, size, 0, c, j, u, _, h, hj => by
  simp only [List.getElem?_cons_zero, Option.some.injEq] at h
  subst h
  rw [List.flatten_cons, Nat.zero_mul, Nat.zero_add, List.getElem?_append_left (List.getElem?_eq_some_iff.1 hj).1]
  exact hj
 | g :: cs, size, i + 1, c, j, u, hs, h, hj => by
  have hg : g.length = size := hs g (by simp)
  have e1 : (i + 1) * size = i * size + size := Nat.succ_mul i size
  rw [List.flatten_cons, List.getElem?_append_right (by rw [hg]; omega), hg]
  have := flat_at cs size i c j u (fun c hc => hs c (by simp [hc])) (by simpa using h) hj
  rw [show (i + 1) * size + j - size = i * size + j by omega]
  exact this
/-- the cells of one element -/
theorem SlL.range {w : World} {base : Nat} {e : TypeId} {size g n cap : Nat} {cs : List (List Value)} (h : SlL w base e size (.slice (some ⟨g, 0, none⟩) n cap) cs) {i : Nat} {c : List Value} (hi : cs[i]? = some c) : w.rangeAt g (i * size) c := by
 intro j u hu
 obtain ⟨_, hs, hl, h | ⟨g', cap', cur, hv, hg, hh, h1, h2, h3, h4⟩⟩ := h
 · cases h.1
 · injection hv with e1 e2 e3
   injection e1 with e1
   injection e1 with e1
   subst e1
   rw [cell_of_row _ _ _ _ _ _ hh]
   have hc : cs.flatten[i * size + j]? = some u := flat_at cs size i c j u hs hi hu
   rw [← h4] at hc
   have hlt : i * size + j < cs.length * size := by
    have := (List.getElem?_eq_some_iff.1 hc).1
    rw [List.length_take] at this
    omega
   rw [List.getElem?_take_of_lt hlt] at hc
   rw [← Array.getElem?_toList]
   exact hc
theorem SlL.len {w : World} {base : Nat} {e : TypeId} {size g n cap : Nat} {cs : List (List Value)} (h : SlL w base e size (.slice (some ⟨g, 0, none⟩) n cap) cs) : n = cs.length ∧ base ≤ g ∧ g < w.heap.size := by
 obtain ⟨_, hs, hl, h | ⟨g', cap', cur, hv, hg, hh, h1, h2, h3, h4⟩⟩ := h
 · cases h.1
 · injection hv with e1 e2 e3
   injection e1 with e1
   injection e1 with e1
   subst e1
   exact ⟨e2, hg, (Array.getElem?_eq_some_iff.1 hh).1⟩
theorem One.row {w : World} {b : Nat} {t : TypeId} {v : Value} (h : One w b t v) (u : Value) : One (w.setRow b #[u]) b t u := by
 unfold One at *
 exact setRow_heap _ _ _ _ _ _ h
theorem SlL.one {w : World} {base : Nat} {e : TypeId} {size : Nat} {v : Value} {cs : List (List Value)} (h : SlL w base e size v cs) : v.oneCell' = true := by
 rcases h.shape with ⟨rfl, _⟩ | ⟨g, cap, rfl⟩ <;> rfl
theorem SlL.base {w : World} {base base' : Nat} {e : TypeId} {size : Nat} {v : Value} {cs : List (List Value)} (h : SlL w base e size v cs) (hb : base' ≤ base) : SlL w base' e size v cs := ⟨Nat.le_trans hb h.1, h.2.1, by
 obtain ⟨_, _, hl, h | ⟨g, cap, cur, hv, hg', r⟩⟩ := h
 · exact ⟨hl, .inl h⟩
 · exact ⟨hl, .inr ⟨g, cap, cur, hv, Nat.le_trans hb hg', r⟩⟩⟩
/-- .. whose block lies below top -/
def SlT (w : World) (base top : Nat) (e : TypeId) (size : Nat) (v : Value) (cs : List (List Value)) : Prop := SlL w base e size v cs ∧ ∀ r, v.ownBlock = some r → r < top
theorem SlL.top {w : World} {base : Nat} {e : TypeId} {size : Nat} {v : Value} {cs : List (List Value)} (h : SlL w base e size v cs) : SlT w base w.heap.size e size v cs := ⟨h, fun r hr => (h.2.2.lt r hr).2⟩
theorem SlT.lt {w : World} {base top : Nat} {e : TypeId} {size : Nat} {v : Value} {cs : List (List Value)} (h : SlT w base top e size v cs) : base ≤ w.heap.size := h.1.1
theorem SlT.alloc {w : World} {base top : Nat} {e : TypeId} {size : Nat} {v : Value} {cs : List (List Value)} (h : SlT w base top e size v cs) (o : Obj) : SlT (w.alloc o) base top e size v cs := ⟨h.1.alloc o, h.2⟩
theorem SlT.drew {w : World} {base top : Nat} {e : TypeId} {size : Nat} {v : Value} {cs : List (List Value)} (h : SlT w base top e size v cs) : SlT w.drew base top e size v cs := h
theorem SlT.below {w w' : World} {base top : Nat} {e : TypeId} {size : Nat} {v : Value} {cs : List (List Value)} (h : SlT w base top e size v cs) (hb : Below w.heap.size w w') (hl : base ≤ w.heap.size) : SlT w' base top e size v cs := ⟨h.1.below hb hl, h.2⟩
theorem SlT.zw {w w' : World} {base top : Nat} {e : TypeId} {size : Nat} {v : Value} {cs : List (List Value)} (h : SlT w base top e size v cs) (hb : Below w.heap.size w w') : SlT w' base top e size v cs := SlT.below h hb (SlT.lt h)
theorem SlT.rowOther {w : World} {base top : Nat} {e : TypeId} {size : Nat} {v : Value} {cs : List (List Value)} (h : SlT w base top e size v cs) {k : Nat} {xs : Array Value} (hk : k < base ∨ top ≤ k) : SlT (w.setRow k xs) base top e size v cs :=
 ⟨⟨by simpa [World.setRow] using h.1.1, h.1.2.1, h.1.2.2.kept (row := some k) ⟨rfl, rfl, rfl, by simp [World.setRow], fun j _ hj => setRow_other _ _ _ _ (fun e => hj (by rw [e]))⟩ (by
  cases hv : v.ownBlock with
  | none => exact .inl rfl
  | some j =>
   right
   intro he
   cases he
   have h1 := (h.1.2.2.lt k hv).1
   have h2 := h.2 k hv
   omega)⟩, h.2⟩
theorem SlT.setOther {w : World} {base top : Nat} {e : TypeId} {size : Nat} {v x : Value} {cs : List (List Value)} (h : SlT w base top e size v cs) {a : Addr} (ha : a.block < base ∨ top ≤ a.block) : SlT (w.setCell a x) base top e size v cs :=
 ⟨⟨by simpa using h.1.1, h.1.2.1, h.1.2.2.kept (row := some a.block) ⟨((Below.refl 0 w).setCell (Nat.zero_le _) x).os, ((Below.refl 0 w).setCell (Nat.zero_le _) x).tape, ((Below.refl 0 w).setCell (Nat.zero_le _) x).output, by simp, fun j _ hj => Below.heap_setCell _ _ _ _ (fun e => hj (by rw [e]))⟩ (by
  cases hv : v.ownBlock with
  | none => exact .inl rfl
  | some j =>
   right
   intro he
   have he2 : j = a.block := by injection he
   subst he2
   have h1 := (h.1.2.2.lt a.block hv).1
   have h2 := h.2 a.block hv
   omega)⟩, h.2⟩
theorem SlL.form {w : World} {base : Nat} {e : TypeId} {size : Nat} {v : Value} {cs : List (List Value)} (h : SlL w base e size v cs) : ∃ ad cap, v = .slice ad cs.length cap := by
 rcases h.shape with ⟨h1, h2⟩ | ⟨g, cap, h1⟩
 · exact ⟨none, 0, by rw [h1, h2]; rfl⟩
 · exact ⟨_, cap, h1⟩
theorem SlL.some {w : World} {base : Nat} {e : TypeId} {size n cap : Nat} {ad : Option Addr} {cs : List (List Value)} (h : SlL w base e size (.slice ad n cap) cs) (hn : 0 < cs.length) : ∃ g, ad = some ⟨g, 0, none⟩ := by
 rcases h.shape with ⟨_, h2⟩ | ⟨g, cap', h1⟩
 · rw [h2] at hn; simp at hn
 · injection h1 with h1; exact ⟨g, h1⟩
/-- block b is the row cs -/
def Row (w : World) (b : Nat) (t : TypeId) (cs : Array Value) : Prop := w.heap[b]? = some (.cells cs t (0, 0))
theorem Row.new (w : World) (t : TypeId) (cs : Array Value) : Row (w.alloc (.cells cs t)) w.heap.size t cs := heap_alloc_last w _
theorem Row.lt {w : World} {b : Nat} {t : TypeId} {cs : Array Value} (h : Row w b t cs) : b < w.heap.size := by
 unfold Row at h
 exact (Array.getElem?_eq_some_iff.1 h).1
theorem Row.of {w w' : World} {b : Nat} {t : TypeId} {cs : Array Value} (h : Row w b t cs) (e : w'.heap[b]? = w.heap[b]?) : Row w' b t cs := by unfold Row at *; rw [e]; exact h
theorem Row.alloc {w : World} {b : Nat} {t : TypeId} {cs : Array Value} (h : Row w b t cs) (o : Obj) : Row (w.alloc o) b t cs := h.of (Below.heap_alloc _ _ _ h.lt)
theorem Row.drew {w : World} {b : Nat} {t : TypeId} {cs : Array Value} (h : Row w b t cs) : Row w.drew b t cs := h
theorem Row.below {w w' : World} {B b : Nat} {t : TypeId} {cs : Array Value} (h : Row w b t cs) (hb : Below B w w') (e : b < B) : Row w' b t cs := h.of (hb.block b e)
theorem Row.zw {w w' : World} {b : Nat} {t : TypeId} {cs : Array Value} (h : Row w b t cs) (hb : Below w.heap.size w w') : Row w' b t cs := Row.below h hb (Row.lt h)
theorem Row.rowOther {w : World} {b : Nat} {t : TypeId} {cs : Array Value} (h : Row w b t cs) {j : Nat} {xs : Array Value} (e : b ≠ j) : Row (w.setRow j xs) b t cs := h.of (setRow_other _ _ _ _ e)
theorem Row.setOther {w : World} {b : Nat} {t : TypeId} {cs : Array Value} {x : Value} (h : Row w b t cs) {a : Addr} (e : b ≠ a.block) : Row (w.setCell a x) b t cs := h.of (heap_setCell_other _ _ _ _ e)
theorem Row.row {w : World} {b : Nat} {t : TypeId} {cs : Array Value} (h : Row w b t cs) (xs : Array Value) : Row (w.setRow b xs) b t xs := by
 unfold Row at *
 exact setRow_heap _ _ _ _ _ _ h
theorem Row.cell {w : World} {b : Nat} {t : TypeId} {cs : Array Value} (h : Row w b t cs) {i : Nat} {v : Value} (hi : cs[i]? = some v) : w.cell? ⟨b, i, none⟩ = some v := by
 rw [cell_of_row _ _ _ _ _ _ h]; exact hi
theorem Row.frozen {w : World} {b : Nat} {t : TypeId} {cs : Array Value} (h : Row w b t cs) (i : Nat) : w.frozen? ⟨b, i, none⟩ = false := frozen_of_row _ _ _ _ _ h
theorem Row.set {w : World} {b i : Nat} {t : TypeId} {cs : Array Value} {x : Value} (h : Row w b t cs) : Row (w.setCell ⟨b, i, none⟩ x) b t (cs.setIfInBounds i x) := by
 unfold Row at *
 rw [heap_setCell_same _ _ _ _ _ _ h]
theorem Row.range {w : World} {b : Nat} {t : TypeId} {c : List Value} (h : Row w b t c.toArray) : w.rangeAt b 0 c := by
 intro j v hv
 rw [Nat.zero_add, cell_of_row _ _ _ _ _ _ h]
 simpa using hv
attribute [irreducible] Row
attribute [irreducible] SlL
end Go.Proofs.Ytelgefgphhebnaa
namespace Go.Proofs.Ytelgefgphhebnaa
open Go Go.RowKit
set_option linter.unusedVariables false
/-- what is no cells from B on lies as it lay -/
def KF (B : Nat) (W W' : World) : Prop := KeepsFrom B W W'
theorem KF.refl (B : Nat) (W : World) : KF B W W := KeepsFrom.refl B W
theorem KF.lt {B : Nat} {W W' : World} (h : KF B W W') : W.heap.size ≤ W'.heap.size := h.size
theorem KF.below {B : Nat} {W W1 W2 : World} (h : KF B W W1) (hb : Below W1.heap.size W1 W2) (_ : W.heap.size ≤ W1.heap.size) : KF B W W2 :=
 KeepsFrom.trans h ⟨hb.size, fun k _ _ hk _ => (hb.block k (Array.getElem?_eq_some_iff.1 hk).1).trans hk⟩
theorem KF.zw {B : Nat} {W W1 W2 : World} (h : KF B W W1) (hb : Below W1.heap.size W1 W2) : KF B W W2 := KF.below h hb (KF.lt h)
theorem KF.alloc {B : Nat} {W W1 : World} (h : KF B W W1) (o : Obj) : KF B W (W1.alloc o) := h.below (zal _ _) h.size
theorem KF.drew {B : Nat} {W W1 : World} (h : KF B W W1) : KF B W W1.drew := ⟨h.size, h.same⟩
theorem KF.rowOther {B : Nat} {W W1 : World} (h : KF B W W1) {k : Nat} {cs : Array Value} (e : k < B ∨ W.heap.size ≤ k) : KF B W (W1.setRow k cs) :=
 ⟨by simpa [World.setRow] using h.size, fun j o hB hj ho => by
  have hlt := (Array.getElem?_eq_some_iff.1 hj).1
  rw [setRow_other _ _ _ _ (by omega)]
  exact h.same j o hB hj ho⟩
theorem KF.grown {B : Nat} {W W1 W2 : World} {row : Option Nat} (h : KF B W W1) (hg : W1.grownBy W2 row) (hr : ∀ r, row = some r → ∃ cur t f, W1.heap[r]? = some (.cells cur t f)) : KF B W W2 :=
 KeepsFrom.trans h ⟨hg.size, fun k o _ hk ho => (hg.block k (Array.getElem?_eq_some_iff.1 hk).1 (fun e => by
  obtain ⟨cur, t, f, hc⟩ := hr k e.symm
  rw [hk] at hc; cases hc; cases ho)).trans hk⟩
/-- the block for deferred calls -/
def DF (W : World) (D : Nat) : Prop := W.heap[D]? = some (.deferred (some []))
theorem DF.lt {W : World} {D : Nat} (h : DF W D) : D < W.heap.size := (Array.getElem?_eq_some_iff.1 h).1
theorem DF.of {W W' : World} {D : Nat} (h : DF W D) (e : W'.heap[D]? = W.heap[D]?) : DF W' D := by unfold DF at *; rw [e]; exact h
theorem DF.below {W W' : World} {B D : Nat} (h : DF W D) (hb : Below B W W') (e : D < B) : DF W' D := h.of (hb.block D e)
theorem DF.zw {W W' : World} {D : Nat} (h : DF W D) (hb : Below W.heap.size W W') : DF W' D := DF.below h hb (DF.lt h)
theorem DF.alloc {W : World} {D : Nat} (h : DF W D) (o : Obj) : DF (W.alloc o) D := h.below (zal _ _) h.lt
theorem DF.drew {W : World} {D : Nat} (h : DF W D) : DF W.drew D := h
theorem DF.rowOther {W : World} {D k : Nat} {cs : Array Value} (h : DF W D) (e : D ≠ k) : DF (W.setRow k cs) D := h.of (setRow_other _ _ _ _ e)
theorem DF.grown {W W1 : World} {D : Nat} {row : Option Nat} (h : DF W D) (hg : W.grownBy W1 row) (hr : ∀ r, row = some r → ∃ cur t f, W.heap[r]? = some (.cells cur t f)) : DF W1 D :=
 h.of (hg.block D h.lt (fun e => by
  obtain ⟨cur, t, f, hc⟩ := hr D e.symm
  unfold DF at h
  rw [h] at hc; cases hc))
end Go.Proofs.Ytelgefgphhebnaa
end
section
namespace Go.Proofs.Ytelgefgphhebnaa
open Go Go.RowKit Go.Shelf
set_option linter.unusedVariables false
set_option linter.unusedSimpArgs false
attribute [local go_sem] Oper.semAt_some
/-- the numbers from a on, k of them -/
abbrev NumN (a k : Nat) := { N : Nat // N ∈ List.range' a k }
def vals {a k : Nat} (l : List (NumN a k)) : List Nat := l.map (·.1)
/-- the captured cells stay -/
def KpN (ba bb bp : Nat) (W W' : World) : Prop := W'.heap[ba]? = W.heap[ba]? ∧ W'.heap[bb]? = W.heap[bb]? ∧ W'.heap[bp]? = W.heap[bp]?
theorem KpN.refl (ba bb bp : Nat) (W : World) : KpN ba bb bp W W := ⟨rfl, rfl, rfl⟩
theorem KpN.trans {ba bb bp : Nat} {A B C : World} (h : KpN ba bb bp A B) (k : KpN ba bb bp B C) : KpN ba bb bp A C := ⟨k.1.trans h.1, k.2.1.trans h.2.1, k.2.2.trans h.2.2⟩
theorem KpN.put {ba bb bp : Nat} {w : World} (h0 : ba < w.heap.size) (h1 : bb < w.heap.size) (h2 : bp < w.heap.size) (W : World) (l : Nat) (o o' : Obj) (hl : w.heap.size ≤ l) (_ : W.heap[l]? = some o) (_ : o.isCells = false) (_ : o.isWalk = false) : KpN ba bb bp W (W.putObj l o') :=
 ⟨World.putObj_heap_other (by omega), World.putObj_heap_other (by omega), World.putObj_heap_other (by omega)⟩
theorem One.same {w w' : World} {b : Nat} {t : TypeId} {v : Value} (h : One w b t v) (h' : One w' b t v) : w'.heap[b]? = w.heap[b]? := by unfold One at *; rw [h, h']
end Go.Proofs.Ytelgefgphhebnaa
end
section
namespace Go.Proofs.Ytelgefgphhebnaa
open Go Go.RowKit
set_option linter.unusedVariables false
set_option linter.unusedSimpArgs false
attribute [local irreducible] deg invN dS qS stp quoP resP ofN dvo run monL
/-- the cells of a factor -/
def facC (f : Nat → Nat) (k : Nat) : List Value := bl 64 f ++ [.int .i64 (k : Int)]
def facRows (p : Nat) (L : List (Nat × Nat)) : List (List Value) := L.map fun x => facC (ofN p x.1) x.2
/-- the heap has at least n blocks -/
def SzG (n : Nat) (W : World) : Prop := n ≤ W.heap.size
theorem SzG.lt {n : Nat} {W : World} (h : SzG n W) : n ≤ W.heap.size := h
theorem SzG.below {n B : Nat} {W W' : World} (h : SzG n W) (hb : Below B W W') (_ : n ≤ W.heap.size) : SzG n W' := Nat.le_trans h hb.size
theorem SzG.zw {n : Nat} {W W' : World} (h : SzG n W) (hb : Below W.heap.size W W') : SzG n W' := SzG.below h hb (SzG.lt h)
theorem SzG.alloc {n : Nat} {W : World} (h : SzG n W) (o : Obj) : SzG n (W.alloc o) := h.below (zal _ _) h
theorem SzG.drew {n : Nat} {W : World} (h : SzG n W) : SzG n W.drew := h
theorem SzG.rowOther {n k : Nat} {W : World} {cs : Array Value} (h : SzG n W) (_ : 0 ≤ k) : SzG n (W.setRow k cs) := by unfold SzG at *; simpa [World.setRow] using h
theorem SzG.setOther {n : Nat} {W : World} {a : Addr} {v : Value} (h : SzG n W) (_ : 0 ≤ a.block) : SzG n (W.setCell a v) := by unfold SzG at *; simpa using h
end Go.Proofs.Ytelgefgphhebnaa
namespace Go.Proofs.Ytelgefgphhebnaa
open Go Go.RowKit
set_option linter.unusedVariables false
set_option linter.unusedSimpArgs false
attribute [local irreducible] deg invN dS qS stp quoP resP ofN dvo run monL
def FV (p : Nat) (n0 : Nat) (x : Nat × Nat) (l : List (Nat × Nat)) (y : Value) (w : World) : Prop := SlL w n0 161 65 y (facRows p (x :: l))
theorem FV.below {p n0 : Nat} {x : Nat × Nat} {l : List (Nat × Nat)} {y : Value} {w w' : World} (h : FV p n0 x l y w) (hb : Below w.heap.size w w') : FV p n0 x l y w' := SlL.below h hb h.lt
end Go.Proofs.Ytelgefgphhebnaa
end
section
namespace Go.Proofs.Ytelgefgphhebnaa
open Go Go.RowKit
set_option linter.unusedVariables false
set_option linter.unusedSimpArgs false
/-- the mark of a cell -/
def mkF (q : Nat) : Value := if q % 65 = 64 then .int .i64 (1 + (q : Int)) else .int .u8 ((1 + (q : Int)) % 256)
/-- the first q cells of a slice are marked -/
def MkF (w : World) (base : Nat) (v : Value) (n q : Nat) : Prop := ∃ ys, w.ownsRow base 161 65 v n ys ∧ ∀ k, k < q → ys[k]? = some (mkF k)
theorem MkF.len {w : World} {base n q : Nat} {v : Value} (h : MkF w base v n q) : True := trivial
theorem MkF.own {w : World} {base n q : Nat} {v : Value} (h : MkF w base v n q) : ∀ r, v.ownBlock = Option.some r → base ≤ r ∧ r < w.heap.size := by
 obtain ⟨ys, h1, _⟩ := h
 exact fun r hr => h1.lt r hr
theorem MkF.grown {w w' : World} {base n q : Nat} {v : Value} {row : Option Nat} (h : MkF w base v n q) (hg : w.grownBy w' row) (hr : v.ownBlock = none ∨ v.ownBlock ≠ row) : MkF w' base v n q := by
 obtain ⟨ys, h1, h2⟩ := h
 exact ⟨ys, h1.kept hg hr, h2⟩
theorem MkF.below {w w' : World} {base n q : Nat} {v : Value} (h : MkF w base v n q) (hb : Below w.heap.size w w') : MkF w' base v n q :=
 h.grown (row := none) ⟨hb.os, hb.tape, hb.output, hb.size, fun k hk _ => hb.block k hk⟩ (by
  cases hv : v.ownBlock with
  | none => exact .inl rfl
  | some k => exact .inr (by simp))
theorem MkF.step {w : World} {base n q g cap : Nat} (h : MkF w base (.slice (some ⟨g, 0, none⟩) n cap) n q) (hq : q < n * 65) :
 (∃ u, w.cell? ⟨g, q, none⟩ = Option.some u) ∧ w.frozen? ⟨g, q, none⟩ = false ∧ MkF (w.setCell ⟨g, q, none⟩ (mkF q)) base (.slice (some ⟨g, 0, none⟩) n cap) n (q + 1) ∧ w.grownBy (w.setCell ⟨g, q, none⟩ (mkF q)) (Option.some g) := by
 obtain ⟨ys, h1, h2⟩ := h
 have hl : q < ys.length := by rw [h1.1]; exact hq
 obtain ⟨s1, s2⟩ := h1.stored q (mkF q)
 refine ⟨⟨ys[q], by rw [h1.cellAt q hq]; exact List.getElem?_eq_getElem hl⟩, h1.frozenAt q, ⟨_, s1, fun k hk => ?_⟩, s2⟩
 rw [List.getElem?_set]
 by_cases e : q = k
 · subst e; rw [if_pos rfl, if_pos hl]
 · rw [if_neg e]; exact h2 k (by omega)
theorem MkF.cell {w : World} {base n q g cap k : Nat} (h : MkF w base (.slice (some ⟨g, 0, none⟩) n cap) n q) (hk : k < q) (hq : q ≤ n * 65) : w.cell? ⟨g, k, none⟩ = Option.some (mkF k) := by
 obtain ⟨ys, h1, h2⟩ := h
 rw [h1.cellAt k (by omega)]
 exact h2 k hk
theorem MkF.same {w : World} {base n q : Nat} {v : Value} (h : MkF w base v n q) (r : Nat) (e : r = q) : MkF w base v n r := e ▸ h
theorem grown_trans {w w1 w2 : World} {row : Option Nat} (h1 : w.grownBy w1 row) (h2 : w1.grownBy w2 row) : w.grownBy w2 row :=
 ⟨h2.os.trans h1.os, h2.tape.trans h1.tape, h2.output.trans h1.output, Nat.le_trans h1.size h2.size, fun k hk hr => (h2.block k (Nat.lt_of_lt_of_le hk h1.size) hr).trans (h1.block k hk hr)⟩
theorem grown_refl (w : World) (row : Option Nat) : w.grownBy w row := ⟨rfl, rfl, rfl, Nat.le_refl _, fun _ _ _ => rfl⟩
theorem slL_apart {w w' : World} {base size : Nat} {e : TypeId} {v : Value} {cs : List (List Value)} {row : Option Nat} (h : SlL w base e size v cs) (hg : w.grownBy w' row) (hr : v.ownBlock = none ∨ v.ownBlock ≠ row) : SlL w' base e size v cs := by
 delta SlL at *
 exact ⟨Nat.le_trans h.1 hg.size, h.2.1, h.2.2.kept hg hr⟩
attribute [local irreducible] mkF MkF
end Go.Proofs.Ytelgefgphhebnaa
namespace Go.Proofs.Ytelgefgphhebnaa
open Go Go.RowKit
set_option linter.unusedVariables false
set_option linter.unusedSimpArgs false
/-- the rows of polynomials -/
def plR (L : List (Nat → Nat)) : List (List Value) := L.map fun f => bl 64 f
theorem plR_len (L : List (Nat → Nat)) : (plR L).length = L.length := by simp [plR]
theorem plR_nil : plR [] = [] := rfl
attribute [irreducible] plR
/-- the mark of a cell -/
def mkW (q : Nat) : Value := .int .u8 ((1 + (q : Int)) % 256)
/-- the first q cells of a slice are marked -/
def MkP (w : World) (base : Nat) (v : Value) (n q : Nat) : Prop := ∃ ys, w.ownsRow base 28 64 v n ys ∧ ∀ k, k < q → ys[k]? = some (mkW k)
theorem mkW_some {w : World} {base n q cap : Nat} {a : Option Addr} (h : MkP w base (.slice a n cap) n q) (hn : 0 < n) : ∃ g, a = some ⟨g, 0, none⟩ := by
 obtain ⟨ys, h1, _⟩ := h
 rcases h1.2 with ⟨h2, h3⟩ | ⟨g, c, cur, h2, _⟩
 · omega
 · injection h2 with h2; exact ⟨g, h2⟩
theorem MkP.len {w : World} {base n q : Nat} {v : Value} (h : MkP w base v n q) : True := trivial
theorem SlL.marksP {w : World} {base n : Nat} {v : Value} {cs : List (List Value)} (h : SlL w base 28 64 v cs) (hn : cs.length = n) : MkP w base v n 0 := by
 delta SlL at h
 exact ⟨cs.flatten, hn ▸ h.2.2, fun k hk => absurd hk (by omega)⟩
theorem MkP.own {w : World} {base n q : Nat} {v : Value} (h : MkP w base v n q) : ∀ r, v.ownBlock = Option.some r → base ≤ r ∧ r < w.heap.size := by
 obtain ⟨ys, h1, _⟩ := h
 exact fun r hr => h1.lt r hr
theorem MkP.grown {w w' : World} {base n q : Nat} {v : Value} {row : Option Nat} (h : MkP w base v n q) (hg : w.grownBy w' row) (hr : v.ownBlock = none ∨ v.ownBlock ≠ row) : MkP w' base v n q := by
 obtain ⟨ys, h1, h2⟩ := h
 exact ⟨ys, h1.kept hg hr, h2⟩
theorem MkP.below {w w' : World} {base n q : Nat} {v : Value} (h : MkP w base v n q) (hb : Below w.heap.size w w') : MkP w' base v n q :=
 h.grown (row := none) ⟨hb.os, hb.tape, hb.output, hb.size, fun k hk _ => hb.block k hk⟩ (by
  cases hv : v.ownBlock with
  | none => exact .inl rfl
  | some k => exact .inr (by simp))
theorem MkP.step {w : World} {base n q g cap : Nat} (h : MkP w base (.slice (some ⟨g, 0, none⟩) n cap) n q) (hq : q < n * 64) :
 (∃ u, w.cell? ⟨g, q, none⟩ = Option.some u) ∧ w.frozen? ⟨g, q, none⟩ = false ∧ MkP (w.setCell ⟨g, q, none⟩ (mkW q)) base (.slice (some ⟨g, 0, none⟩) n cap) n (q + 1) ∧ w.grownBy (w.setCell ⟨g, q, none⟩ (mkW q)) (Option.some g) := by
 obtain ⟨ys, h1, h2⟩ := h
 have hl : q < ys.length := by rw [h1.1]; exact hq
 obtain ⟨s1, s2⟩ := h1.stored q (mkW q)
 refine ⟨⟨ys[q], by rw [h1.cellAt q hq]; exact List.getElem?_eq_getElem hl⟩, h1.frozenAt q, ⟨_, s1, fun k hk => ?_⟩, s2⟩
 rw [List.getElem?_set]
 by_cases e : q = k
 · subst e; rw [if_pos rfl, if_pos hl]
 · rw [if_neg e]; exact h2 k (by omega)
theorem MkP.cell {w : World} {base n q g cap k : Nat} (h : MkP w base (.slice (some ⟨g, 0, none⟩) n cap) n q) (hk : k < q) (hq : q ≤ n * 64) : w.cell? ⟨g, k, none⟩ = Option.some (mkW k) := by
 obtain ⟨ys, h1, h2⟩ := h
 rw [h1.cellAt k (by omega)]
 exact h2 k hk
theorem MkP.same {w : World} {base n q : Nat} {v : Value} (h : MkP w base v n q) (r : Nat) (e : r = q) : MkP w base v n r := e ▸ h
attribute [local irreducible] mkW MkP
end Go.Proofs.Ytelgefgphhebnaa
end
section
namespace Go.Proofs.Ytelgefgphhebnaa
open Go Go.RowKit
set_option linter.unusedVariables false
/-- the rows F, of c cells each, one behind the other -/
def fl (c : Nat) (F : Nat → Nat → Nat) : Nat → Nat := fun k => F (k / c) (k % c)
/-- F with the row i replaced -/
def updR (F : Nat → Nat → Nat) (i : Nat) (g : Nat → Nat) : Nat → Nat → Nat := fun r => if r = i then g else F r
theorem updR_same (F : Nat → Nat → Nat) (i : Nat) (g : Nat → Nat) : updR F i g i = g := if_pos rfl
theorem updR_other {F : Nat → Nat → Nat} {i r : Nat} {g : Nat → Nat} (h : r ≠ i) : updR F i g r = F r := if_neg h
theorem updR_twice (F : Nat → Nat → Nat) (i : Nat) (g : Nat → Nat) : updR (updR F i g) i g = updR F i g := by
 funext r; unfold updR; split <;> rfl
theorem fl_at {c : Nat} {F : Nat → Nat → Nat} {i j : Nat} (hj : j < c) : fl c F (i * c + j) = F i j := by
 unfold fl
 rw [Nat.mul_comm i c, Nat.mul_add_div (by omega), Nat.div_eq_of_lt hj, Nat.mul_add_mod, Nat.mod_eq_of_lt hj, Nat.add_zero]
theorem fl_zero (c : Nat) : fl c (fun _ _ => 0) = fun _ => 0 := by delta fl; rfl
/-- m cells from o on replaced -/
def sub (f : Nat → Nat) (o m : Nat) (g : Nat → Nat) : Nat → Nat := fun k => if o ≤ k ∧ k < o + m then g (k - o) else f k
theorem sub_fl {c i : Nat} {F : Nat → Nat → Nat} {g : Nat → Nat} (hc : 0 < c) : sub (fl c F) (i * c) c g = fl c (updR F i g) := by
 funext k
 unfold sub fl updR
 have e := Nat.div_add_mod k c
 have hm := Nat.mod_lt k hc
 by_cases h : k / c = i
 · subst h
   rw [Nat.mul_comm] at e
   rw [if_pos rfl, if_pos ⟨by omega, by omega⟩]
   congr 1
   omega
 · rw [if_neg h, if_neg]
   rintro ⟨h1, h2⟩
   exact h (Nat.div_eq_of_lt_le (by omega) (by rw [Nat.succ_mul]; omega))
theorem setCells_row {b : Nat} {t : TypeId} : ∀ (vs : List Value) (o : Nat) (w : World) (cs : Array Value), w.heap[b]? = some (.cells cs t (0, 0)) →
 w.setCells b o vs = w.setRow b ((vs.zipIdx 0).foldl (fun (c : Array Value) (x : Value × Nat) => c.setIfInBounds (o + x.2) x.1) cs) := by
 intro vs
 induction vs with
 | nil =>
  intro o w cs h
  simp only [World.setCells, List.zipIdx_nil, List.foldl_nil]
  exact (setRow_self w b cs t (0, 0) h).symm
 | cons v vs ih =>
  intro o w cs h
  rw [World.setCells, ih (o + 1) _ _ (heap_setCell_same _ _ _ _ _ _ h)]
  rw [List.zipIdx_cons, List.foldl_cons]
  have e : ∀ (l : List Value) (k : Nat) (c : Array Value), (l.zipIdx k).foldl (fun (c : Array Value) (x : Value × Nat) => c.setIfInBounds (o + 1 + x.2) x.1) c = (l.zipIdx (k + 1)).foldl (fun (c : Array Value) (x : Value × Nat) => c.setIfInBounds (o + x.2) x.1) c := by
   intro l
   induction l with
   | nil => intro k c; rfl
   | cons y l ihl =>
    intro k c
    simp only [List.zipIdx_cons, List.foldl_cons]
    rw [ihl (k + 1), show o + 1 + k = o + (k + 1) by omega]
  rw [e, Nat.zero_add, Nat.add_zero]
  rw [setCell_eq_setRow w b o cs t (0, 0) v h, setRow_setRow]
theorem Blk.there_at {w : World} {b n : Nat} {t : TypeId} {f : Nat → Nat} (h : Blk w b n t f) {o m : Nat} (ho : o + m ≤ n) : w.there b o m := by
 intro j hj
 rw [h.cell (i := o + j) (by omega)]
 exact ⟨rfl, h.frozen _⟩
theorem Blk.range_at {w : World} {b n : Nat} {t : TypeId} {f : Nat → Nat} (h : Blk w b n t f) {o m : Nat} (ho : o + m ≤ n) {g : Nat → Nat} (hg : ∀ j, j < m → f (o + j) = g j) : w.rangeAt b o (bl m g) := by
 intro j v hv
 have hj : j < m := by have := (List.getElem?_eq_some_iff.1 hv).1; rwa [zl] at this
 rw [h.cell (i := o + j) (by omega), hg j hj]
 unfold bl at hv
 simp [hj] at hv
 rw [← hv]
theorem Blk.rowF {w : World} {b c r : Nat} {t : TypeId} {F : Nat → Nat → Nat} (h : Blk w b (r * c) t (fl c F)) {i : Nat} (hi : i < r) : w.rangeAt b (i * c) (bl c (F i)) :=
 h.range_at (by have := Nat.mul_le_mul_right c (show i + 1 ≤ r by omega); rw [Nat.succ_mul] at this; exact this) (fun j hj => fl_at hj)
theorem foldl_bcells {n o m : Nat} {f g : Nat → Nat} (ho : o + m ≤ n) : ((bl m g).zipIdx 0).foldl (fun (c : Array Value) (x : Value × Nat) => c.setIfInBounds (o + x.2) x.1) (zb n f) = zb n (sub f o m g) := by
 have key : ∀ (k : Nat), k ≤ m → (((bl m g).take k).zipIdx 0).foldl (fun (c : Array Value) (x : Value × Nat) => c.setIfInBounds (o + x.2) x.1) (zb n f) = zb n (sub f o k g) := by
  intro k
  induction k with
  | zero =>
   intro _
   rw [List.take_zero, List.zipIdx_nil, List.foldl_nil]
   exact zbc fun i _ => by unfold sub; rw [if_neg (by omega)]
  | succ k ih =>
   intro hk
   have hv : (bl m g)[k]? = some (.int .u8 (g k : Int)) := by unfold bl; have : k < m := (by omega); simp [this]
   rw [List.take_add_one, hv, List.zipIdx_append, List.foldl_append, ih (by omega)]
   have hl : ((bl m g).take k).length = k := by rw [List.length_take, zl]; omega
   rw [hl]
   simp only [Option.toList_some, List.zipIdx_cons, List.zipIdx_nil, List.foldl_cons, List.foldl_nil, Nat.zero_add]
   rw [bcells_set]
   exact zbc fun i _ => by
    unfold upd sub
    by_cases h1 : i = o + k
    · subst h1; rw [if_pos rfl, if_pos ⟨by omega, by omega⟩, Nat.add_sub_cancel_left]
    · rw [if_neg h1]
      by_cases h2 : o ≤ i ∧ i < o + k
      · rw [if_pos h2, if_pos ⟨h2.1, by omega⟩]
      · rw [if_neg h2, if_neg (by omega)]
 have := key m (Nat.le_refl _)
 rwa [List.take_of_length_le (by rw [zl]; exact Nat.le_refl _)] at this
theorem Blk.setCells {w : World} {b n : Nat} {t : TypeId} {f : Nat → Nat} (h : Blk w b n t f) {o m : Nat} (ho : o + m ≤ n) (g : Nat → Nat) : w.setCells b o (bl m g) = w.setRow b (zb n (sub f o m g)) := by
 have h' : w.heap[b]? = some (.cells (zb n f) t (0, 0)) := by unfold Blk at h; exact h
 rw [setCells_row _ _ _ _ h', foldl_bcells ho]
section
variable {P : Program}
theorem wp_store_rowF {o : Oper} {a : Act} {w : World} {K : Act → World → Prop} {Q : Exit → Act → World → Prop} (ty : TypeId) (x y : Operand) (ho : o.op = .store ty x y)
 (b i c r : Nat) (g : Nat → Nat) (hx : a.eval x = .pointer (some ⟨b, i * c, none⟩)) (hy : a.eval y = .agg (zb c g)) (t : TypeId) (F : Nat → Nat → Nat) (hb : Blk w b (r * c) t (fl c F)) (hi : i < r) (hc : 0 < c)
 (hs : (P.info? ty).map (·.size) = some c) (h : K (a.put o.dst undef) (w.setRow b (zb (r * c) (fl c (updR F i g))))) : o.wp P a w K Q := by
 have ho2 : i * c + c ≤ r * c := by have := Nat.mul_le_mul_right c (show i + 1 ≤ r by omega); rw [Nat.succ_mul] at this; exact this
 refine wp_store_mid ty x y ho b (i * c) (zb c g) hx hy (by rw [zbs]; exact hb.there_at ho2) (by rw [zbs]; exact hs) (bcells_one c g) ?_
 rw [show (zb c g).toList = bl c g from rfl, hb.setCells ho2, sub_fl hc]
 exact h
theorem wpList_store_rowF {ops : Array Oper} {rest : List Oper} {o : Oper} {a : Act} {w : World} {Q : Exit → Act → World → Prop} (hgd : o.guard = none) (ty : TypeId) (x y : Operand) (ho : o.op = .store ty x y)
 (b i c r : Nat) (g : Nat → Nat) (hx : a.eval x = .pointer (some ⟨b, i * c, none⟩)) (hy : a.eval y = .agg (zb c g)) (t : TypeId) (F : Nat → Nat → Nat) (hb : Blk w b (r * c) t (fl c F)) (hi : i < r) (hc : 0 < c)
 (hs : (P.info? ty).map (·.size) = some c) (h : wpList P ops Q rest (a.put o.dst undef) (w.setRow b (zb (r * c) (fl c (updR F i g))))) : wpList P ops Q (o :: rest) a w :=
 wpList_plain hgd fun _ hK => wp_store_rowF ty x y ho b i c r g hx hy t F hb hi hc hs (hK _ _ h)
theorem wpList_load_mid_g {ops : Array Oper} {rest : List Oper} {op : Oper} {a : Act} {w : World} {Q : Exit → Act → World → Prop} (hw : Region.wanted op (yielded ops a.tmps) = true) (ty : TypeId) (x : Operand) (ho : op.op = .load ty x)
 (b o : Nat) (hx : a.eval x = .pointer (some ⟨b, o, none⟩)) (cs : List Value) (d : TypeDesc) (hc : w.rangeAt b o cs)
 (hu : P.underlying ty = some d) (hd : d.isRow = true) (hi : (P.info? ty).map (·.size) = some cs.length)
 (h : wpList P ops Q rest (a.put op.dst (.agg cs.toArray)) w) : wpList P ops Q (op :: rest) a w := by
 unfold wpList
 rw [if_pos hw]
 exact Or.inl (wp_load_mid ty x ho b o hx cs d hc hu hd hi h)
end
attribute [irreducible] fl
end Go.Proofs.Ytelgefgphhebnaa
end
section
namespace Go.Proofs.Ytelgefgphhebnaa
open Go Go.RowKit
set_option linter.unusedVariables false
/-- the blocks of w, those of S aside, are in w' as they were -/
def Kx (S : List Nat) (w w' : World) : Prop := w.heap.size ≤ w'.heap.size ∧ ∀ b, b < w.heap.size → b ∉ S → w'.heap[b]? = w.heap[b]?
theorem Kx.start (S : List Nat) (w : World) : Kx S w w.drew := ⟨Nat.le_refl _, fun _ _ _ => rfl⟩
theorem Kx.below {S : List Nat} {w w1 w2 : World} (h : Kx S w w1) (hy : Below w1.heap.size w1 w2) : Kx S w w2 :=
 ⟨Nat.le_trans h.1 hy.size, fun b hb hs => (hy.block b (Nat.lt_of_lt_of_le hb h.1)).trans (h.2 b hb hs)⟩
theorem Kx.alloc {S : List Nat} {w w1 : World} (h : Kx S w w1) (o : Obj) : Kx S w (w1.alloc o) := h.below (zal _ _)
theorem Kx.row {S : List Nat} {w w1 : World} (h : Kx S w w1) {s : Nat} (hs : s ∈ S) (cs : Array Value) : Kx S w (w1.setRow s cs) :=
 ⟨by simpa [World.setRow] using h.1, fun b hb hn => by rw [setRow_other _ _ _ _ (fun e => hn (by rw [e]; exact hs))]; exact h.2 b hb hn⟩
theorem Blk.kx {S : List Nat} {w w' : World} {b n : Nat} {t : TypeId} {f : Nat → Nat} (h : Blk w b n t f) (hX : Kx S w w') (hn : b ∉ S) : Blk w' b n t f := by
 have hl := h.lt
 unfold Blk at *; rw [hX.2 b hl hn]; exact h
theorem Row.kx {S : List Nat} {w w' : World} {b : Nat} {t : TypeId} {cs : Array Value} (h : Row w b t cs) (hX : Kx S w w') (hn : b ∉ S) : Row w' b t cs := h.of (hX.2 b h.lt hn)
theorem One.kx {S : List Nat} {w w' : World} {b : Nat} {t : TypeId} {v : Value} (h : One w b t v) (hX : Kx S w w') (hn : b ∉ S) : One w' b t v := h.of (hX.2 b h.lt hn)
end Go.Proofs.Ytelgefgphhebnaa
end
section
namespace Go.Proofs.Ytelgefgphhebnaa
open Go Go.RowKit
set_option linter.unusedVariables false
/-- the degree among the rows below n -/
def skN (F : Nat → Nat → Nat) : Nat → Int
 | 0 => -1
 | n + 1 => if eqN 64 (F n) (fun _ => 0) = true then skN F n else (n : Int)
theorem skN_z (F : Nat → Nat → Nat) : skN F 0 = -1 := by unfold skN; rfl
theorem skN_skip {F : Nat → Nat → Nat} {n : Nat} (h : eqN 64 (F n) (fun _ => 0) = true) : skN F (n + 1) = skN F n := by rw [skN, if_pos h]
theorem skN_stop {F : Nat → Nat → Nat} {n : Nat} (h : eqN 64 (F n) (fun _ => 0) = false) : skN F (n + 1) = (n : Int) := by rw [skN, if_neg (by rw [h]; simp)]
theorem skN_bounds (F : Nat → Nat → Nat) : ∀ n, -1 ≤ skN F n ∧ skN F n < (n : Int)
 | 0 => by rw [skN_z]; omega
 | n + 1 => by
  have := skN_bounds F n
  rw [skN]; split <;> omega
attribute [irreducible] skN
end Go.Proofs.Ytelgefgphhebnaa
end
section
namespace Go.Proofs.Ytelgefgphhebnaa
open Go Go.RowKit
set_option linter.unusedVariables false
/-- the address of a slice whose first A rows are F -/
def SlR (w : World) (a : Option Addr) (A : Nat) (F : Nat → Nat → Nat) : Prop :=
 A = 0 ∨ ∃ b n t, a = some ⟨b, 0, none⟩ ∧ A ≤ n ∧ Blk w b (n * 64) t (fl 64 F)
theorem SlR.has {w : World} {a : Option Addr} {A : Nat} {F : Nat → Nat → Nat} (h : SlR w a A F) (hA : 0 < A) : ∃ b n t, a = some ⟨b, 0, none⟩ ∧ A ≤ n ∧ Blk w b (n * 64) t (fl 64 F) := by
 rcases h with h | h
 · omega
 · exact h
theorem SlR.of {w : World} {b n A : Nat} {t : TypeId} {F : Nat → Nat → Nat} (h : Blk w b (n * 64) t (fl 64 F)) (hA : A ≤ n) : SlR w (some ⟨b, 0, none⟩) A F := .inr ⟨b, n, t, rfl, hA, h⟩
theorem SlR.nil (w : World) (F : Nat → Nat → Nat) : SlR w none 0 F := .inl rfl
theorem SlR.below {w w' : World} {a : Option Addr} {A : Nat} {F : Nat → Nat → Nat} (h : SlR w a A F) (hb : Below w.heap.size w w') : SlR w' a A F := by
 rcases h with h | ⟨b, n, t, e, hA, h⟩
 · exact .inl h
 · exact .inr ⟨b, n, t, e, hA, h.zw hb⟩
theorem bcells_made (n : Nat) : madeCells (zb 64 fun _ => 0) (n * 64) = zb (n * 64) (fl 64 fun _ _ => 0) := by
 rw [fl_zero]
 apply Array.ext
 · rw [size_madeCells, zbs]
 · intro i h1 h2
   rw [zbs] at h2
   have e := bcells_get (n := n * 64) (f := fun _ => 0) (i := i) h2
   rw [Array.getElem?_eq_getElem (by rw [zbs]; exact h2)] at e
   injection e with e
   rw [e]
   have hm : i % 64 < 64 := Nat.mod_lt _ (by decide)
   have e2 := bcells_get (n := 64) (f := fun _ => 0) (i := i % 64) hm
   unfold madeCells
   simp only [Array.getElem_map, Array.getElem_range, zbs]
   rw [getElem!_def, e2]
section
variable {P : Program}
theorem wpList_make_rows (w : World) {ops : Array Oper} {rest : List Oper} {o : Oper} {a : Act} {Q : Exit → Act → World → Prop} (hg : o.guard = none) (t : TypeId) (l c : Operand) (hop : o.op = .makeSlice t l c)
 (e : TypeId) (ht : P.underlying t = some (.slice e)) (hinfo : (P.info? e).map (fun i => (i.zero.map (·.cells), i.size, i.bytes)) = some (some (zb 64 fun _ => 0), 64, 64)) (n : Nat) (hn : n ≤ 100000)
 (hl : a.eval l = .int .i64 (n : Int)) (hc : a.eval c = .int .i64 (n : Int))
 (hK : wpList P ops Q rest (a.put o.dst (.slice (some ⟨w.heap.size, 0, none⟩) n n)) (w.alloc (.cells (zb (n * 64) (fl 64 fun _ _ => 0)) e))) :
 wpList P ops Q (o :: rest) a w := by
 refine wpList_plain hg fun K hK' => ?_
 obtain ⟨i, hi, hzz⟩ := Option.map_eq_some_iff.1 hinfo
 simp only [Prod.mk.injEq] at hzz
 obtain ⟨hz0, hs, hb⟩ := hzz
 obtain ⟨z, hz, hzc⟩ := Option.map_eq_some_iff.1 hz0
 have hrun := run_make (P := P) w t e i z ht hi hz .i64 .i64 n n (by omega) (Int.le_refl _) (by rw [hb]; omega) (by omega)
 rw [Int.toNat_natCast, hs, hzc, bcells_made] at hrun
 unfold Oper.wp
 simp [execOp, hop, hl, hc, hrun, Result.andThen]
 exact hK' _ _ hK
end
def slLen : Value → Nat
 | .slice _ n _ => n
 | _ => 0
theorem Try.made28 : (Try.prog.info? 28).map (fun i => (i.zero.map (·.cells), i.size, i.bytes)) = some (some (zb 64 fun _ => 0), 64, 64) := by simp only [zb, bl]; kernel_rfl
attribute [irreducible] SlR
end Go.Proofs.Ytelgefgphhebnaa
end
section
namespace Go.Proofs.Ytelgefgphhebnaa
open Go Go.RowKit Go.ChangeShapes Go.WideShapes Go.ChangeAt
set_option linter.unusedVariables false
/-- an argument's list: n rows of bytes, somewhere -/
def Lst (w : World) (a : Option Addr) (n : Nat) (X : Nat → Nat → Nat) : Prop :=
 n = 0 ∨ ∃ b off, a = some ⟨b, off, none⟩ ∧ b < w.heap.size ∧ ∀ i, i < n → w.rangeAt b (off + i * 64) (bl 64 (X i))
theorem Lst.has {w : World} {a : Option Addr} {n : Nat} {X : Nat → Nat → Nat} (h : Lst w a n X) (hn : 0 < n) : ∃ b off, a = some ⟨b, off, none⟩ ∧ b < w.heap.size ∧ ∀ i, i < n → w.rangeAt b (off + i * 64) (bl 64 (X i)) := by
 rcases h with h | h
 · omega
 · exact h
theorem Lst.below {w w' : World} {a : Option Addr} {n : Nat} {X : Nat → Nat → Nat} (h : Lst w a n X) (hb : Below w.heap.size w w') : Lst w' a n X := by
 rcases h with h | ⟨b, off, e, hl, h⟩
 · exact .inl h
 · refine .inr ⟨b, off, e, Nat.lt_of_lt_of_le hl hb.size, fun i hi j v hj => ?_⟩
   rw [← h i hi j v hj]
   exact World.cell?_of_block (hb.block b hl)
theorem cell_lt {w : World} {b off : Nat} {u : Value} (h : w.cell? ⟨b, off, none⟩ = some u) : b < w.heap.size := by
 apply Classical.byContradiction
 intro hn
 have : w.heap[b]? = none := Array.getElem?_eq_none (by omega)
 simp [World.cell?, this] at h
section
variable {H : Type} {enc : TypeId × Value → H} {P : Program}
theorem open_cells {t e : TypeId} {n : Nat} {w : World} {base : Nat} {spare : Nat → Bool} {held : Bool} {fuel : Nat} {cs : List Value} {x : DataW H × List MemPlace}
 (ht : P.underlying t = some (.array n e)) (he : P.underlying e = some (.int .u8)) (hC : P.cellsOf t = n) (hCe : P.cellsOf e = 1) (h : DataW.trod enc P w base spare held fuel t cs = some x) :
 ∃ f : Nat → Nat, byte f ∧ cs = bl n f := by
 obtain ⟨xs, m, hm, hx, hlen, hxl, hel⟩ := DataW.trod_array ht h
 have hcs : cs.length = n := by rw [hlen, hC]
 have each : ∀ i, i < n → ∃ k : Nat, k < 256 ∧ cs[i]? = some (.int .u8 (k : Int)) := by
  intro i hi
  have h1 := hel i hi
  have hxi : xs[i]? = some (xs[i]'(by omega)) := List.getElem?_eq_getElem (by omega)
  rw [hxi, hCe] at h1
  obtain ⟨z, hz1, hz2, hz3⟩ := DataW.trod_int he h1
  have hb := bounds_u8 hz3
  obtain ⟨k, rfl⟩ := Int.eq_ofNat_of_zero_le hb.1
  refine ⟨k, by omega, ?_⟩
  have h2 : ((cs.drop (i * 1)).take 1)[0]? = some (.int .u8 (k : Int)) := by rw [hz1]; rfl
  simpa using h2
 refine ⟨fun i => match cs[i]? with | some (.int _ z) => if i < n then z.toNat else 0 | _ => 0, ?_, ?_⟩
 · intro i
   by_cases hi : i < n
   · obtain ⟨k, hk, hc⟩ := each i hi
     simp only [hc, hi, if_true, Int.toNat_natCast]
     exact hk
   · have : cs[i]? = none := List.getElem?_eq_none (by omega)
     simp [this]
 · apply List.ext_getElem?
   intro i
   by_cases hi : i < n
   · obtain ⟨k, hk, hc⟩ := each i hi
     unfold bl
     rw [List.getElem?_map, List.getElem?_range hi]
     simp only [Option.map_some, hc, hi, if_true, Int.toNat_natCast]
   · rw [List.getElem?_eq_none (by omega), List.getElem?_eq_none (by rw [zl]; omega)]
/-- the argument, opened -/
theorem open_polyS {t e u : TypeId} {w : World} {v : Value} {d : DataW H} {p : List MemPlace} {r : Reach} {b0 : Nat} (hv : Value.okWide P w r b0 t v)
 (ht : P.underlying t = some (.slice e)) (he : P.underlying e = some (.array 64 u)) (hu : P.underlying u = some (.int .u8)) (hCe : P.cellsOf e = 64) (hCu : P.cellsOf u = 1) (h : DataW.Trod enc P w 0 (fun _ => true) true t v d p) :
 ∃ (a : Option Addr) (n cap : Nat) (X : Nat → Nat → Nat), v = .slice a n cap ∧ n ≤ maxLen ∧ (∀ i, byte (X i)) ∧ Lst w a n X := by
 obtain ⟨a0, l0, c0, rfl⟩ := okWide_slice ht hv
 obtain ⟨fuel, hf⟩ := h
 rcases Go.Deep.open_slice ht hf with ⟨hv, _⟩ | ⟨a, len, cap, m, n, D, Pl, hv, hb, hl, hm, hmm, hx, hcell⟩
 · have : Value.slice a0 l0 c0 = .slice none 0 0 := by simpa [Value.cells] using hv
   exact ⟨none, 0, 0, fun _ _ => 0, this, Nat.zero_le _, fun _ _ => Nat.zero_lt_succ _, .inl rfl⟩
 · have hv2 : Value.slice a0 l0 c0 = .slice (some a) len cap := by simpa [Value.cells] using hv
   have hm2 : m = cap := by simpa using hmm
   obtain ⟨X, hX⟩ := Go.Deep.choose_lt (α := Nat → Nat) (n := len) (p := fun i f => byte f ∧ w.cells? 0 (a.add (i * 64)) 64 = some (bl 64 f)) (fun i hi => by
    obtain ⟨cs', h1, h2⟩ := hcell i (by omega)
    obtain ⟨f, hf1, hf2⟩ := open_cells he hu hCe hCu h2
    rw [hCe] at h1
    exact ⟨f, hf1, by rw [h1, hf2]⟩)
   refine ⟨some a, len, cap, fun i j => if i < len then X i j else 0, hv2, Nat.le_trans hl hm, fun i j => ?_, ?_⟩
   · by_cases hi : i < len
     · simp only [hi, if_true]; exact (hX i hi).1 j
     · simp only [hi, if_false]; decide
   · by_cases h0 : len = 0
     · exact .inl h0
     · have key : ∀ i, i < len → ∀ j, j < 64 → w.cell? (a.add (i * 64 + j)) = (bl 64 (X i))[j]? := by
        intro i hi j hj
        have := (World.cells?_some (hX i hi).2).2.2 j hj
        rw [Go.Deep.add_add] at this
        exact this
       have k0 := key 0 (by omega) 0 (by decide)
       obtain ⟨b, off, spot⟩ := a
       have hc0 : ∃ u, w.cell? ((⟨b, off, spot⟩ : Addr).add 0) = some u := by
        rw [show (0 : Nat) * 64 + 0 = 0 from rfl] at k0
        exact ⟨_, by rw [k0]; exact List.getElem?_eq_getElem (by rw [zl]; decide)⟩
       obtain ⟨u0, hu0⟩ := hc0
       have hspot : spot = none := by simpa [Addr.add] using World.cell?_spot hu0
       subst hspot
       have hbl : b < w.heap.size := by
        have h3 : w.cell? ⟨b, off, none⟩ = some u0 := by simpa [Addr.add] using hu0
        exact cell_lt h3
       refine .inr ⟨b, off, rfl, hbl, fun i hi j v hj => ?_⟩
       have hj64 : j < 64 := by have := (List.getElem?_eq_some_iff.1 hj).1; rw [zl] at this; exact this
       simp only [hi, if_true] at hj
       rw [Nat.add_assoc, ← Go.WideShapes.add_plain, key i hi j hj64]
       exact hj
end
section
variable {H : Type} {enc : TypeId × Value → H} {P : Program}
/-- the row's last step where the call has only made new memory; arguments that lead into old memory -/
theorem post_of_belowL {f : Func} {s : ChangeSpec} {apart fresh handsOn : Bool} {W W' : World} {args : Array Value} {v : Value} {ds gs : List (DataW H)} {before pa pv : List MemPlace}
 (hW : DataW.Whole enc P f.params.toList s.vars apart W args.toList ds gs before)
 (hres : ∀ (b : Nat) (sp : Nat → Bool) (hd : Bool), DataW.TrodAll enc P W' b sp hd f.resultTypes.toList (v.resultList f.resultTypes.size) (s.fn H (ds ++ gs)).results [])
 (hargs : DataW.TrodAll enc P W' 0 (fun b => decide (b < W.heap.size)) true f.params.toList args.toList (s.fn H (ds ++ gs)).args pa)
 (hvars : DataW.TrodVars enc P W' (fun b => decide (b < W.heap.size)) s.vars (s.fn H (ds ++ gs)).vars pv)
 (hps : before = pa ++ pv) (hb : Below W.heap.size W W') : s.post enc P f apart fresh handsOn false W args v W' := by
 refine ⟨ds, gs, before, [], pa, pv, hW, hres _ _ _, hargs, hvars, ?_, fun h => by cases h⟩
 refine World.keptBut_mono (fun p hp => ⟨hp, .inr ?_⟩) (hb.frame (· ∈ before))
 rw [hps, List.mem_append] at hp
 exact hp
end
/-- rows that are made at once, as a list -/
theorem slL_ofBlk {w : World} {b n base : Nat} {F : Nat → Nat → Nat} (h : Blk w b (n * 64) 28 (fl 64 F)) (hb : base ≤ b) (hn : n ≤ maxLen) :
 SlL w base 28 64 (.slice (some ⟨b, 0, none⟩) n n) (plR ((List.range n).map F)) := by
 have hlen : (plR ((List.range n).map F)).length = n := by rw [plR_len]; simp
 have hall : ∀ c ∈ plR ((List.range n).map F), c.length = 64 := by
  intro c hc
  unfold plR at hc
  obtain ⟨f, _, rfl⟩ := List.mem_map.1 hc
  exact zl _ _
 have hfl : (plR ((List.range n).map F)).flatten = bl (n * 64) (fl 64 F) := by
  apply List.ext_getElem?
  intro k
  by_cases hk : k < n * 64
  · have hd : k / 64 < n := Nat.div_lt_of_lt_mul (by rw [Nat.mul_comm]; exact hk)
    have hm : k % 64 < 64 := Nat.mod_lt _ (by decide)
    have h1 : (plR ((List.range n).map F))[k / 64]? = some (bl 64 (F (k / 64))) := by
     unfold plR
     rw [List.getElem?_map, List.getElem?_map, List.getElem?_range hd]; rfl
    have h2 : (bl 64 (F (k / 64)))[k % 64]? = some (.int .u8 (F (k / 64) (k % 64) : Int)) := by
     unfold bl
     rw [List.getElem?_map, List.getElem?_range hm]; rfl
    have h3 := flat_at (plR ((List.range n).map F)) 64 (k / 64) _ (k % 64) _ hall h1 h2
    rw [show k / 64 * 64 + k % 64 = k by omega] at h3
    rw [h3]
    unfold bl fl
    rw [List.getElem?_map, List.getElem?_range hk]; rfl
  · have hlf : (plR ((List.range n).map F)).flatten.length = n * 64 := by
     rw [List.length_flatten, show (plR ((List.range n).map F)).map List.length = List.replicate n 64 from List.eq_replicate_iff.2 ⟨by rw [List.length_map, hlen], fun x hx => by obtain ⟨c, hc, rfl⟩ := List.mem_map.1 hx; exact hall c hc⟩, List.sum_replicate_nat]
    rw [List.getElem?_eq_none (l := (plR ((List.range n).map F)).flatten) (by omega), List.getElem?_eq_none (by rw [zl]; omega)]
 unfold SlL
 refine ⟨Nat.le_trans hb (Nat.le_of_lt h.lt), hall, ?_⟩
 unfold Blk at h
 refine ⟨?_, .inr ⟨b, n, zb (n * 64) (fl 64 F), by rw [hlen], hb, h, by rw [hlen]; exact Nat.le_refl _, hn, zbs _ _, ?_⟩⟩
 · rw [hfl, zl, hlen]
 · rw [hlen, hfl, show (zb (n * 64) (fl 64 F)).toList = bl (n * 64) (fl 64 F) from rfl]
   exact List.take_of_length_le (by rw [zl]; exact Nat.le_refl _)
section
variable {P : Program}
theorem wpList_make_rowsB (w : World) {ops : Array Oper} {rest : List Oper} {o : Oper} {a : Act} {Q : Exit → Act → World → Prop} (hg : o.guard = none) (t : TypeId) (l c : Operand) (hop : o.op = .makeSlice t l c)
 (e : TypeId) (ht : P.underlying t = some (.slice e)) (hinfo : (P.info? e).map (fun i => (i.zero.map (·.cells), i.size, i.bytes)) = some (some (zb 64 fun _ => 0), 64, 64)) (n : Nat) (hn : (n : Int) ≤ 1048576)
 (hl : a.eval l = .int .i64 (n : Int)) (hc : a.eval c = .int .i64 (n : Int))
 (hK : wpList P ops Q rest (a.put o.dst (.slice (some ⟨w.heap.size, 0, none⟩) n n)) (w.alloc (.cells (zb (n * 64) (fl 64 fun _ _ => 0)) e))) :
 wpList P ops Q (o :: rest) a w := by
 refine wpList_plain hg fun K hK' => ?_
 obtain ⟨i, hi, hzz⟩ := Option.map_eq_some_iff.1 hinfo
 simp only [Prod.mk.injEq] at hzz
 obtain ⟨hz0, hs, hb⟩ := hzz
 obtain ⟨z, hz, hzc⟩ := Option.map_eq_some_iff.1 hz0
 have hrun := run_make (P := P) w t e i z ht hi hz .i64 .i64 n n (by omega) (Int.le_refl _) (by rw [hb]; omega) (by omega)
 rw [Int.toNat_natCast, hs, hzc, bcells_made] at hrun
 unfold Oper.wp
 simp [execOp, hop, hl, hc, hrun, Result.andThen]
 exact hK' _ _ hK
end
attribute [irreducible] Lst
end Go.Proofs.Ytelgefgphhebnaa
end
section
set_option linter.unusedVariables false
namespace Go.Proofs.Ytelgefgphhebnaa
open Rg
/-- T^q in the place of T -/
def strP (q : Nat) (x : Nat → Nat) : Nat → Nat := fun k => if k % q = 0 then x (k / q) else 0
theorem strP_lt {p q : Nat} {x : Nat → Nat} (hp : 0 < p) (hq : 1 ≤ q) (hx : ∀ k, k < 64 → x k < p) (k : Nat) (hk : k < 64) : strP q x k < p := by
 unfold strP
 split
 · exact hx _ (Nat.lt_of_le_of_lt (Nat.div_le_self _ _) hk)
 · exact hp
end Go.Proofs.Ytelgefgphhebnaa
end
section
namespace Go.Proofs.Ytelgefgphhebnaa
open Go Go.RowKit
set_option linter.unusedVariables false
set_option linter.unusedSimpArgs false
theorem wp_load_rowv {P : Program} {o : Oper} {a : Act} {w : World} {K : Act → World → Prop} {Q : Exit → Act → World → Prop} (ty : TypeId) (x : Operand) (ho : o.op = .load ty x)
 (b : Nat) (hx : a.eval x = .pointer (some ⟨b, 0, none⟩)) (t : TypeId) (cs : Array Value) (hb : Row w b t cs) (d : TypeDesc)
 (hu : P.underlying ty = some d) (hd : (match d with | .struct _ | .array _ _ => true | _ => false) = true) (n : Nat) (hi : (P.info? ty).map (·.size) = some n) (hn : cs.size = n) (h : K (a.put o.dst (.agg cs)) w) : o.wp P a w K Q := by
 have hb' : w.heap[b]? = some (.cells cs t (0, 0)) := by unfold Row at hb; exact hb
 exact wp_load_row ty x ho b hx t _ (0, 0) d hb' hu hd (by rw [hi, hn]) h
/-- the cells below j of the stretched polynomial -/
def spS (q : Nat) (x : Nat → Nat) (j : Nat) : Nat → Nat := fun k => if k % q = 0 ∧ k / q < j then x (k / q) else 0
theorem spS_z (q : Nat) (x : Nat → Nat) : spS q x 0 = fun _ => 0 := by funext k; unfold spS; rw [if_neg (fun h => Nat.not_lt_zero _ h.2)]
theorem spS_s {q j : Nat} {x : Nat → Nat} (hq : 1 ≤ q) (k : Nat) : (if k = j * q then x j else spS q x j k) = spS q x (j + 1) k := by
 unfold spS
 by_cases h : k = j * q
 · subst h
   have e1 : j * q % q = 0 := Nat.mul_mod_left j q
   have e2 : j * q / q = j := Nat.mul_div_cancel j (by omega)
   rw [if_pos rfl, e1, e2, if_pos ⟨rfl, by omega⟩]
 · rw [if_neg h]
   by_cases h1 : k % q = 0
   · have e := Nat.div_add_mod k q
     have : k / q ≠ j := by
      intro h2; rw [h2, h1, Nat.add_zero, Nat.mul_comm] at e; omega
     by_cases h3 : k / q < j
     · rw [if_pos ⟨h1, h3⟩, if_pos ⟨h1, by omega⟩]
     · rw [if_neg (fun h => h3 h.2), if_neg (fun h => by have := h.2; omega)]
   · rw [if_neg (fun h => h1 h.1), if_neg (fun h => h1 h.1)]
theorem spS_end {q n : Nat} {x : Nat → Nat} (h : deg x < (n : Int)) : ∀ k, k < 64 → spS q x n k = strP q x k := by
 intro k hk
 unfold spS strP
 by_cases h1 : k % q = 0
 · rw [if_pos h1]
   by_cases h2 : k / q < n
   · rw [if_pos ⟨h1, h2⟩]
   · rw [if_neg (fun h => h2 h.2)]
     have h3 : k / q < 64 := Nat.lt_of_le_of_lt (Nat.div_le_self _ _) hk
     rcases deg_spec x with ⟨_, h5⟩ | ⟨d, hd, h4, _, h5⟩
     · exact (h5 _ h3).symm
     · exact (h5 _ (by omega) h3).symm
 · rw [if_neg (fun h => h1 h.1), if_neg h1]
attribute [local irreducible] deg invN dS qS stp quoP resP addK strP
set_option maxRecDepth 100000 in
set_option maxHeartbeats 1600000 in
theorem stretched_any (q : Nat) (f : Nat → Nat) (w : World) (hq : 1 ≤ q) (hq2 : q ≤ 1000000) (hf : ∀ k, k < 64 → f k < 256) (hd : deg f * (q : Int) ≤ 63) :
 Calls Try.prog 132 #[.agg (zb 64 f), .int .i64 (q : Int)] w fun e w' => e = .returned (.agg (zb 64 (strP q f))) ∧ Below w.heap.size w w' := by
 obtain ⟨gb1, gb2⟩ := zdb f
 obtain ⟨NN, hNN⟩ : ∃ NN : Nat, deg f = (NN : Int) - 1 := ⟨(deg f + 1).toNat, by omega⟩
 have HD := Lib.hid hNN
 have hN6 : NN ≤ 64 := by omega
 have HQ := Lib.hid (show ∀ j, j < NN → j * q ≤ 63 from fun j hj => by
  rw [hNN] at hd
  have h1 : (j : Int) * (q : Int) ≤ ((NN : Int) - 1) * (q : Int) := Int.mul_le_mul_of_nonneg_right (by omega) (by omega)
  have h2 : (j : Int) * (q : Int) ≤ 63 := by omega
  exact_mod_cast h2)
 have HV := Lib.hid (zbc (spS_end (q := q) (x := f) (n := NN) (by omega)))
 have HSS := Lib.hid (fun j k => spS_s (q := q) (j := j) (x := f) hq k)
 have HZ := Lib.hid (spS_z q f)
 clear hNN hd
 go_enter Try.func132, Try.ntmps132
 go_upto_region 1 with (fail)
 rw [← z64]
 obtain ⟨W1, hwo⟩ : ∃ v : World, v = ((w.alloc (.cells (zb 64 (f)) 28)).alloc (.cells (zb 64 fun _ => 0) 28)) := ⟨_, rfl⟩
 have B0 : Blk W1 (w.heap.size) 64 28 (f) := by subst hwo; have := ((Blk.new w 64 28 (f)).alloc (.cells (zb 64 fun _ => 0) 28)); simpa using this
 have B1 : Blk W1 (w.heap.size + 1) 64 28 (fun _ => 0) := by subst hwo; have := (Blk.new (w.alloc (.cells (zb 64 (f)) 28)) 64 28 (fun _ => 0)); simpa using this
 have hb : Below w.heap.size w W1 := by subst hwo; exact (((Below.refl _ _).alloc (Nat.le_refl _) _).alloc (by simp) _)
 rw [← hwo]
 clear hwo
 go_upto_region 2 with (first | rw [← z64])
 have lt_B0 := B0.lt
 have lt_B1 := B1.lt
 have lhb := hb.size
 obtain ⟨W2, hwo, hzQ⟩ : ∃ v : World, v = (W1.alloc (.cells (zb 64 fun _ => 0) 28)) ∧ Blk v (w.heap.size) 64 28 (f) ∧ Blk v (w.heap.size + 1) 64 28 (fun _ => 0) ∧ Blk v (W1.heap.size) 64 28 (fun _ => 0) ∧ Below w.heap.size w v := ⟨_, rfl, (B0.alloc (.cells (zb 64 fun _ => 0) 28)), (B1.alloc (.cells (zb 64 fun _ => 0) 28)), (Blk.new W1 64 28 (fun _ => 0)), (hb.alloc (by have := hb.size; simp; omega) (.cells (zb 64 fun _ => 0) 28))⟩
 rw [← hwo]
 clear hwo B0 B1 hb
 obtain ⟨B0, B1, B2, hb⟩ := hzQ
 obtain ⟨N1, hNN⟩ : ∃ n : Nat, n = W1.heap.size := ⟨_, rfl⟩
 rw [← hNN] at lt_B0 lt_B1 lhb B2 ⊢
 clear hNN
 have zN1_0 := lt_B0
 have zN1_1 := lt_B1
 have zN1 := lhb
 clear lt_B0 lt_B1 lhb
 try simp only [Act.put, pA, pB, pC]
 go_upto_region 99 with (first | (refine zla (.tmp 2) B0 Try.underlying28 Try.size28 ?_) | (go_at_call 77; refine (degree_any f _).mono ?_; rintro e W3 ⟨rfl, hW3⟩; replace B0 := B0.zw hW3; replace B1 := B1.zw hW3; replace B2 := B2.zw hW3; replace hb := (hb).trans (hW3.mono (hb).size); rw [HD.out]))
 have hcnt : ((NN : Int) - 1 + 1) = (NN : Int) := by omega
 go_loopw [10] (fun i wr => ∃ j : Nat, i = .int .i64 (j : Int) ∧ j ≤ NN ∧ Below w.heap.size w wr ∧ Blk wr (w.heap.size) 64 28 f ∧ Blk wr (w.heap.size + 1) 64 28 (fun _ => 0) ∧ Blk wr (N1) 64 28 (spS q f j)) (fun i _ => NN - (intOf i).toNat)
 case atStart => exact ⟨0, rfl, Nat.zero_le _, hb, B0, B1, by rw [HZ.out]; exact B2⟩
 case round =>
  clear hb B0 B1 B2
  obtain ⟨j, rfl, hjn, hb, B0, B1, B2⟩ := hrel
  by_cases hj : j < NN
  · have hji : (j : Int) < (NN : Int) - 1 + 1 := by omega
    have hj6 : j < 64 := by omega
    have hjq := HQ.out j hj
    obtain ⟨J, hJ⟩ : ∃ J, J = j * q := ⟨_, rfl⟩
    have hJi : (j : Int) * (q : Int) = (J : Int) := by rw [hJ]; push_cast; rfl
    have hJ6 : J < 64 := by omega
    have hC6 := hf j hj6
    have HSJ := Lib.hid (show ∀ k, (if k = J then f j else spS q f j k) = spS q f (j + 1) k from fun k => by rw [hJ]; exact HSS.out j k)
    clear hjq
    go_upto_region 5 with (fail)
    have cc := B0.cell (i := j) hj6
    have c5 := B2.cell (i := J) hJ6
    have zz := B2.frozen J
    clear hJ
    have hwr : ∀ x : Int, x = (J : Int) → 0 ≤ x ∧ x < 64 := fun x e => by omega
    go_upto_region 6 with (first | rw [hJi])
    clear cc c5 zz hwr
    have lt_B0 := B0.lt
    have lt_B1 := B1.lt
    have lt_B2 := B2.lt
    have qB0 : Blk (wr.setCell ⟨N1, J, none⟩ (.int .u8 ((f j : Int)))) (w.heap.size) 64 28 (f) := (B0.setOther (by show (w.heap.size) ≠ (N1); omega))
    have qB1 : Blk (wr.setCell ⟨N1, J, none⟩ (.int .u8 ((f j : Int)))) (w.heap.size + 1) 64 28 (fun _ => 0) := (B1.setOther (by show (w.heap.size + 1) ≠ (N1); omega))
    have qB2 : Blk (wr.setCell ⟨N1, J, none⟩ (.int .u8 ((f j : Int)))) (N1) 64 28 (spS q f (j + 1)) := ((B2.set (v := f j) (rfl)).congr (fun k _ => HSJ.out k))
    have qhb : Below w.heap.size w (wr.setCell ⟨N1, J, none⟩ (.int .u8 ((f j : Int)))) := (hb.setCell (by show w.heap.size ≤ (N1); omega) _)
    obtain ⟨W4, hwo⟩ : ∃ v : World, v = (wr.setCell ⟨N1, J, none⟩ (.int .u8 ((f j : Int)))) := ⟨_, rfl⟩
    rw [← hwo] at qB0 qB1 qB2 qhb ⊢
    clear hwo
    clear B0 B1 B2 hb
    have B0 := qB0
    have B1 := qB1
    have B2 := qB2
    have hb := qhb
    clear qB0 qB1 qB2 qhb
    try simp only [Act.put, pA, pB, pC]
    go_wp2_with fail
    go_roundw
    case rel => exact ⟨j + 1, by go_num, by omega, hb, B0, B1, B2⟩
    case measure => simp [intOf] <;> omega
  · have hji : ¬ (j : Int) < (NN : Int) - 1 + 1 := by omega
    obtain rfl : j = NN := by omega
    go_upto_region 7 with (fail)
    have lt_B0 := B0.lt
    have lt_B1 := B1.lt
    have lt_B2 := B2.lt
    go_wp2_with (first | rw [← z64] | (refine zla (.tmp 5) B2 Try.underlying28 Try.size28 ?_) | (refine zsr (.tmp 4) (.tmp 21) (spS q f j) B1 Try.size28 ?_; try simp only [Act.put]))
    obtain ⟨W4, hwo, hzQ⟩ : ∃ v : World, v = (wr.setRow (w.heap.size + 1) (zb 64 (spS q f j))) ∧ Blk v (w.heap.size) 64 28 (f) ∧ Blk v (w.heap.size + 1) 64 28 (spS q f j) ∧ Blk v (N1) 64 28 (spS q f j) ∧ Below w.heap.size w v := ⟨_, rfl, (B0.rowOther (by omega)), (B1.row (spS q f j)), (B2.rowOther (by omega)), (zr hb (by omega) _)⟩
    rw [← hwo]
    clear hwo B0 B1 B2 hb
    obtain ⟨B0, B1, B2, hb⟩ := hzQ
    try simp only [Act.put, pA, pB, pC]
    refine bodyPost_ret (zrb rfl _ _ _ 64 28 5 _ rfl B1 Try.underlying28 Try.size28) rfl ⟨by rw [HV.out], hb⟩
end Go.Proofs.Ytelgefgphhebnaa
end
section
namespace Go.Proofs.Ytelgefgphhebnaa
open Go Go.RowKit
set_option linter.unusedVariables false
set_option linter.unusedSimpArgs false
section
attribute [local irreducible] mkW MkP
set_option maxRecDepth 100000 in
set_option maxHeartbeats 3200000 in
theorem eqPolyS_big (R : List (Nat → Nat)) (a1 a2 : Option Addr) (cap1 cap2 base1 base2 : Nat) (w : World) (h1 : SlL w base1 28 64 (.slice a1 R.length cap1) (plR R)) (h2 : SlL w base2 28 64 (.slice a2 R.length cap2) (plR R)) (hR : R.length ≤ 1048576) :
 Calls Try.prog 20 #[.slice a1 R.length cap1, .slice a2 R.length cap2] w fun e w' => e = .returned (.bool true) ∧ Below w.heap.size w w' := by
 go_enter Try.func20, Try.ntmps20
 go_wp2_with fail
 go_loopw [5] (fun i wr => ∃ j : Nat, i = .int .i64 (j : Int) ∧ j ≤ R.length ∧ Below w.heap.size w wr) (fun i _ => R.length - (intOf i).toNat)
 case atStart => exact ⟨0, rfl, Nat.zero_le _, Below.refl _ _⟩
 case round =>
  obtain ⟨j, rfl, hjR, hb⟩ := hrel
  by_cases hj : j < R.length
  · obtain ⟨x, hx⟩ : ∃ x, R[j]? = some x := ⟨_, List.getElem?_eq_getElem hj⟩
    obtain ⟨g1, rfl⟩ := h1.some (by rw [plR_len]; omega)
    obtain ⟨g2, rfl⟩ := h2.some (by rw [plR_len]; omega)
    have hrow : (plR R)[j]? = some (bl 64 x) := by unfold plR; rw [List.getElem?_map, hx]; rfl
    have B0 : SlL wr base1 28 64 (.slice (some ⟨g1, 0, none⟩) R.length cap1) (plR R) := h1.zw hb
    have B1 : SlL wr base2 28 64 (.slice (some ⟨g2, 0, none⟩) R.length cap2) (plR R) := h2.zw hb
    have hjl : (j : Int) < (R.length : Int) := by omega
    clear h1 h2
    go_upto_region 6 with (fail)
    have lt_B0 : (base1) ≤ wr.heap.size := B0.lt
    have lt_B1 : (base2) ≤ wr.heap.size := B1.lt
    have hbase : w.heap.size ≤ wr.heap.size := hb.size
    refine zq Try.mixed (by kernel_rfl) (by kernel_rfl) (fun v => by (simp only [frL, Act.put, pA, pB, pC, Nat.reduceAdd, Nat.zero_add]; exact rfl))
     (fun L v W1 => Below w.heap.size w W1 ∧ wr.heap.size ≤ W1.heap.size ∧ SlL W1 base1 28 64 (.slice (some ⟨g1, 0, none⟩) R.length cap1) (plR R) ∧ SlL W1 base2 28 64 (.slice (some ⟨g2, 0, none⟩) R.length cap2) (plR R) ∧ (L 0 = true → v 0 = (.slice (some ⟨g1, 0, none⟩) R.length cap1)) ∧ (L 1 = true → v 1 = (.int .i64 (j : Int))) ∧ (L 2 = true → v 2 = (.pointer (some ⟨g1, j * 64, none⟩))) ∧ (L 3 = true → v 3 = (.agg (bl 64 x).toArray)) ∧ (L 4 = true → v 4 = (.slice (some ⟨g2, 0, none⟩) R.length cap2)) ∧ (L 5 = true → v 5 = (.int .i64 (j : Int))) ∧ (L 6 = true → v 6 = (.pointer (some ⟨g2, j * 64, none⟩))) ∧ (L 7 = true → v 7 = (.agg (bl 64 x).toArray)) ∧ (L 8 = true → v 8 = (.bool true)) ∧ (L 9 = true → v 9 = (.bool false))) ?_ ?_ ?_
    · intro v hv0
      exact ⟨hb.drew, Nat.le_refl _, B0.drew, B1.drew, (fun h => by cases h), (fun h => by cases h), (fun h => by cases h), (fun h => by cases h), (fun h => by cases h), (fun h => by cases h), (fun h => by cases h), (fun h => by cases h), (fun h => by cases h), (fun h => by cases h)⟩
    · refine (.cons rfl ?_ (.cons rfl ?_ (.cons rfl ?_ (.cons rfl ?_ (.cons rfl ?_ (.cons rfl ?_ (.cons rfl ?_ (.cons rfl ?_ (.cons rfl ?_ (.cons rfl ?_ (.nil _)))))))))))
      all_goals intro L v W1 hd hn ⟨hB, hz, s0, s1, h0, h1, h2, h3, h4, h5, h6, h7, h8, h9⟩ K hK
      · go_wp2_with fail
        exact hK _ (.slice (some ⟨g1, 0, none⟩) R.length cap1) _ (by simp only [Act.put, pA, pB, pC ]) ⟨hB, hz, s0, s1, (fun _ => rfl), h1, h2, h3, h4, h5, h6, h7, h8, h9⟩
      · go_wp2_with fail
        exact hK _ (.int .i64 (j : Int)) _ (by simp only [Act.put, pA, pB, pC ]) ⟨hB, hz, s0, s1, h0, (fun _ => rfl), h2, h3, h4, h5, h6, h7, h8, h9⟩
      · have e0 := h0 (zdq hd 0 rfl)
        have e1 := h1 (zdq hd 1 rfl)
        go_wp2_with fail
        exact hK _ (.pointer (some ⟨g1, j * 64, none⟩)) _ (by simp only [Act.put, pA, pB, pC, e0, e1]) ⟨hB, hz, s0, s1, h0, h1, (fun _ => rfl), h3, h4, h5, h6, h7, h8, h9⟩
      · have e2 := h2 (zdq hd 2 rfl)
        have hr := (s0).range hrow
        refine wp_load_mid 28 _ rfl _ (j * 64) e2 _ _ hr Try.underlying28 rfl (by rw [zl]; exact Try.size28) ?_
        exact hK _ _ _ rfl ⟨hB, hz, s0, s1, h0, h1, h2, (fun _ => rfl), h4, h5, h6, h7, h8, h9⟩
      · go_wp2_with fail
        exact hK _ (.slice (some ⟨g2, 0, none⟩) R.length cap2) _ (by simp only [Act.put, pA, pB, pC ]) ⟨hB, hz, s0, s1, h0, h1, h2, h3, (fun _ => rfl), h5, h6, h7, h8, h9⟩
      · go_wp2_with fail
        exact hK _ (.int .i64 (j : Int)) _ (by simp only [Act.put, pA, pB, pC ]) ⟨hB, hz, s0, s1, h0, h1, h2, h3, h4, (fun _ => rfl), h6, h7, h8, h9⟩
      · have e4 := h4 (zdq hd 4 rfl)
        have e5 := h5 (zdq hd 5 rfl)
        go_wp2_with fail
        exact hK _ (.pointer (some ⟨g2, j * 64, none⟩)) _ (by simp only [Act.put, pA, pB, pC, e4, e5]) ⟨hB, hz, s0, s1, h0, h1, h2, h3, h4, h5, (fun _ => rfl), h7, h8, h9⟩
      · have e6 := h6 (zdq hd 6 rfl)
        have hr := (s1).range hrow
        refine wp_load_mid 28 _ rfl _ (j * 64) e6 _ _ hr Try.underlying28 rfl (by rw [zl]; exact Try.size28) ?_
        exact hK _ _ _ rfl ⟨hB, hz, s0, s1, h0, h1, h2, h3, h4, h5, h6, (fun _ => rfl), h8, h9⟩
      · have e3 := h3 (zdq hd 3 rfl)
        have e7 := h7 (zdq hd 7 rfl)
        go_wp2_with (go_at_call 38; refine (eqPoly_same x x (fun _ _ => rfl) _).mono ?_; rintro e wy ⟨rfl, hy⟩)
        exact hK _ (.bool true) _ (by simp only [Act.put, pA, pB, pC, e3, e7]) ⟨hB.trans (hy.mono hB.size), (Nat.le_trans hz hy.size), s0.zw hy, s1.zw hy, h0, h1, h2, h3, h4, h5, h6, h7, (fun _ => rfl), h9⟩
      · have e8 := h8 (zdq hd 8 rfl)
        go_wp2_with fail
        exact hK _ (.bool false) _ (by simp only [Act.put, pA, pB, pC, e8]) ⟨hB, hz, s0, s1, h0, h1, h2, h3, h4, h5, h6, h7, h8, (fun _ => rfl)⟩
    · intro L v W1 hL ⟨hB, hz, s0, s1, h0, h1, h2, h3, h4, h5, h6, h7, h8, h9⟩
      have e0 := h0 (hL 0 (by decide))
      have e1 := h1 (hL 1 (by decide))
      have e2 := h2 (hL 2 (by decide))
      have e3 := h3 (hL 3 (by decide))
      have e4 := h4 (hL 4 (by decide))
      have e5 := h5 (hL 5 (by decide))
      have e6 := h6 (hL 6 (by decide))
      have e7 := h7 (hL 7 (by decide))
      have e8 := h8 (hL 8 (by decide))
      have e9 := h9 (hL 9 (by decide))
      clear hL h0 h1 h2 h3 h4 h5 h6 h7 h8 h9
      simp only [Exit.then, e0, e1, e2, e3, e4, e5, e6, e7, e8, e9]
      clear e0 e1 e2 e3 e4 e5 e6 e7 e8 e9
      replace B0 := s0
      clear s0
      replace B1 := s1
      clear s1
      replace hb := hB
      clear hB
      clear hbase hz lt_B0 lt_B1
      go_wp2_with fail
      go_roundw
      case rel => exact ⟨j + 1, by go_num, by omega, hb⟩
      case measure => simp [intOf] <;> omega
  · have hjl : ¬ (j : Int) < (R.length : Int) := by omega
    go_wp2_with fail
    go_ret
    exact ⟨rfl, hb⟩
set_option maxRecDepth 100000 in
set_option maxHeartbeats 3200000 in
theorem markPolyS_big (n : Nat) (a0 : Option Addr) (cap base : Nat) (w : World) (h : MkP w base (.slice a0 n cap) n 0) (hn : n ≤ 1048576) :
 Calls Try.prog 21 #[.slice a0 n cap, .int .i64 1] w fun e w' => e = .returned (.int .i64 ((1 + 64 * n : Nat) : Int)) ∧ MkP w' base (.slice a0 n cap) n (64 * n) ∧ w.grownBy w' (Value.slice a0 n cap).ownBlock := by
 go_enter Try.func21, Try.ntmps21
 go_wp2_with fail
 go_loopw [1, 5] (fun x i wr => ∃ j X : Nat, x = .int .i64 (X : Int) ∧ X = 1 + 64 * j ∧ i = .int .i64 (j : Int) ∧ j ≤ n ∧ MkP wr base (.slice a0 n cap) n (64 * j) ∧ w.grownBy wr (Value.slice a0 n cap).ownBlock) (fun _ i _ => n - (intOf i).toNat)
 case atStart => exact ⟨0, 1, rfl, rfl, rfl, Nat.zero_le _, h, grown_refl _ _⟩
 case round =>
  clear h; obtain ⟨j, X, rfl, hX, rfl, hjn, hM, hG⟩ := hrel
  by_cases hj : j < n
  · have hjl : (j : Int) < (n : Int) := by omega
    obtain ⟨g, rfl⟩ := mkW_some hM (by omega)
    have hX2 : X ≤ 67108865 := by omega
    have HX := Lib.hid hX
    clear hX
    go_wp2_with fail
    go_loopw [1, 6] (fun x i wr2 => ∃ k X : Nat, x = .int .i64 (X : Int) ∧ X = 1 + 64 * j + k ∧ i = .int .i64 (k : Int) ∧ k ≤ 64 ∧ MkP wr2 base (.slice (some ⟨g, 0, none⟩) n cap) n (64 * j + k) ∧ w.grownBy wr2 (some g)) (fun _ i _ => 64 - (intOf i).toNat)
    case atStart => exact ⟨0, X, rfl, by have := HX.out; omega, rfl, by omega, hM, hG⟩
    case round =>
     clear hM hG HX; obtain ⟨k, X, rfl, hX, rfl, hk, hM, hG⟩ := hrel
     have hX2 : X ≤ 67108929 := by omega
     have HX := Lib.hid hX
     clear hX
     have HQ := Lib.hid (show j * 64 + k = 64 * j + k by omega)
     by_cases hlt : k < 64
     · have e1 : mkW (64 * j + k) = .int .u8 ((X : Int) % 256) := by
        unfold mkW; rw [show (1 + ((64 * j + k : Nat) : Int)) = (X : Int) by have := HX.out; omega]
       obtain ⟨⟨u, hc⟩, hz, hM2, hG2⟩ := hM.step (by omega)
       rw [e1, ← HQ.out] at hM2 hG2
       rw [← HQ.out] at hc hz
       have HM2 := Lib.hid hM2
       have HG2 := Lib.hid (grown_trans hG hG2)
       clear hM2 hG2 hM hG e1
       go_wp2_with fail
       go_roundw
       case rel => exact ⟨k + 1, X + 1, by go_num, by have := HX.out; omega, by go_num, by omega, HM2.out.same _ (by omega), HG2.out⟩
       case measure => simp [intOf] <;> omega
     · have e : k = 64 := by omega
       subst e
       have HM2 := Lib.hid (hM.same (64 * (j + 1)) (by omega))
       have HG2 := Lib.hid hG
       clear hM hG
       go_wp2_with fail
       go_roundw
       case rel => exact ⟨j + 1, X, rfl, by have := HX.out; omega, by go_num, by omega, HM2.out, HG2.out⟩
       case measure => simp [intOf] <;> omega
  · have hjl : ¬ (j : Int) < (n : Int) := by omega
    have e : j = n := by omega
    subst e
    go_wp2_with fail
    go_ret
    exact ⟨ret_int (by push_cast; rfl), hM, hG⟩
set_option maxRecDepth 100000 in
set_option maxHeartbeats 3200000 in
theorem heldPolyS_big (n : Nat) (a0 : Option Addr) (cap base : Nat) (w : World) (h : MkP w base (.slice a0 n cap) n (64 * n)) (hn : n ≤ 1048576) :
 Calls Try.prog 26 #[.slice a0 n cap, .int .i64 1] w fun e w' => e = .returned (.int .i64 ((1 + 64 * n : Nat) : Int)) ∧ w = w' := by
 go_enter Try.func26, Try.ntmps26
 go_wp2_with fail
 go_loopw [1, 5] (fun x i wr => ∃ j X : Nat, x = .int .i64 (X : Int) ∧ X = 1 + 64 * j ∧ i = .int .i64 (j : Int) ∧ j ≤ n ∧ wr = w) (fun _ i _ => n - (intOf i).toNat)
 case atStart => exact ⟨0, 1, rfl, rfl, rfl, Nat.zero_le _, rfl⟩
 case round =>
  obtain ⟨j, X, rfl, hX, rfl, hjn, rfl⟩ := hrel
  by_cases hj : j < n
  · have hjl : (j : Int) < (n : Int) := by omega
    obtain ⟨g, rfl⟩ := mkW_some h (by omega)
    have hX2 : X ≤ 67108865 := by omega
    have HX := Lib.hid hX
    clear hX
    go_wp2_with fail
    go_loopw [1, 6] (fun x i wr2 => ∃ k X : Nat, x = .int .i64 (X : Int) ∧ X = 1 + 64 * j + k ∧ i = .int .i64 (k : Int) ∧ k ≤ 64 ∧ wr2 = wr) (fun _ i _ => 64 - (intOf i).toNat)
    case atStart => exact ⟨0, X, rfl, by have := HX.out; omega, rfl, by omega, rfl⟩
    case round =>
     clear HX; obtain ⟨k, X, rfl, hX, rfl, hk, rfl⟩ := hrel
     have hX2 : X ≤ 67108929 := by omega
     have HX := Lib.hid hX
     clear hX
     have HQ := Lib.hid (show j * 64 + k = 64 * j + k by omega)
     by_cases hlt : k < 64
     · have e1 : mkW (64 * j + k) = .int .u8 ((X : Int) % 256) := by
        unfold mkW; rw [show (1 + ((64 * j + k : Nat) : Int)) = (X : Int) by have := HX.out; omega]
       have hc := MkP.cell h (k := 64 * j + k) (by omega) (by omega)
       rw [e1, ← HQ.out] at hc
       have hne : (((X : Int) % 256) != ((X : Int) % 256)) = false := by simp
       clear e1
       go_wp2_with fail
       go_roundw
       case rel => exact ⟨k + 1, X + 1, by go_num, by have := HX.out; omega, by go_num, by omega, trivial⟩
       case measure => simp [intOf] <;> omega
     · have e : k = 64 := by omega
       subst e
       go_wp2_with fail
       go_roundw
       case rel => exact ⟨j + 1, X, rfl, by have := HX.out; omega, by go_num, by omega, trivial⟩
       case measure => simp [intOf] <;> omega
  · have hjl : ¬ (j : Int) < (n : Int) := by omega
    have e : j = n := by omega
    subst e
    go_wp2_with fail
    go_ret
    exact ⟨ret_int (by push_cast; rfl), rfl⟩
end
set_option maxRecDepth 100000 in
set_option maxHeartbeats 3200000 in
theorem szPolyS_at (a : Option Addr) (n cap : Nat) (l : Int) (w : World) (hn : n ≤ maxLen) (hl0 : 0 ≤ l) (hl : l ≤ 1048576) :
 Calls Try.prog 14 #[.slice a n cap, .int .i64 l] w fun e w' => e = .returned (.int .i64 (if (n : Int) ≤ l then l - (n : Int) else -1)) ∧ w' = w := by
 have hn2 : (n : Int) ≤ 9223372036854775807 := by unfold maxLen at hn; omega
 go_enter Try.func14, Try.ntmps14
 by_cases h : (n : Int) ≤ l
 · have h2 : ¬ (l - (n : Int) < 0) := by omega
   rw [if_pos h]
   go_wp2_with fail
   go_ret
   exact ⟨rfl, rfl⟩
 · have h2 : l - (n : Int) < 0 := by omega
   rw [if_neg h]
   go_wp2_with fail
   go_ret
   exact ⟨rfl, rfl⟩
/-- the rows before j -/
def upX (X : Nat → Nat → Nat) (j : Nat) : Nat → Nat → Nat := fun i k => if i < j then X i k else 0
theorem upX_z (X : Nat → Nat → Nat) : upX X 0 = fun _ _ => 0 := by funext i k; unfold upX; rw [if_neg (Nat.not_lt_zero _)]
theorem upX_s (X : Nat → Nat → Nat) (j : Nat) : updR (upX X j) j (X j) = upX X (j + 1) := by
 funext i k
 unfold updR upX
 by_cases h : i = j
 · subst h; rw [if_pos rfl, if_pos (Nat.lt_succ_self _)]
 · rw [if_neg h]
   by_cases h2 : i < j
   · rw [if_pos h2, if_pos (by omega)]
   · rw [if_neg h2, if_neg (by omega)]
theorem upX_n {X : Nat → Nat → Nat} {n : Nat} : (List.range n).map (upX X n) = (List.range n).map X := by
 apply List.map_congr_left
 intro i hi
 funext k
 unfold upX
 rw [if_pos (List.mem_range.1 hi)]
attribute [local irreducible] upX
set_option maxRecDepth 100000 in
set_option maxHeartbeats 3200000 in
theorem toPolyS_any (a : Option Addr) (n cap : Nat) (X : Nat → Nat → Nat) (hX : ∀ i, byte (X i)) (w : World) (h : Lst w a n X) (hn : (n : Int) ≤ 1048576) :
 Calls Try.prog 17 #[.slice a n cap] w fun e w' => ∃ b, e = .returned (.slice (some ⟨b, 0, none⟩) n n) ∧ SlL w' w.heap.size 28 64 (.slice (some ⟨b, 0, none⟩) n n) (plR ((List.range n).map X)) ∧ b < w'.heap.size ∧ Below w.heap.size w w' := by
 have hnL : n ≤ maxLen := by unfold maxLen; omega
 go_enter Try.func17, Try.ntmps17
 go_upto_region 2 with (refine wpList_make_rowsB _ rfl 30 (.tmp 6) (.tmp 6) rfl 28 Try.underlying30 Try.made28 n hn rfl rfl ?_)
 obtain ⟨b, hbe⟩ : ∃ b, b = w.heap.size := ⟨_, rfl⟩
 have B0 : Blk (w.alloc (.cells (zb (n * 64) (fl 64 fun _ _ => 0)) 28)) b (n * 64) 28 (fl 64 (upX X 0)) := by rw [upX_z, hbe]; exact Blk.new w (n * 64) 28 (fl 64 fun _ _ => 0)
 have hb : Below w.heap.size w (w.alloc (.cells (zb (n * 64) (fl 64 fun _ _ => 0)) 28)) := (Below.refl _ _).alloc (Nat.le_refl _) _
 have hbw : w.heap.size ≤ b := by omega
 rw [← hbe]
 obtain ⟨W1, hwo⟩ : ∃ v : World, v = (w.alloc (.cells (zb (n * 64) (fl 64 fun _ _ => 0)) 28)) := ⟨_, rfl⟩
 rw [← hwo] at B0 hb ⊢
 clear hwo
 have HBE := Lib.hid hbe
 clear hbe
 go_wp2_with fail
 go_loopw [4] (fun i wr => ∃ j : Nat, i = .int .i64 (j : Int) ∧ j ≤ n ∧ Below w.heap.size w wr ∧ Blk wr b (n * 64) 28 (fl 64 (upX X j))) (fun i _ => n - (intOf i).toNat)
 case atStart => exact ⟨0, rfl, Nat.zero_le _, hb, B0⟩
 case round =>
  clear hb B0
  obtain ⟨j, rfl, hjn, hb, B0⟩ := hrel
  by_cases hj : j < n
  · obtain ⟨c, off, rfl, hcl, hr⟩ := h.has (by omega)
    have hjI : (j : Int) < (n : Int) := by omega
    have hr2 : wr.rangeAt c (off + j * 64) (bl 64 (X j)) := fun k v hv => by rw [← hr j hj k v hv]; exact World.cell?_of_block (hb.block c hcl)
    clear hr
    go_upto_region 4 with (first | (refine wpList_load_mid rfl 22 (.tmp 18) rfl c (off + j * 64) rfl (bl 64 (X j)) _ hr2 Try.underlying22 rfl (by rw [zl]; exact Try.size22) ?_) | (go_at_call 16; refine (toPoly_any (X j) (hX j) _).mono ?_; rintro e W5 ⟨rfl, h2⟩; replace B0 := B0.zw h2; replace hb := hb.trans (h2.mono hb.size)) | (refine wpList_store_rowF rfl 28 (.tmp 21) (.tmp 20) rfl b j 64 n (X j) rfl rfl 28 _ B0 hj (by decide) Try.size28 ?_; try simp only [Act.put]))
    have B1 := B0.row (fl 64 (updR (upX X j) j (X j)))
    rw [upX_s] at B1
    rw [upX_s]
    have hb1 := zr hb hbw (zb (n * 64) (fl 64 (upX X (j + 1))))
    go_wp2_with fail
    go_roundw
    case rel => exact ⟨j + 1, by go_num, by omega, hb1, B1⟩
    case measure => simp [intOf] <;> omega
  · obtain rfl : j = n := by omega
    have hjI : ¬ (j : Int) < (j : Int) := by omega
    go_wp2_with fail
    go_ret
    exact ⟨_, rfl, by have := slL_ofBlk B0 hbw hnL; rwa [upX_n] at this, B0.lt, hb⟩
end Go.Proofs.Ytelgefgphhebnaa
end
section
namespace Go.Proofs.Ytelgefgphhebnaa
open Go Go.RowKit
set_option linter.unusedVariables false
set_option linter.unusedSimpArgs false
theorem plR_at {L : List (Nat → Nat)} {j : Nat} {x : Nat → Nat} (h : L[j]? = some x) : (plR L)[j]? = some (bl 64 x) := by unfold plR; rw [List.getElem?_map, h]; rfl
/-- lists behind a slice of slices -/
def LsV (w : World) (vs : List Value) (Ls : List (List (Nat → Nat))) : Prop := vs.length = Ls.length ∧ ∀ (j : Nat) (L : List (Nat → Nat)), Ls[j]? = some L → ∃ base a cap, vs[j]? = some (.slice a L.length cap) ∧ SlL w base 28 64 (.slice a L.length cap) (plR L)
theorem LsV.at {w : World} {vs : List Value} {Ls : List (List (Nat → Nat))} (h : LsV w vs Ls) {j : Nat} {L : List (Nat → Nat)} (hj : Ls[j]? = some L) : ∃ base a cap, vs[j]? = some (.slice a L.length cap) ∧ SlL w base 28 64 (.slice a L.length cap) (plR L) := h.2 j L hj
theorem LsV.below {w w' : World} {vs : List Value} {Ls : List (List (Nat → Nat))} (h : LsV w vs Ls) (hb : Below w.heap.size w w') : LsV w' vs Ls := ⟨h.1, fun j L hj => by
 obtain ⟨base, a, cap, h1, h2⟩ := h.2 j L hj
 exact ⟨base, a, cap, h1, h2.zw hb⟩⟩
/-- the slice of slices -/
def LsS (w : World) (v : Value) (vs : List Value) : Prop := ∃ a cap, v = .slice a vs.length cap ∧ (vs = [] ∨ ∃ b, a = some ⟨b, 0, none⟩ ∧ Row w b 30 vs.toArray)
theorem LsS.below {w w' : World} {v : Value} {vs : List Value} (h : LsS w v vs) (hb : Below w.heap.size w w') : LsS w' v vs := by
 obtain ⟨a, cap, h1, h2 | ⟨b, h2, h3⟩⟩ := h
 · exact ⟨a, cap, h1, .inl h2⟩
 · exact ⟨a, cap, h1, .inr ⟨b, h2, h3.zw hb⟩⟩
theorem LsV.len {w : World} {vs : List Value} {Ls : List (List (Nat → Nat))} (h : LsV w vs Ls) : vs.length = Ls.length := h.1
theorem LsS.out {w : World} {v : Value} {vs : List Value} (h : LsS w v vs) : ∃ a cap, v = .slice a vs.length cap ∧ (vs = [] ∨ ∃ b, a = some ⟨b, 0, none⟩ ∧ Row w b 30 vs.toArray) := h
theorem LsV.one {w : World} {base cap : Nat} {a : Option Addr} {L : List (Nat → Nat)} (h : SlL w base 28 64 (.slice a L.length cap) (plR L)) : LsV w [.slice a L.length cap] [L] := ⟨rfl, fun j M hj => by
 have h1 : j = 0 := by have := (List.getElem?_eq_some_iff.1 hj).1; simp at this; omega
 subst h1
 have h2 : L = M := by simpa using hj
 subst h2
 exact ⟨base, a, cap, rfl, h⟩⟩
theorem LsV.two {w : World} {base cap base2 cap2 : Nat} {a a2 : Option Addr} {L L2 : List (Nat → Nat)} (h : SlL w base 28 64 (.slice a L.length cap) (plR L)) (h2 : SlL w base2 28 64 (.slice a2 L2.length cap2) (plR L2)) : LsV w [.slice a L.length cap, .slice a2 L2.length cap2] [L, L2] := ⟨rfl, fun j M hj => by
 have hjl := (List.getElem?_eq_some_iff.1 hj).1
 have h1 : j = 0 ∨ j = 1 := by simp at hjl; omega
 rcases h1 with rfl | rfl
 · have h3 : L = M := by simpa using hj
   subst h3
   exact ⟨base, a, cap, rfl, h⟩
 · have h3 : L2 = M := by simpa using hj
   subst h3
   exact ⟨base2, a2, cap2, rfl, h2⟩⟩
theorem LsV.none (w : World) : LsV w [] [] := ⟨rfl, fun j M hj => by simp at hj⟩
theorem LsS.nil (w : World) : LsS w (.slice Option.none 0 0) [] := ⟨_, _, rfl, .inl rfl⟩
theorem LsS.row {w : World} {b cap : Nat} {vs : List Value} (h : Row w b 30 vs.toArray) : LsS w (.slice (some ⟨b, 0, Option.none⟩) vs.length cap) vs := ⟨_, _, rfl, .inr ⟨b, rfl, h⟩⟩
attribute [irreducible] LsV LsS
attribute [local irreducible] deg
end Go.Proofs.Ytelgefgphhebnaa
end
