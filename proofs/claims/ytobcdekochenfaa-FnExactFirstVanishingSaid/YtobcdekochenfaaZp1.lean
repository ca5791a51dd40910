/-
  What the rows of this claim rest on: arrays of bytes, walks of the functions, plain mathematics.
-/
import Derived.WalkKit
import Derived.WalkSpells
import Derived.WalkLawsBesides
import Derived.Lib.Hide
import Derived.Laws.Rows
import Derived.Laws.CopyOwn
import Derived.Deep.QuietTactic
import Derived.Deep.WholeRow
import Derived.Deep.Draws
import Derived.Deep.MidRow
import Derived.Deep.CutRange
import Derived.Deep.DeepCutAuto
import Derived.Deep.RegionHeld3
import Derived.BigQuiet
import Derived.BigRegion
import Derived.Great.BuildSlice
import Derived.Test.YtobcdekochenfaaRows
import Derived.ScopeJumps
import Derived.Laws.StructEq
import Derived.Laws.Tables
import Derived.Maps.OwnOps
import Derived.DeepKeys4
import Derived.Carry
import Derived.Test.YtobcdekochenfaaProg
import Derived.OwnWalk
import Derived.RangeFuncNested
import Derived.RangeFuncBound
import Derived.RangeFuncCalls
import Derived.RangeFuncLeaves
import Derived.Shelf.Abstract
import Derived.Shelf.RegionOpen
import Derived.OwnWalkIn
import Derived.TacticsInMore
import Derived.LoopNIn
import Derived.LoopIn
import Derived.Deep.CutBlock
section
namespace Go.Proofs.Ytobcdekochenfaa
open Go.RowKit
theorem pA {α : Type} (l : List α) (i : Nat) (a : α) : l.toArray.setIfInBounds i a = (l.set i a).toArray := List.setIfInBounds_toArray ..
theorem pB {α : Type} (xs : List α) (x a : α) : (x :: xs).set 0 a = a :: xs := List.set_cons_zero
theorem pC {α : Type} (xs : List α) (x a : α) (i : Nat) : (x :: xs).set (i + 1) a = x :: xs.set i a := List.set_cons_succ
/-- the cells of an array of n bytes -/
def bl (n : Nat) (f : Nat → Nat) : List Value := (List.range n).map fun i => Value.int .u8 (f i : Int)
abbrev zb (n : Nat) (f : Nat → Nat) : Array Value := (bl n f).toArray
theorem zl (n : Nat) (f : Nat → Nat) : (bl n f).length = n := by simp [bl]
theorem bl_one {n : Nat} {f : Nat → Nat} : ∀ v ∈ bl n f, v.oneCell' = true := by
 intro v hv
 simp only [bl, List.mem_map] at hv
 obtain ⟨i, _, rfl⟩ := hv
 rfl

theorem zbs (n : Nat) (f : Nat → Nat) : (zb n f).size = n := by simp [bl]
theorem bcells_get {n : Nat} {f : Nat → Nat} {i : Nat} (h : i < n) : (zb n f)[i]? = some (.int .u8 (f i : Int)) := by
 simp [bl, h]
def upd (f : Nat → Nat) (i v : Nat) : Nat → Nat := fun j => if j = i then v else f j
theorem bcells_set {n : Nat} {f : Nat → Nat} {i v : Nat} : (zb n f).setIfInBounds i (.int .u8 (v : Int)) = zb n (upd f i v) := by
 apply Array.ext
 · simp [bl]
 · intro j h1 h2
   have hj : j < n := by simpa [bl] using h2
   rw [Array.getElem_setIfInBounds (by simpa [bl] using hj)]
   by_cases e : i = j
   · subst e; simp [bl, upd]
   · have e' : ¬ j = i := fun h => e h.symm
     simp [bl, upd, e, e']
theorem upd_lt {a b : Nat → Nat} {k v : Nat} (hv : v = a k) : ∀ i, upd (fun i => if i < k then a i else b i) k v i = if i < k + 1 then a i else b i := by
 intro i; subst hv; unfold upd
 by_cases e : i = k
 · subst e; simp
 · have : (i < k + 1) ↔ i < k := by omega
   simp [e, this]
theorem zbc {n : Nat} {f g : Nat → Nat} (h : ∀ i, i < n → f i = g i) : zb n f = zb n g := by
 unfold zb bl
 congr 1
 apply List.map_congr_left
 intro i hi
 rw [h i (by simpa using hi)]
theorem bcells_one (n : Nat) (f : Nat → Nat) : (zb n f).all (·.oneCell') = true :=
 Array.all_eq_true_iff_forall_mem.2 fun v hv => bl_one v (by simpa using hv)
theorem bcells_inj {n : Nat} {f g : Nat → Nat} (h : zb n f = zb n g) : ∀ i, i < n → f i = g i := by
 intro i hi
 have h1 := bcells_get (f := f) hi
 rw [h, bcells_get hi] at h1
 simp at h1
 omega

/-- block b holds the bytes f -/
def Blk (w : World) (b n : Nat) (t : TypeId) (f : Nat → Nat) : Prop := w.heap[b]? = some (.cells (zb n f) t (0, 0))

theorem Blk.new (w : World) (n : Nat) (t : TypeId) (f : Nat → Nat) : Blk (w.alloc (.cells (zb n f) t)) w.heap.size n t f := heap_alloc_last w _
theorem Blk.lt {w : World} {b n : Nat} {t : TypeId} {f : Nat → Nat} (h : Blk w b n t f) : b < w.heap.size := by
 unfold Blk at h
 exact (Array.getElem?_eq_some_iff.1 h).1
theorem Blk.cell {w : World} {b n : Nat} {t : TypeId} {f : Nat → Nat} (h : Blk w b n t f) {i : Nat} (hi : i < n) : w.cell? ⟨b, i, none⟩ = some (.int .u8 (f i : Int)) := by
 rw [cell_of_row _ _ _ _ _ _ h]; exact bcells_get hi
theorem Blk.frozen {w : World} {b n : Nat} {t : TypeId} {f : Nat → Nat} (h : Blk w b n t f) (i : Nat) : w.frozen? ⟨b, i, none⟩ = false := frozen_of_row _ _ _ _ _ h
theorem Blk.congr {w : World} {b n : Nat} {t : TypeId} {f g : Nat → Nat} (h : Blk w b n t f) (e : ∀ i, i < n → f i = g i) : Blk w b n t g := by
 unfold Blk at *; rw [h, zbc e]
theorem Blk.set {w : World} {b n : Nat} {t : TypeId} {f : Nat → Nat} (h : Blk w b n t f) {i v : Nat} {x : Int} (e : x = (v : Int)) : Blk (w.setCell ⟨b, i, none⟩ (.int .u8 x)) b n t (upd f i v) := by
 subst e; unfold Blk at *
 rw [heap_setCell_same _ _ _ _ _ _ h, bcells_set]
theorem Blk.setOther {w : World} {b n : Nat} {t : TypeId} {f : Nat → Nat} (h : Blk w b n t f) {a : Addr} {v : Value} (e : b ≠ a.block) : Blk (w.setCell a v) b n t f := by
 unfold Blk at *; rw [heap_setCell_other _ _ _ _ e]; exact h
theorem Blk.alloc {w : World} {b n : Nat} {t : TypeId} {f : Nat → Nat} (h : Blk w b n t f) (o : Obj) : Blk (w.alloc o) b n t f := by
 have := h.lt
 unfold Blk at *; rw [Below.heap_alloc _ _ _ this]; exact h
theorem Blk.drew {w : World} {b n : Nat} {t : TypeId} {f : Nat → Nat} (h : Blk w b n t f) : Blk w.drew b n t f := h
theorem Blk.drewN {w : World} {b n : Nat} {t : TypeId} {f : Nat → Nat} (h : Blk w b n t f) (k : Nat) : Blk (w.drewN k) b n t f := by unfold Blk at *; exact h
theorem Blk.row {w : World} {b n : Nat} {t : TypeId} {f : Nat → Nat} (h : Blk w b n t f) (g : Nat → Nat) : Blk (w.setRow b (zb n g)) b n t g := setRow_heap _ _ _ _ _ _ h
theorem Blk.rowOther {w : World} {b n : Nat} {t : TypeId} {f : Nat → Nat} (h : Blk w b n t f) {k : Nat} {cs : Array Value} (e : b ≠ k) : Blk (w.setRow k cs) b n t f := by
 unfold Blk at *; rw [setRow_other _ _ _ _ e]; exact h
theorem Blk.below {w w' : World} {B b n : Nat} {t : TypeId} {f : Nat → Nat} (h : Blk w b n t f) (hb : Below B w w') (e : b < B) : Blk w' b n t f := by
 unfold Blk at *; rw [hb.block b e]; exact h

theorem Blk.zw {w w' : World} {b n : Nat} {t : TypeId} {f : Nat → Nat} (h : Blk w b n t f) (hb : Below w.heap.size w w') : Blk w' b n t f := Blk.below h hb (Blk.lt h)
theorem Blk.range {w : World} {b n : Nat} {t : TypeId} {f : Nat → Nat} (h : Blk w b n t f) : w.rangeAt b 0 (bl n f) := by
 intro j v hv
 rw [Nat.zero_add, cell_of_row _ _ _ _ _ _ h]
 simpa using hv
theorem Blk.there {w : World} {b n : Nat} {t : TypeId} {f : Nat → Nat} (h : Blk w b n t f) : w.there b 0 n := by
 intro j hj
 rw [Nat.zero_add, h.cell hj]
 exact ⟨rfl, h.frozen j⟩

theorem below_drewN' {B : Nat} {a w : World} (h : Below B a w) (n : Nat) : Below B a (w.drewN n) := ⟨h.os, h.tape, h.output, h.size, h.block⟩

theorem zal (w : World) (o : Obj) : Below w.heap.size w (w.alloc o) := (Below.refl _ _).alloc (Nat.le_refl _) _
/-- y points to a block from N on that holds g -/
def PF (y : Value) (w : World) (N n : Nat) (t : TypeId) (g : Nat → Nat) : Prop := ∃ b, y = .pointer (some ⟨b, 0, none⟩) ∧ N ≤ b ∧ Blk w b n t g
def AF (y : Value) (w : World) (N n : Nat) (t : TypeId) : Prop := ∃ g, PF y w N n t g
theorem PF.below {y : Value} {w w' : World} {N n : Nat} {t : TypeId} {g : Nat → Nat} (h : PF y w N n t g) (hb : Below w.heap.size w w') : PF y w' N n t g := by
 obtain ⟨b, e, hN, hk⟩ := h
 exact ⟨b, e, hN, hk.zw hb⟩
theorem AF.below {y : Value} {w w' : World} {N n : Nat} {t : TypeId} (h : AF y w N n t) (hb : Below w.heap.size w w') : AF y w' N n t := by
 obtain ⟨g, h⟩ := h
 exact ⟨g, h.below hb⟩
theorem PF.af {y : Value} {w : World} {N n : Nat} {t : TypeId} {g : Nat → Nat} (h : PF y w N n t g) : AF y w N n t := ⟨g, h⟩
theorem PF.new (w : World) {N : Nat} (n : Nat) (t : TypeId) (g : Nat → Nat) (h : N ≤ w.heap.size) : PF (.pointer (some ⟨w.heap.size, 0, none⟩)) (w.alloc (.cells (zb n g) t)) N n t g := ⟨_, rfl, h, Blk.new _ _ _ _⟩
theorem PF.row {w : World} {b N n : Nat} {t : TypeId} {f : Nat → Nat} (hb : Blk w b n t f) (hN : N ≤ b) (g : Nat → Nat) : PF (.pointer (some ⟨b, 0, none⟩)) (w.setRow b (zb n g)) N n t g := ⟨b, rfl, hN, hb.row g⟩
theorem PF.rowOther {y : Value} {w : World} {b N n : Nat} {t : TypeId} {g : Nat → Nat} {cs : Array Value} (h : PF y w N n t g) (e : y ≠ .pointer (some ⟨b, 0, none⟩)) : PF y (w.setRow b cs) N n t g := by
 obtain ⟨b', e', hN, hk⟩ := h
 refine ⟨b', e', hN, hk.rowOther ?_⟩
 rintro rfl
 exact e e'
theorem AF.row {y : Value} {w : World} {b N n m : Nat} {t u : TypeId} {f g : Nat → Nat} (h : AF y w N n t) (hb : Blk w b m u f) : AF y (w.setRow b (zb m g)) N n t := by
 obtain ⟨g', b', e', hN, hk⟩ := h
 by_cases e : b' = b
 · subst e
   have h1 := hk.symm.trans hb
   simp only [Option.some.injEq, Obj.cells.injEq, and_true] at h1
   obtain ⟨h1, h2⟩ := h1
   have h3 : n = m := by have := congrArg Array.size h1; rwa [zbs, zbs] at this
   subst h3; subst h2
   exact ⟨g, b', e', hN, hk.row g⟩
 · exact ⟨g', b', e', hN, hk.rowOther e⟩
theorem PF.out {y : Value} {w : World} {N n : Nat} {t : TypeId} {g : Nat → Nat} (h : PF y w N n t g) : ∃ b, y = .pointer (some ⟨b, 0, none⟩) ∧ N ≤ b ∧ Blk w b n t g := h
theorem AF.out {y : Value} {w : World} {N n : Nat} {t : TypeId} (h : AF y w N n t) : ∃ g b, y = .pointer (some ⟨b, 0, none⟩) ∧ N ≤ b ∧ Blk w b n t g := h
theorem zr {N b : Nat} {w0 w : World} (hb : Below N w0 w) (h : N ≤ b) (cs : Array Value) : Below N w0 (w.setRow b cs) := below_setRow hb h cs

theorem acc {P : Program} {k : FuncId} {args : Array Value} {w W0 : World} {v : Ending} (h : Calls P k args w fun e w' => e = v ∧ Below w.heap.size w w') (ha : Below W0.heap.size W0 w) :
 Calls P k args w fun e w' => e = v ∧ Below w.heap.size w w' ∧ Below W0.heap.size W0 w' :=
 h.mono fun _ _ ⟨he, hb⟩ => ⟨he, hb, ha.trans (hb.mono ha.size)⟩
section
variable {P : Program}
theorem run_index_blk (t e n : Nat) (f : Nat → Nat) (k : IntKind) (i : Nat) (hu : P.underlying t = some (.array n e)) (he : P.underlying e = some (.int .u8)) (hs : (P.info? e).map (·.size) = some 1) (hi : i < n) (w : World) :
 (Instr.index t (.agg (zb n f)) (.int k (i : Int))).run P w = .ok (.int .u8 (f i : Int)) w := by
 cases hq : P.info? e with
 | none => simp [hq] at hs
 | some ie =>
  have hsz : ie.size = 1 := by simpa [hq] using hs
  have hin : (0 : Int) ≤ (i : Int) ∧ (i : Int) < (n : Int) := by omega
  have hagg : (isAgg e).run P w = .ok false w := by
   unfold isAgg
   rw [Sem.run_bind, run_underlying he w]
   rfl
  have hg : (bl n f)[i]? = some (.int .u8 (f i : Int)) := by simp [bl, hi]
  simp [Instr.index, asIntOf, Sem.run_bind, run_underlying hu, sizeOf, typeInfo, hq, hsz, part, hagg, hg]
  intro h; omega
theorem wp_load_blk {o : Oper} {a : Act} {w : World} {K : Act → World → Prop} {Q : Exit → Act → World → Prop} (ty : TypeId) (x : Operand) (ho : o.op = .load ty x)
 (b : Nat) (hx : a.eval x = .pointer (some ⟨b, 0, none⟩)) (n : Nat) (t : TypeId) (f : Nat → Nat) (hb : Blk w b n t f) (e : TypeId)
 (hu : P.underlying ty = some (.array n e)) (hi : (P.info? ty).map (·.size) = some n) (h : K (a.put o.dst (.agg (zb n f))) w) : o.wp P a w K Q :=
 wp_load_row ty x ho b hx t _ (0, 0) _ hb hu rfl (by rw [zbs]; exact hi) h
theorem zsb {o : Oper} {a : Act} {w : World} {K : Act → World → Prop} {Q : Exit → Act → World → Prop} (ty : TypeId) (x y : Operand) (ho : o.op = .store ty x y)
 (b : Nat) (n : Nat) (g : Nat → Nat) (hx : a.eval x = .pointer (some ⟨b, 0, none⟩)) (hy : a.eval y = .agg (zb n g)) (t : TypeId) (f : Nat → Nat) (hb : Blk w b n t f)
 (hi : (P.info? ty).map (·.size) = some n) (h : K (a.put o.dst undef) (w.setRow b (zb n g))) : o.wp P a w K Q :=
 wp_store_row ty x y ho b _ hx hy t _ hb (by rw [zbs]; exact hi) (by rw [zbs, zbs]) (bcells_one n g) h
theorem wpList_store_new {ops : Array Oper} {rest : List Oper} {o : Oper} {a : Act} {w : World} {Q : Exit → Act → World → Prop} (hgd : o.guard = none) (ty : TypeId) (x y : Operand) (ho : o.op = .store ty x y)
 (old : Array Value) (t : TypeId) (n : Nat) (g : Nat → Nat) (hx : a.eval x = .pointer (some ⟨w.heap.size, 0, none⟩)) (hy : a.eval y = .agg (zb n g)) (hold : old.size = n)
 (hi : (P.info? ty).map (·.size) = some n)
 (h : wpList P ops Q rest (a.put o.dst undef) (w.alloc (.cells (zb n g) t))) : wpList P ops Q (o :: rest) a (w.alloc (.cells old t)) :=
 wpList_store_row hgd ty x y ho _ _ hx hy t old (heap_alloc_last w _) (by rw [zbs]; exact hi) (by rw [zbs]; exact hold) (bcells_one n g) (by rw [World.setRow_alloc_new]; exact h)
theorem zlb {ops : Array Oper} {rest : List Oper} {o : Oper} {a : Act} {w : World} {Q : Exit → Act → World → Prop} (hgd : o.guard = none) (ty : TypeId) (x : Operand) (ho : o.op = .load ty x)
 (b : Nat) (hx : a.eval x = .pointer (some ⟨b, 0, none⟩)) (n : Nat) (t : TypeId) (f : Nat → Nat) (hb : Blk w b n t f) (e : TypeId)
 (hu : P.underlying ty = some (.array n e)) (hi : (P.info? ty).map (·.size) = some n)
 (h : wpList P ops Q rest (a.put o.dst (.agg (zb n f))) w) : wpList P ops Q (o :: rest) a w :=
 wpList_load_row hgd ty x ho b hx t _ (0, 0) _ hb hu rfl (by rw [zbs]; exact hi) h
theorem wpList_store_blk {ops : Array Oper} {rest : List Oper} {o : Oper} {a : Act} {w : World} {Q : Exit → Act → World → Prop} (hgd : o.guard = none) (ty : TypeId) (x y : Operand) (ho : o.op = .store ty x y)
 (b : Nat) (n : Nat) (g : Nat → Nat) (hx : a.eval x = .pointer (some ⟨b, 0, none⟩)) (hy : a.eval y = .agg (zb n g)) (t : TypeId) (f : Nat → Nat) (hb : Blk w b n t f)
 (hi : (P.info? ty).map (·.size) = some n)
 (h : wpList P ops Q rest (a.put o.dst undef) (w.setRow b (zb n g))) : wpList P ops Q (o :: rest) a w :=
 wpList_store_row hgd ty x y ho b _ hx hy t _ hb (by rw [zbs]; exact hi) (by rw [zbs, zbs]) (bcells_one n g) h
theorem run_loadVar_blk (w : World) (b n : Nat) (t ty e : TypeId) (f : Nat → Nat) (hb : Blk w b n t f) (hu : P.underlying ty = some (.array n e)) (hi : (P.info? ty).map (·.size) = some n) :
 (loadVar ty ⟨b, 0, none⟩).run P w = .ok (.agg (zb n f)) w :=
 run_loadVar_row w b t ty _ (0, 0) _ hb hu rfl (by rw [zbs]; exact hi)
theorem zrb {fn : Func} {p : Tmp} {ty : TypeId} (h : fn.results = #[.cell p ty]) (tmps : Array Value) (w : World) (b n : Nat) (t e : TypeId) (f : Nat → Nat)
 (hp : tmps.getD p undef = .pointer (some ⟨b, 0, none⟩)) (hb : Blk w b n t f) (hu : P.underlying ty = some (.array n e)) (hi : (P.info? ty).map (·.size) = some n) :
 (results fn tmps).run P w = .ok (.agg (zb n f)) w :=
 results_cell_row h tmps w b t _ (0, 0) _ hp hb hu rfl (by rw [zbs]; exact hi)
theorem results_bt {fn : Func} {p q : Tmp} {ty : TypeId} (h : fn.results = #[.cell p ty, .tmp q]) (tmps : Array Value) (w : World) (b n : Nat) (t e : TypeId) (f : Nat → Nat)
 (hp : tmps.getD p undef = .pointer (some ⟨b, 0, none⟩)) (hb : Blk w b n t f) (hu : P.underlying ty = some (.array n e)) (hi : (P.info? ty).map (·.size) = some n) :
 (results fn tmps).run P w = .ok (.tuple #[.agg (zb n f), tmps.getD q undef]) w := by
 have hp' : tmps[p]?.getD undef = .pointer (some ⟨b, 0, none⟩) := by simpa using hp
 simp [results, h, hp', asAddr, run_loadVar_blk w b n t ty e f hb hu hi]
end
theorem z64 : zb 64 (fun _ => 0) = #[.int .u8 0, .int .u8 0, .int .u8 0, .int .u8 0, .int .u8 0, .int .u8 0, .int .u8 0, .int .u8 0, .int .u8 0, .int .u8 0, .int .u8 0, .int .u8 0, .int .u8 0, .int .u8 0, .int .u8 0, .int .u8 0, .int .u8 0, .int .u8 0, .int .u8 0, .int .u8 0, .int .u8 0, .int .u8 0, .int .u8 0, .int .u8 0, .int .u8 0, .int .u8 0, .int .u8 0, .int .u8 0, .int .u8 0, .int .u8 0, .int .u8 0, .int .u8 0, .int .u8 0, .int .u8 0, .int .u8 0, .int .u8 0, .int .u8 0, .int .u8 0, .int .u8 0, .int .u8 0, .int .u8 0, .int .u8 0, .int .u8 0, .int .u8 0, .int .u8 0, .int .u8 0, .int .u8 0, .int .u8 0, .int .u8 0, .int .u8 0, .int .u8 0, .int .u8 0, .int .u8 0, .int .u8 0, .int .u8 0, .int .u8 0, .int .u8 0, .int .u8 0, .int .u8 0, .int .u8 0, .int .u8 0, .int .u8 0, .int .u8 0, .int .u8 0] := by rfl
attribute [irreducible] Blk PF AF bl
end Go.Proofs.Ytobcdekochenfaa
end
section
namespace Go.Proofs.Ytobcdekochenfaa
def okP (p : Int) : Bool := p == 2 || p == 3 || p == 5 || p == 7
def okA (p : Int) (f : Nat → Nat) : Bool := okP p && (List.range 64).all fun i => decide ((f i : Int) < p)
theorem okP_cases {p : Int} (h : okP p = true) : p = 2 ∨ p = 3 ∨ p = 5 ∨ p = 7 := by
 simp only [okP, Bool.or_eq_true, beq_iff_eq] at h
 rcases h with ((h | h) | h) | h <;> simp [h]
theorem okP_false {p : Int} (h : okP p = false) : (p == 2) = false ∧ (p == 3) = false ∧ (p == 5) = false ∧ (p == 7) = false := by
 simp only [okP, Bool.or_eq_false_iff] at h
 exact ⟨h.1.1.1, h.1.1.2, h.1.2, h.2⟩
theorem okP_le {p : Int} (h : okP p = true) : 2 ≤ p ∧ p ≤ 7 := by rcases okP_cases h with h | h | h | h <;> subst h <;> decide
theorem okA_iff {p : Int} {f : Nat → Nat} : okA p f = true ↔ okP p = true ∧ ∀ i, i < 64 → (f i : Int) < p := by
 simp [okA, List.all_eq_true]
theorem okA_lt {p : Int} {f : Nat → Nat} (h : okA p f = true) {i : Nat} (hi : i < 64) : (f i : Int) < p := (okA_iff.1 h).2 i hi
/-- the code of a list of polynomials -/
def codeL (p : Int) (fs : List (Nat → Nat)) : Int := if okP p && fs.all (okA p) then 0 else 1
/-- f cut off at 64 -/
def cut (f : Nat → Nat) : Nat → Nat := fun i => if i < 64 then f i else 0
/-- a byte -/
def byte (f : Nat → Nat) : Prop := ∀ i, f i < 256
end Go.Proofs.Ytobcdekochenfaa
end
section
namespace Go.Proofs.Ytobcdekochenfaa
open Go.RowKit
theorem foldl_set : ∀ (vs : List Value) (k : Nat) (pre post old : List Value), old.length = vs.length → pre.length = k →
 (vs.zipIdx 0).foldl (fun (cs : Array Value) (x : Value × Nat) => cs.setIfInBounds (k + x.2) x.1) (pre ++ old ++ post).toArray = (pre ++ vs ++ post).toArray := by
 have key : ∀ (vs : List Value) (j k : Nat) (pre post old : List Value), old.length = vs.length → pre.length = k + j →
  (vs.zipIdx j).foldl (fun (cs : Array Value) (x : Value × Nat) => cs.setIfInBounds (k + x.2) x.1) (pre ++ old ++ post).toArray = (pre ++ vs ++ post).toArray := by
  intro vs
  induction vs with
  | nil => intro j k pre post old h _; have : old = [] := List.length_eq_zero_iff.1 h; subst this; rfl
  | cons v vs ih =>
   intro j k pre post old h hp
   cases old with
   | nil => simp at h
   | cons o old =>
    simp only [List.zipIdx_cons, List.foldl_cons]
    have e : (pre ++ o :: old ++ post).toArray.setIfInBounds (k + j) v = ((pre ++ [v]) ++ old ++ post).toArray := by
     rw [List.setIfInBounds_toArray]
     congr 1
     rw [← hp]
     simp
    rw [e, ih (j + 1) k (pre ++ [v]) post old (by simpa using h) (by simp; omega)]
    simp
 intro vs k pre post old h hp
 exact key vs 0 k pre post old h (by omega)
theorem fill_cat (sz : Nat) : ∀ (vss : List (List Value)) (k : Nat) (pre old : List Value), (∀ vs ∈ vss, vs.length = sz) → pre.length = k * sz → old.length = vss.length * sz →
 Instr.fill (fun i => some (i * sz, sz)) (pre ++ old).toArray ((vss.zipIdx k).map fun x => (x.2, Value.agg x.1.toArray)) = some (pre ++ vss.flatten).toArray := by
 intro vss
 induction vss with
 | nil => intro k pre old _ _ h; have : old = [] := List.length_eq_zero_iff.1 (by simpa using h); subst this; simp [Instr.fill]
 | cons vs vss ih =>
  intro k pre old hs hp ho
  have h1 : vs.length = sz := hs vs (by simp)
  have hlen : sz ≤ old.length := by rw [ho, List.length_cons, Nat.succ_mul]; omega
  simp only [List.zipIdx_cons, List.map_cons, Instr.fill]
  have hc : (Value.agg vs.toArray).cells = vs.toArray := rfl
  rw [hc, if_neg (by simp; omega)]
  have := foldl_set vs (k * sz) pre (old.drop sz) (old.take sz) (by simp; omega) hp
  rw [List.append_assoc, List.take_append_drop] at this
  have e : ∀ (cs : Array Value), vs.toArray.zipIdx.foldl (fun cs x => cs.setIfInBounds (k * sz + x.2) x.1) cs = (vs.zipIdx 0).foldl (fun cs x => cs.setIfInBounds (k * sz + x.2) x.1) cs := by
   intro cs
   rw [← Array.foldl_toList]
   simp
  rw [e, this]
  have := ih (k + 1) (pre ++ vs) (old.drop sz) (fun v hv => hs v (by simp [hv])) (by simp [hp, h1, Nat.succ_mul]) (by simp [ho, Nat.succ_mul])
  rw [this]
  simp

/-- block b holds the polynomials fs, one behind the other -/
def PolS (w : World) (b : Nat) (fs : List (Nat → Nat)) : Prop := w.heap[b]? = some (.cells ((fs.map (bl 64)).flatten).toArray 23 (0, 0))
theorem PolS.lt {w : World} {b : Nat} {fs : List (Nat → Nat)} (h : PolS w b fs) : b < w.heap.size := by
 unfold PolS at h
 exact (Array.getElem?_eq_some_iff.1 h).1
theorem PolS.below {w w' : World} {B b : Nat} {fs : List (Nat → Nat)} (h : PolS w b fs) (hb : Below B w w') (e : b < B) : PolS w' b fs := by
 unfold PolS at *; rw [hb.block b e]; exact h
theorem PolS.zw {w w' : World} {b : Nat} {fs : List (Nat → Nat)} (h : PolS w b fs) (hb : Below w.heap.size w w') : PolS w' b fs := PolS.below h hb (PolS.lt h)
theorem flat_get : ∀ (fs : List (Nat → Nat)) (i : Nat) (f : Nat → Nat) (j : Nat), fs[i]? = some f → j < 64 → ((fs.map (bl 64)).flatten)[i * 64 + j]? = some (.int .u8 (f j : Int))
 | [], _, _, _, h, _ => by simp at h
 | g :: fs, 0, f, j, h, hj => by
  simp only [List.getElem?_cons_zero, Option.some.injEq] at h
  subst h
  rw [List.map_cons, List.flatten_cons, Nat.zero_mul, Nat.zero_add, List.getElem?_append_left (by rw [zl]; exact hj)]
  simp [bl, hj]
 | g :: fs, i + 1, f, j, h, hj => by
  rw [List.map_cons, List.flatten_cons, List.getElem?_append_right (by rw [zl]; omega), zl]
  have := flat_get fs i f j (by simpa using h) hj
  rw [show (i + 1) * 64 + j - 64 = i * 64 + j by omega]
  exact this
theorem PolS.range {w : World} {b : Nat} {fs : List (Nat → Nat)} (h : PolS w b fs) {i : Nat} {f : Nat → Nat} (hi : fs[i]? = some f) : w.rangeAt b (i * 64) (bl 64 f) := by
 intro j v hv
 have hj : j < 64 := by
  have := (List.getElem?_eq_some_iff.1 hv).1
  rwa [zl] at this
 rw [cell_of_row _ _ _ _ _ _ h]
 have e : (bl 64 f)[j]? = some (.int .u8 (f j : Int)) := by simp [bl, hj]
 rw [e] at hv
 injection hv with hv
 subst hv
 simpa using flat_get fs i f j hi hj
section
variable {P : Program}
theorem wpList_build_polys {ops : Array Oper} {rest : List Oper} {o : Oper} {a : Act} {w : World} {Q : Exit → Act → World → Prop} (hg : o.guard = none) (t : TypeId) (parts : Array (Nat × Operand)) (fs : List (Nat → Nat))
 (ho : o.op = .buildSlice t fs.length parts) (e : TypeId) (he : e = 23)
 (hu : P.underlying t = some (.slice e)) (hie : (P.info? e).map (fun i => (i.size, i.zero.isSome)) = some (64, true)) (hpos : 0 < fs.length) (hsm : fs.length ≤ 8)
 (hp : (parts.toList.map fun x => (x.1, a.eval x.2)) = ((fs.map (bl 64)).zipIdx 0).map fun x => (x.2, Value.agg x.1.toArray))
 (h : ∀ w', w' = w.alloc (.cells ((fs.map (bl 64)).flatten).toArray e) → PolS w' w.heap.size fs → Below w.heap.size w w' → wpList P ops Q rest (a.put o.dst (.slice (some ⟨w.heap.size, 0, none⟩) fs.length fs.length)) w') : wpList P ops Q (o :: rest) a w := by
 subst he
 cases hi : P.info? 23 with
 | none => simp [hi] at hie
 | some ie =>
  simp only [hi, Option.map_some, Option.some.injEq, Prod.mk.injEq] at hie
  obtain ⟨hs, hz⟩ := hie
  obtain ⟨z, hzz⟩ := Option.isSome_iff_exists.1 hz
  refine wpList_buildSlice hg t 23 fs.length parts ho _ ie z hu hi hzz (by rw [hs]; omega) (by rw [hs]; omega) ?_ (h _ rfl (heap_alloc_last w _) (zal _ _))
  rw [Array.toList_map, hp, hs]
  have := fill_cat 64 (fs.map (bl 64)) 0 [] ((Array.range (fs.length * 64)).map (z.cells[· % z.cells.size]!)).toList (by
   intro vs hv
   obtain ⟨f, _, rfl⟩ := List.mem_map.1 hv
   exact zl _ _) (by simp) (by simp)
  rw [List.nil_append, List.nil_append, Array.toArray_toList] at this
  exact this
end
attribute [irreducible] PolS
end Go.Proofs.Ytobcdekochenfaa
end
section
namespace Go.Proofs.Ytobcdekochenfaa
open Go.RowKit
theorem Try.size22 : (Try.prog.info? 22).map (·.size) = some 64 := by kernel_rfl
theorem Try.size23 : (Try.prog.info? 23).map (·.size) = some 64 := by kernel_rfl
theorem Try.size5 : (Try.prog.info? 5).map (·.size) = some 1 := by kernel_rfl
theorem Try.mixed : Try.prog.follows .mixedOrders = true := by kernel_rfl
theorem ret_int {k : IntKind} {a b : Int} (h : a = b) : Ending.returned (.int k a) = .returned (.int k b) := by rw [h]
theorem ret_bool {a b : Bool} (h : a = b) : Ending.returned (.bool a) = .returned (.bool b) := by rw [h]

theorem isPrime_any (p : Int) (w : World) : Calls Try.prog 66 #[.int .i64 p] w fun e w' => e = .returned (.bool (okP p)) ∧ w = w' := by
 cases hp : okP p with
 | true =>
  rcases okP_cases hp with rfl | rfl | rfl | rfl <;>
  · go_enter Try.func66, Try.ntmps66
    go_wp2
    go_ret
    exact ⟨rfl, rfl⟩
 | false =>
  obtain ⟨h2, h3, h5, h7⟩ := okP_false hp
  go_enter Try.func66, Try.ntmps66
  go_wp2
  go_ret
  exact ⟨rfl, rfl⟩
theorem l01Prime_any (p : Int) (w : World) : Calls Try.prog 134 #[.int .i64 p] w fun e w' => e = .returned (.bool (okP p)) ∧ w = w' := by
 cases hp : okP p with
 | true =>
  rcases okP_cases hp with rfl | rfl | rfl | rfl <;>
  · go_enter Try.func134, Try.ntmps134
    go_wp2
    go_ret
    exact ⟨rfl, rfl⟩
 | false =>
  obtain ⟨h2, h3, h5, h7⟩ := okP_false hp
  go_enter Try.func134, Try.ntmps134
  go_wp2
  go_ret
  exact ⟨rfl, rfl⟩

theorem byteOk (f : Nat → Nat) (hf : byte f) (k : Nat) : (0 : Int) ≤ (f k : Int) ∧ (f k : Int) ≤ 255 := by have := hf k; omega

set_option maxHeartbeats 800000 in
theorem IsPoly_any (p : Int) (f : Nat → Nat) (hf : byte f) (w : World) : Calls Try.prog 113 #[.int .i64 p, .agg (zb 64 f)] w fun e w' => e = .returned (.bool (okA p f)) ∧ Below w.heap.size w w' := by
 cases hp : okP p with
 | false =>
  go_enter Try.func113, Try.ntmps113
  go_wp2_with (go_at_call 66; refine (isPrime_any _ _).mono ?_; rintro e w' ⟨rfl, rfl⟩)
  go_ret
  exact ⟨ret_bool (by simp [okA, hp]), (Below.refl _ _).alloc (Nat.le_refl _) _⟩
 | true =>
  have hb := okP_le hp
  go_enter Try.func113, Try.ntmps113
  go_wp2_with (first | (go_at_call 66; refine (isPrime_any _ _).mono ?_; rintro e w' ⟨rfl, rfl⟩) | refine zlb rfl 23 _ rfl _ rfl 64 23 _ (Blk.new _ _ _ _) 5 Try.underlying23 Try.size23 ?_)
  go_loop [11] (fun i => ∃ k : Nat, k ≤ 64 ∧ (∀ j, j < k → (f j : Int) < p) ∧ i = .int .i64 (k : Int)) (fun i => 64 - (intOf i).toNat)
  case atStart => exact ⟨0, by omega, fun j hj => by omega, rfl⟩
  case round =>
   obtain ⟨k, hk, hall, rfl⟩ := hrel
   have HA := Lib.hid hall; clear hall
   by_cases hlt : k < 64
   · have hx := fun W => run_index_blk (P := Try.prog) 23 5 64 f .i64 k Try.underlying23 Try.underlying5 Try.size5 hlt W
     have hfk := byteOk f hf k
     by_cases hge : p ≤ (f k : Int)
     · go_wp2_with fail
       go_ret
       refine ⟨ret_bool ?_, (Below.refl _ _).alloc (Nat.le_refl _) _⟩
       cases h : okA p f with
       | false => rfl
       | true => have := okA_lt h hlt; omega
     · go_wp2_with fail
       go_round
       case rel =>
        refine ⟨k + 1, by omega, fun j hj => ?_, by go_num⟩
        by_cases e : j = k
        · subst e; omega
        · exact HA.out j (by omega)
       case measure => simp [intOf]; omega
   · go_wp2_with fail
     go_ret
     refine ⟨ret_bool ?_, (Below.refl _ _).alloc (Nat.le_refl _) _⟩
     exact (okA_iff.2 ⟨hp, fun i hi => HA.out i (by omega)⟩).symm

set_option maxHeartbeats 800000 in
theorem l01Is_any (p : Int) (f : Nat → Nat) (hf : byte f) (w : World) : Calls Try.prog 107 #[.int .i64 p, .agg (zb 64 f)] w fun e w' => e = .returned (.bool (okA p f)) ∧ Below w.heap.size w w' := by
 go_enter Try.func107, Try.ntmps107
 go_wp2_with fail
 go_loop [5] (fun i => ∃ k : Nat, k ≤ 64 ∧ (∀ j, j < k → (f j : Int) < p) ∧ i = .int .i64 (k : Int)) (fun i => 64 - (intOf i).toNat)
 case atStart => exact ⟨0, by omega, fun j hj => by omega, rfl⟩
 case round =>
  obtain ⟨k, hk, hall, rfl⟩ := hrel
  have HA := Lib.hid hall; clear hall
  by_cases hlt : k < 64
  · have hc := (Blk.new w 64 23 f).cell hlt
    have hfk := byteOk f hf k
    by_cases hge : p ≤ (f k : Int)
    · go_wp2_with fail
      go_ret
      refine ⟨ret_bool ?_, (Below.refl _ _).alloc (Nat.le_refl _) _⟩
      cases h : okA p f with
      | false => rfl
      | true => have := okA_lt h hlt; omega
    · go_wp2_with fail
      go_round
      case rel =>
       refine ⟨k + 1, by omega, fun j hj => ?_, by go_num⟩
       by_cases e : j = k
       · subst e; omega
       · exact HA.out j (by omega)
      case measure => simp [intOf]; omega
  · go_wp2_with (go_at_call 134; refine (l01Prime_any _ _).mono ?_; rintro e w' ⟨rfl, rfl⟩)
    go_ret
    refine ⟨ret_bool ?_, (Below.refl _ _).alloc (Nat.le_refl _) _⟩
    cases hp : okP p with
    | false => simp [okA, hp]
    | true => exact (okA_iff.2 ⟨hp, fun i hi => HA.out i (by omega)⟩).symm
end Go.Proofs.Ytobcdekochenfaa
end
section
namespace Go.Proofs.Ytobcdekochenfaa
open Go.RowKit
theorem codeL_p {p : Int} {fs : List (Nat → Nat)} (h : okP p = false) : codeL p fs = 1 := by simp [codeL, h]
theorem codeL_bad {p : Int} {fs : List (Nat → Nat)} {k : Nat} {f : Nat → Nat} (hk : fs[k]? = some f) (h : okA p f = false) : codeL p fs = 1 := by
 have : ¬ (fs.all (okA p) = true) := by
  rw [List.all_eq_true]
  intro h2
  have := h2 f (List.mem_of_getElem? hk)
  rw [h] at this; cases this
 simp [codeL, this]
theorem codeL_ok {p : Int} {fs : List (Nat → Nat)} (hp : okP p = true) (h : ∀ (j : Nat) (f : Nat → Nat), fs[j]? = some f → okA p f = true) : codeL p fs = 0 := by
 have : fs.all (okA p) = true := by
  rw [List.all_eq_true]
  intro f hf
  obtain ⟨j, hj⟩ := List.getElem?_of_mem hf
  exact h j f hj
 simp [codeL, hp, this]
set_option maxRecDepth 100000 in
set_option maxHeartbeats 800000 in
theorem checkPolys_any (p : Int) (fs : List (Nat → Nat)) (hf : ∀ f ∈ fs, byte f) (b : Nat) (w : World) (hs : PolS w b fs) (hl : fs.length ≤ 8) :
 Calls Try.prog 86 #[.int .i64 p, .slice (some ⟨b, 0, none⟩) fs.length fs.length] w fun e w' => e = .returned (.int .i64 (codeL p fs)) ∧ Below w.heap.size w w' := by
 cases hp : okP p with
 | false =>
  go_enter Try.func86, Try.ntmps86
  go_wp2_with (go_at_call 66; refine (isPrime_any _ _).mono ?_; rintro e w' ⟨rfl, rfl⟩)
  go_ret
  exact ⟨ret_int (codeL_p hp).symm, Below.refl _ _⟩
 | true =>
  go_enter Try.func86, Try.ntmps86
  go_wp2_with (go_at_call 66; refine (isPrime_any _ _).mono ?_; rintro e w' ⟨rfl, rfl⟩)
  go_loopw [12] (fun i wr => ∃ k : Nat, k ≤ fs.length ∧ (∀ j f, j < k → fs[j]? = some f → okA p f = true) ∧ i = .int .i64 (k : Int) ∧ Below w.heap.size w wr) (fun i _ => fs.length - (intOf i).toNat)
  case atStart => exact ⟨0, by omega, fun j f hj => by omega, rfl, Below.refl _ _⟩
  case round =>
   obtain ⟨k, hk, hall, rfl, hb⟩ := hrel
   have HA := Lib.hid hall; clear hall
   by_cases hlt : k < fs.length
   · obtain ⟨f, hfk⟩ : ∃ f, fs[k]? = some f := ⟨_, List.getElem?_eq_getElem hlt⟩
     have hr := (hs.zw hb).range hfk
     have HK := Lib.hid hfk
     have hbf := hf f (List.mem_of_getElem? hfk)
     clear hfk
     have hb2 := okP_le hp
     cases hkk : okA p f with
     | false =>
      go_wp2_with (first | refine wpList_load_mid rfl 23 _ rfl b (k * 64) rfl _ _ hr Try.underlying23 rfl (by rw [zl]; exact Try.size23) ?_ | refine wpList_store_new rfl 23 _ _ rfl _ 23 64 f rfl rfl rfl Try.size23 ?_ | refine zlb rfl 23 _ rfl _ rfl 64 23 _ (Blk.new _ _ _ _) 5 Try.underlying23 Try.size23 ?_ | (go_at_call 113; refine (IsPoly_any _ _ hbf _).mono ?_; rintro e w' ⟨rfl, hw⟩))
      go_ret
      exact ⟨ret_int (codeL_bad HK.out hkk).symm, hb.trans (((zal _ _).trans (hw.mono (by simp))).mono hb.size)⟩
     | true =>
      go_wp2_with (first | refine wpList_load_mid rfl 23 _ rfl b (k * 64) rfl _ _ hr Try.underlying23 rfl (by rw [zl]; exact Try.size23) ?_ | refine wpList_store_new rfl 23 _ _ rfl _ 23 64 f rfl rfl rfl Try.size23 ?_ | refine zlb rfl 23 _ rfl _ rfl 64 23 _ (Blk.new _ _ _ _) 5 Try.underlying23 Try.size23 ?_ | (go_at_call 113; refine (IsPoly_any _ _ hbf _).mono ?_; rintro e w' ⟨rfl, hw⟩))
      go_roundw
      case rel =>
       refine ⟨k + 1, by omega, fun j g hj hg => ?_, by go_num, hb.trans (((zal _ _).trans (hw.mono (by simp))).mono hb.size)⟩
       by_cases e : j = k
       · subst e
         have := HK.out
         rw [hg] at this
         injection this with this
         subst this
         exact hkk
       · exact HA.out j g (by omega) hg
      case measure => simp [intOf]; omega
   · go_wp2_with fail
     go_ret
     refine ⟨ret_int (codeL_ok hp fun j f hj => HA.out j f ?_ hj).symm, hb⟩
     have := (List.getElem?_eq_some_iff.1 hj).1
     omega
set_option maxRecDepth 100000 in
set_option maxHeartbeats 800000 in
theorem l01Code_any (p : Int) (fs : List (Nat → Nat)) (hf : ∀ f ∈ fs, byte f) (b : Nat) (w : World) (hs : PolS w b fs) (hl : fs.length ≤ 8) :
 Calls Try.prog 84 #[.int .i64 p, .slice (some ⟨b, 0, none⟩) fs.length fs.length] w fun e w' => e = .returned (.int .i64 (codeL p fs)) ∧ Below w.heap.size w w' := by
 cases hp : okP p with
 | false =>
  go_enter Try.func84, Try.ntmps84
  go_wp2_with (go_at_call 134; refine (l01Prime_any _ _).mono ?_; rintro e w' ⟨rfl, rfl⟩)
  go_ret
  exact ⟨ret_int (codeL_p hp).symm, Below.refl _ _⟩
 | true =>
  go_enter Try.func84, Try.ntmps84
  go_wp2_with (go_at_call 134; refine (l01Prime_any _ _).mono ?_; rintro e w' ⟨rfl, rfl⟩)
  go_loopw [5] (fun i wr => ∃ k : Nat, k ≤ fs.length ∧ (∀ j f, j < k → fs[j]? = some f → okA p f = true) ∧ i = .int .i64 (k : Int) ∧ Below w.heap.size w wr) (fun i _ => fs.length - (intOf i).toNat)
  case atStart => exact ⟨0, by omega, fun j f hj => by omega, rfl, Below.refl _ _⟩
  case round =>
   obtain ⟨k, hk, hall, rfl, hb⟩ := hrel
   have HA := Lib.hid hall; clear hall
   by_cases hlt : k < fs.length
   · obtain ⟨f, hfk⟩ : ∃ f, fs[k]? = some f := ⟨_, List.getElem?_eq_getElem hlt⟩
     have hr := (hs.zw hb).range hfk
     have HK := Lib.hid hfk
     have hbf := hf f (List.mem_of_getElem? hfk)
     clear hfk
     cases hkk : okA p f with
     | false =>
      go_wp2_with (first | refine wpList_load_mid rfl 23 _ rfl b (k * 64) rfl _ _ hr Try.underlying23 rfl (by rw [zl]; exact Try.size23) ?_ | (go_at_call 107; refine (l01Is_any _ _ hbf _).mono ?_; rintro e w' ⟨rfl, hw⟩))
      go_ret
      exact ⟨ret_int (codeL_bad HK.out hkk).symm, hb.trans (hw.mono hb.size)⟩
     | true =>
      go_wp2_with (first | refine wpList_load_mid rfl 23 _ rfl b (k * 64) rfl _ _ hr Try.underlying23 rfl (by rw [zl]; exact Try.size23) ?_ | (go_at_call 107; refine (l01Is_any _ _ hbf _).mono ?_; rintro e w' ⟨rfl, hw⟩))
      go_roundw
      case rel =>
       refine ⟨k + 1, by omega, fun j g hj hg => ?_, by go_num, hb.trans (hw.mono hb.size)⟩
       by_cases e : j = k
       · subst e
         have := HK.out
         rw [hg] at this
         injection this with this
         subst this
         exact hkk
       · exact HA.out j g (by omega) hg
      case measure => simp [intOf]; omega
   · go_wp2_with fail
     go_ret
     refine ⟨ret_int (codeL_ok hp fun j f hj => HA.out j f ?_ hj).symm, hb⟩
     have := (List.getElem?_eq_some_iff.1 hj).1
     omega
end Go.Proofs.Ytobcdekochenfaa
end
section
namespace Go.Proofs.Ytobcdekochenfaa
open Go.RowKit
set_option linter.unusedVariables false
set_option maxRecDepth 100000 in
set_option maxHeartbeats 400000 in
theorem toPoly_any (f : Nat → Nat) (hf : byte f) (w : World) : Calls Try.prog 25 #[.agg (zb 64 f)] w fun e w' => e = .returned (.agg (zb 64 f)) ∧ Below w.heap.size w w' := by
 go_enter Try.func25, Try.ntmps25
 go_wp2_with fail
 rw [← z64]
 go_loopw [4] (fun i wr => ∃ k : Nat, k ≤ 64 ∧ i = .int .i64 (k : Int) ∧ Below w.heap.size w wr ∧ Blk wr w.heap.size 64 22 f ∧ Blk wr (w.heap.size + 1) 64 23 (fun _ => 0) ∧ Blk wr (w.heap.size + 1 + 1) 64 23 (fun i => if i < k then f i else 0)) (fun i _ => 64 - (intOf i).toNat)
 case atStart =>
  refine ⟨0, by omega, rfl, (((Below.refl _ _).alloc (Nat.le_refl _) _).alloc (by simp) _).alloc (by simp; omega) _, ?_, ?_, ?_⟩
  · exact (((Blk.new w _ _ _).alloc _).alloc _)
  · have := ((Blk.new (w.alloc (.cells (zb 64 f) 22)) 64 23 (fun _ => 0)).alloc (.cells (zb 64 fun _ => 0) 23)); simpa using this
  · have := (Blk.new ((w.alloc (.cells (zb 64 f) 22)).alloc (.cells (zb 64 fun _ => 0) 23)) 64 23 (fun _ => 0)); simpa using this
 case round =>
  obtain ⟨k, hk, rfl, hb, h0, h1, h2⟩ := hrel
  by_cases hlt : k < 64
  · have c4 := h0.cell hlt
    have c5 := h2.cell hlt
    have z4 := h2.frozen k
    have b1 := byteOk f hf k
    go_wp2_with fail
    go_roundw
    case rel =>
     refine ⟨k + 1, by omega, by go_num, hb.setCell (by simp; omega) _, ?_, ?_, ?_⟩
     · exact h0.setOther (by simp; omega)
     · exact h1.setOther (by simp)
     · exact (h2.set (v := f k) rfl).congr (fun i _ => upd_lt (a := f) rfl i)
    case measure => simp [intOf]; omega
  · have e : k = 64 := by omega
    subst e
    go_wp2_with (first | refine zlb rfl 23 _ rfl _ rfl 64 23 _ (h2) 5 Try.underlying23 Try.size23 ?_ | refine wpList_store_blk rfl 23 _ _ rfl _ 64 ((fun i => if i < 64 then f i else 0)) rfl rfl 23 _ (h1) Try.size23 ?_)
    refine bodyPost_ret (zrb rfl _ _ _ 64 23 5 _ rfl (h1.row _) Try.underlying23 Try.size23) rfl ⟨?_, ?_⟩
    · rw [zbc (g := f)]
      intro i hi; simp [hi]
    · exact below_setRow hb (by omega) _

set_option maxRecDepth 100000 in
set_option maxHeartbeats 400000 in
theorem eqPoly_same (f g : Nat → Nat) (hfg : ∀ i, i < 64 → f i = g i) (w : World) : Calls Try.prog 21 #[.agg (zb 64 f), .agg (zb 64 g)] w fun e w' => e = .returned (.bool true) ∧ Below w.heap.size w w' := by
 rw [zbc (fun i hi => (hfg i hi).symm)]
 go_enter Try.func21, Try.ntmps21
 go_wp2_with fail
 clear hfg
 go_loopw [5] (fun i wr => ∃ k : Nat, k ≤ 64 ∧ i = .int .i64 (k : Int) ∧ Below w.heap.size w wr ∧ Blk wr w.heap.size 64 23 f ∧ Blk wr (w.heap.size + 1) 64 23 f) (fun i _ => 64 - (intOf i).toNat)
 case atStart =>
  refine ⟨0, by omega, rfl, ((Below.refl _ _).alloc (Nat.le_refl _) _).alloc (by simp) _, (Blk.new w _ _ _).alloc _, ?_⟩
  have := Blk.new (w.alloc (.cells (zb 64 f) 23)) 64 23 f; simpa using this
 case round =>
  obtain ⟨k, hk, rfl, hb, h0, h1⟩ := hrel
  by_cases hlt : k < 64
  · have c4 := h0.cell hlt
    have c5 := h1.cell hlt
    have hk0 : (0 : Int) ≤ (k : Int) := by omega
    have hk1 : (k : Int) < 64 := by omega
    have hne : ((f k : Int) != (f k : Int)) = false := by simp
    go_wp2_with fail
    go_quiet (fail)
    go_wp2_with fail
    go_roundw
    case rel => exact ⟨k + 1, by omega, by go_num, below_drewN' hb _, h0.drewN _, h1.drewN _⟩
    case measure => simp [intOf]; omega
  · go_wp2_with fail
    go_ret
    exact ⟨rfl, hb⟩

set_option maxRecDepth 100000 in
set_option maxHeartbeats 400000 in
theorem sum_any (p : Nat) (f g : Nat → Nat) (w : World) (hp1 : 2 ≤ p) (hp2 : p ≤ 7) (hf : ∀ i, i < 64 → f i < p) (hg : ∀ i, i < 64 → g i < p) :
 Calls Try.prog 138 #[.int .i64 (p : Int), .agg (zb 64 f), .agg (zb 64 g)] w fun e w' => e = .returned (.agg (zb 64 fun i => (f i + g i) % p)) ∧ Below w.heap.size w w' := by
 go_enter Try.func138, Try.ntmps138
 go_wp2_with fail
 have HF := Lib.hid hf; clear hf
 have HG := Lib.hid hg; clear hg
 rw [← z64]
 go_loopw [8] (fun i wr => ∃ k : Nat, k ≤ 64 ∧ i = .int .i64 (k : Int) ∧ Below w.heap.size w wr ∧ Blk wr w.heap.size 64 23 (fun i => if i < k then (f i + g i) % p else f i) ∧ Blk wr (w.heap.size + 1) 64 23 g ∧ Blk wr (w.heap.size + 1 + 1) 64 23 (fun _ => 0)) (fun i _ => 64 - (intOf i).toNat)
 case atStart =>
  refine ⟨0, by omega, rfl, (((Below.refl _ _).alloc (Nat.le_refl _) _).alloc (by simp) _).alloc (by simp; omega) _, ?_, ?_, ?_⟩
  · exact (((Blk.new w _ _ _).alloc _).alloc _).congr (by simp)
  · have := ((Blk.new (w.alloc (.cells (zb 64 f) 23)) 64 23 g).alloc (.cells (zb 64 fun _ => 0) 23)); simpa using this
  · have := (Blk.new ((w.alloc (.cells (zb 64 f) 23)).alloc (.cells (zb 64 g) 23)) 64 23 (fun _ => 0)); simpa using this
 case round =>
  obtain ⟨k, hk, rfl, hb, h0, h1, h2⟩ := hrel
  by_cases hlt : k < 64
  · have c4 : wr.cell? ⟨w.heap.size, k, none⟩ = some (.int .u8 (f k : Int)) := by rw [h0.cell hlt]; simp
    have c5 := h1.cell hlt
    have z4 := h0.frozen k
    have b1 : f k < p := HF.out k hlt
    have b2 : g k < p := HG.out k hlt
    go_wp2_with fail
    go_region
    go_wp2_with fail
    go_roundw
    case rel =>
     refine ⟨k + 1, by omega, by go_num, (hb.setCell (by simp) _).drew, ?_, ?_, ?_⟩
     · exact ((h0.set (v := (f k + g k) % p) (by push_cast; rfl)).congr (fun i _ => upd_lt (a := fun i => (f i + g i) % p) rfl i)).drew
     · exact (h1.setOther (by simp)).drew
     · exact (h2.setOther (by simp; omega)).drew
    case measure => simp [intOf]; omega
  · have e : k = 64 := by omega
    subst e
    go_wp2_with (first | refine zlb rfl 23 _ rfl _ rfl 64 23 _ (h0) 5 Try.underlying23 Try.size23 ?_ | refine wpList_store_blk rfl 23 _ _ rfl _ 64 ((fun i => if i < 64 then (f i + g i) % p else f i)) rfl rfl 23 _ (h2) Try.size23 ?_)
    refine bodyPost_ret (zrb rfl _ _ _ 64 23 5 _ rfl (h2.row _) Try.underlying23 Try.size23) rfl ⟨?_, ?_⟩
    · rw [zbc (g := fun i => (f i + g i) % p)]
      intro i hi; simp [hi]
    · exact below_setRow hb (by omega) _

/-- f and k times g, modulo p -/
def addK (p : Nat) (f g : Nat → Nat) (k : Int) : Nat → Nat := fun i => (((f i : Int) + k * (g i : Int)) % (p : Int)).toNat
theorem small_mul (k : Int) (n : Nat) (hk1 : -6 ≤ k) (hk2 : k ≤ 6) (hn : n < 7) : -42 ≤ k * (n : Int) ∧ k * (n : Int) ≤ 42 := by
 have : n = 0 ∨ n = 1 ∨ n = 2 ∨ n = 3 ∨ n = 4 ∨ n = 5 ∨ n = 6 := by omega
 rcases this with h | h | h | h | h | h | h <;> subst h <;> constructor <;> omega

set_option maxRecDepth 100000 in
set_option maxHeartbeats 800000 in
theorem l01Add_any (p : Nat) (f g : Nat → Nat) (k0 : Int) (w : World) (hp1 : 2 ≤ p) (hp2 : p ≤ 7) (hk1 : -6 ≤ k0) (hk2 : k0 ≤ 6) (hf : ∀ i, i < 64 → f i < p) (hg : ∀ i, i < 64 → g i < p) :
 Calls Try.prog 79 #[.int .i64 (p : Int), .agg (zb 64 f), .agg (zb 64 g), .int .i64 k0] w fun e w' => e = .returned (.agg (zb 64 (addK p f g k0))) ∧ Below w.heap.size w w' := by
 go_enter Try.func79, Try.ntmps79
 go_wp2_with fail
 have HF := Lib.hid hf; clear hf
 have HG := Lib.hid hg; clear hg
 rw [← z64]
 go_loopw [9] (fun i wr => ∃ k : Nat, k ≤ 64 ∧ i = .int .i64 (k : Int) ∧ Below w.heap.size w wr ∧ Blk wr w.heap.size 64 23 (fun i => if i < k then addK p f g k0 i else f i) ∧ Blk wr (w.heap.size + 1) 64 23 g ∧ Blk wr (w.heap.size + 1 + 1) 64 23 (fun _ => 0)) (fun i _ => 64 - (intOf i).toNat)
 case atStart =>
  refine ⟨0, by omega, rfl, (((Below.refl _ _).alloc (Nat.le_refl _) _).alloc (by simp) _).alloc (by simp; omega) _, ?_, ?_, ?_⟩
  · exact (((Blk.new w _ _ _).alloc _).alloc _).congr (by simp)
  · have := ((Blk.new (w.alloc (.cells (zb 64 f) 23)) 64 23 g).alloc (.cells (zb 64 fun _ => 0) 23)); simpa using this
  · have := (Blk.new ((w.alloc (.cells (zb 64 f) 23)).alloc (.cells (zb 64 g) 23)) 64 23 (fun _ => 0)); simpa using this
 case round =>
  obtain ⟨k, hk, rfl, hb, h0, h1, h2⟩ := hrel
  by_cases hlt : k < 64
  · have c4 : wr.cell? ⟨w.heap.size, k, none⟩ = some (.int .u8 (f k : Int)) := by rw [h0.cell hlt]; simp
    have c5 := h1.cell hlt
    have z4 := h0.frozen k
    have b1 : f k < p := HF.out k hlt
    have b2 : g k < p := HG.out k hlt
    obtain ⟨m1, m2⟩ := small_mul k0 (g k) hk1 hk2 (by omega)
    have t1 : -(p : Int) < ((f k : Int) + k0 * (g k : Int)).tmod p := by
     have := Int.tmod_lt_of_pos (-((f k : Int) + k0 * (g k : Int))) (b := (p : Int)) (by omega)
     rw [Int.neg_tmod] at this; omega
    have t2 : ((f k : Int) + k0 * (g k : Int)).tmod p < (p : Int) := Int.tmod_lt_of_pos _ (by omega)
    have hA : Hid (((f k : Int) + k0 * (g k : Int)).tmod p % p % 256 = (addK p f g k0 k : Int)) := by
     have e1 : ((f k : Int) + k0 * (g k : Int)).tmod p % p = ((f k : Int) + k0 * (g k : Int)) % p := by rw [Int.tmod_def, Int.sub_mul_emod_self_left]
     have e2 := Int.emod_nonneg ((f k : Int) + k0 * (g k : Int)) (b := (p : Int)) (by omega)
     have e3 := Int.emod_lt_of_pos ((f k : Int) + k0 * (g k : Int)) (b := (p : Int)) (by omega)
     unfold addK
     rw [Int.toNat_of_nonneg e2, e1]
     exact Int.emod_eq_of_lt e2 (by omega)
    have hm0 : (0 : Int) ≤ ((f k : Int) + k0 * (g k : Int)).tmod p + p := by omega
    go_wp2_with fail
    go_region
    go_wp2_with fail
    go_roundw
    case rel =>
     refine ⟨k + 1, by omega, by go_num, (hb.setCell (by simp) _).drew, ?_, ?_, ?_⟩
     · exact ((h0.set (v := addK p f g k0 k) hA.out).congr (fun i _ => upd_lt (a := addK p f g k0) rfl i)).drew
     · exact (h1.setOther (by simp)).drew
     · exact (h2.setOther (by simp; omega)).drew
    case measure => simp [intOf]; omega
  · have e : k = 64 := by omega
    subst e
    go_wp2_with (first | refine zlb rfl 23 _ rfl _ rfl 64 23 _ (h0) 5 Try.underlying23 Try.size23 ?_ | refine wpList_store_blk rfl 23 _ _ rfl _ 64 ((fun i => if i < 64 then addK p f g k0 i else f i)) rfl rfl 23 _ (h2) Try.size23 ?_)
    refine bodyPost_ret (zrb rfl _ _ _ 64 23 5 _ rfl (h2.row _) Try.underlying23 Try.size23) rfl ⟨?_, ?_⟩
    · rw [zbc (g := addK p f g k0)]
      intro i hi; simp [hi]
    · exact below_setRow hb (by omega) _
end Go.Proofs.Ytobcdekochenfaa
end
section
namespace Go.Proofs.Ytobcdekochenfaa
open Go.RowKit
set_option linter.unusedVariables false
theorem Try.elem23 : (Try.prog.info? 23).map (fun i => (i.size, i.zero.isSome)) = some (64, true) := by kernel_rfl
theorem codeL_two (p : Int) (fs : List (Nat → Nat)) : codeL p fs = 0 ∨ codeL p fs = 1 := by
 unfold codeL; split <;> simp
theorem codeL_zero {p : Int} {fs : List (Nat → Nat)} (h : codeL p fs = 0) : okP p = true ∧ ∀ f ∈ fs, okA p f = true := by
 unfold codeL at h
 split at h
 · rename_i h'
   simpa [List.all_eq_true] using h'
 · cases h
theorem addK_one (p : Nat) (f g : Nat → Nat) : addK p f g 1 = fun i => (f i + g i) % p := by
 funext i; unfold addK
 rw [Int.one_mul, ← Int.natCast_add, ← Int.natCast_emod, Int.toNat_natCast]
end Go.Proofs.Ytobcdekochenfaa
end
section
namespace Go.Proofs.Ytobcdekochenfaa
open Go.RowKit
set_option linter.unusedVariables false
theorem okP_nat {p : Int} (h : okP p = true) : ∃ n : Nat, p = (n : Int) ∧ 2 ≤ n ∧ n ≤ 7 := by
 have := okP_le h
 exact ⟨p.toNat, by omega, by omega, by omega⟩
theorem lt_of_code {n : Nat} {fs : List (Nat → Nat)} (hc : codeL (n : Int) fs = 0) {f : Nat → Nat} (h : f ∈ fs) : ∀ i, i < 64 → f i < n := by
 intro i hi
 have := okA_lt ((codeL_zero hc).2 f h) hi
 omega
def degB (f : Nat → Nat) : Nat → Int
 | 0 => -1
 | n + 1 => if f n ≠ 0 then (n : Int) else degB f n
def deg (f : Nat → Nat) : Int := degB f 64
theorem degB_step {f : Nat → Nat} {k : Nat} (h : f k = 0) : degB f (k + 1) = degB f k := by simp [degB, h]
theorem degB_hit {f : Nat → Nat} {k : Nat} (h : f k ≠ 0) : degB f (k + 1) = (k : Int) := by simp [degB, h]
set_option maxHeartbeats 400000 in
theorem degree_any (f : Nat → Nat) (w : World) :
 Calls Try.prog 82 #[.agg (zb 64 f)] w fun e w' => e = .returned (.int .i64 (deg f)) ∧ Below w.heap.size w w' := by
 go_enter Try.func82, Try.ntmps82
 go_wp2_with fail
 go_loop [3] (fun i => ∃ k : Nat, k ≤ 64 ∧ degB f 64 = degB f k ∧ i = .int .i64 ((k : Int) - 1)) (fun i => (intOf i + 1).toNat)
 case atStart => exact ⟨64, by omega, rfl, by rfl⟩
 case round =>
  obtain ⟨k, hk, hd, rfl⟩ := hrel
  have hD := Lib.hid hd; clear hd
  rcases k with _ | k
  · go_wp2
    go_ret
    exact ⟨ret_int (by rw [deg, hD.out]; rfl), (Below.refl _ _).alloc (Nat.le_refl _) _⟩
  · have hc := (Blk.new w 64 23 f).cell (i := k) (by omega)
    have e1 : ((k + 1 : Nat) : Int) - 1 = (k : Int) := by omega
    rw [e1]
    by_cases h0 : f k = 0
    · have hb : ((f k : Int) != 0) = false := by simp [h0]
      go_wp2
      go_round
      case rel => exact ⟨k, by omega, by rw [hD.out, degB_step h0], by go_num⟩
      case measure => simp [intOf]
    · have hb : ((f k : Int) != 0) = true := by simpa using h0
      go_wp2
      go_ret
      exact ⟨ret_int (by rw [deg, hD.out, degB_hit h0]), (Below.refl _ _).alloc (Nat.le_refl _) _⟩
set_option maxHeartbeats 400000 in
theorem l01Deg_any (f : Nat → Nat) (w : World) :
 Calls Try.prog 74 #[.agg (zb 64 f)] w fun e w' => e = .returned (.int .i64 (deg f)) ∧ Below w.heap.size w w' := by
 go_enter Try.func74, Try.ntmps74
 go_wp2_with fail
 go_loop [3] (fun i => ∃ k : Nat, k ≤ 64 ∧ degB f 64 = degB f k ∧ i = .int .i64 ((k : Int) - 1)) (fun i => (intOf i + 1).toNat)
 case atStart => exact ⟨64, by omega, rfl, by rfl⟩
 case round =>
  obtain ⟨k, hk, hd, rfl⟩ := hrel
  have hD := Lib.hid hd; clear hd
  rcases k with _ | k
  · go_wp2
    go_ret
    exact ⟨ret_int (by rw [deg, hD.out]; rfl), (Below.refl _ _).alloc (Nat.le_refl _) _⟩
  · have hc := (Blk.new w 64 23 f).cell (i := k) (by omega)
    have e1 : ((k + 1 : Nat) : Int) - 1 = (k : Int) := by omega
    rw [e1]
    by_cases h0 : f k = 0
    · have hb : ((f k : Int) == 0) = true := by simp [h0]
      go_wp2
      go_round
      case rel => exact ⟨k, by omega, by rw [hD.out, degB_step h0], by go_num⟩
      case measure => simp [intOf]
    · have hb : ((f k : Int) == 0) = false := by simpa using h0
      go_wp2
      go_ret
      exact ⟨ret_int (by rw [deg, hD.out, degB_hit h0]), (Below.refl _ _).alloc (Nat.le_refl _) _⟩
end Go.Proofs.Ytobcdekochenfaa
end
section
namespace Go.Proofs.Ytobcdekochenfaa
open Go.RowKit
set_option linter.unusedVariables false
theorem degB_spec (f : Nat → Nat) : ∀ k, (degB f k = -1 ∧ ∀ j, j < k → f j = 0) ∨ ∃ d, d < k ∧ degB f k = (d : Int) ∧ f d ≠ 0 ∧ ∀ j, d < j → j < k → f j = 0
 | 0 => .inl ⟨rfl, fun j hj => by omega⟩
 | k + 1 => by
  by_cases h : f k = 0
  · rw [degB_step h]
    rcases degB_spec f k with ⟨e, hz⟩ | ⟨d, hd, e, hne, hz⟩
    · refine .inl ⟨e, fun j hj => ?_⟩
      by_cases hj2 : j = k
      · rw [hj2]; exact h
      · exact hz j (by omega)
    · refine .inr ⟨d, by omega, e, hne, fun j h1 h2 => ?_⟩
      by_cases hj2 : j = k
      · rw [hj2]; exact h
      · exact hz j h1 (by omega)
  · exact .inr ⟨k, by omega, degB_hit h, h, fun j h1 h2 => by omega⟩
theorem deg_spec (f : Nat → Nat) : (deg f = -1 ∧ ∀ j, j < 64 → f j = 0) ∨ ∃ d : Nat, d < 64 ∧ deg f = (d : Int) ∧ f d ≠ 0 ∧ ∀ j : Nat, d < j → j < 64 → f j = 0 := degB_spec f 64
set_option maxHeartbeats 400000 in
theorem l01In_any (n l h : Int) (w : World) : Calls Try.prog 85 #[.int .i64 n, .int .i64 l, .int .i64 h] w fun e w' => e = .returned (.bool (decide (l ≤ n ∧ n ≤ h))) ∧ w = w' := by
 by_cases h1 : l ≤ n
 · by_cases h2 : n ≤ h
   · go_enter Try.func85, Try.ntmps85
     go_wp2
     go_ret
     exact ⟨ret_bool (by simp [h1, h2]), rfl⟩
   · go_enter Try.func85, Try.ntmps85
     go_wp2
     go_ret
     exact ⟨ret_bool (by simp [h2]), rfl⟩
 · go_enter Try.func85, Try.ntmps85
   go_wp2
   go_ret
   exact ⟨ret_bool (by simp; omega), rfl⟩
theorem l01In_yes (n l h : Int) (h1 : l ≤ n ∧ n ≤ h) (w : World) : Calls Try.prog 85 #[.int .i64 n, .int .i64 l, .int .i64 h] w fun e w' => e = .returned (.bool true) ∧ w = w' :=
 (l01In_any n l h w).mono fun _ _ ⟨a, b⟩ => ⟨by rw [a, decide_eq_true h1], b⟩
theorem l01In_no (n l h : Int) (h1 : ¬ (l ≤ n ∧ n ≤ h)) (w : World) : Calls Try.prog 85 #[.int .i64 n, .int .i64 l, .int .i64 h] w fun e w' => e = .returned (.bool false) ∧ w = w' :=
 (l01In_any n l h w).mono fun _ _ ⟨a, b⟩ => ⟨by rw [a, decide_eq_false h1], b⟩
end Go.Proofs.Ytobcdekochenfaa
end
section
namespace Go.Proofs.Ytobcdekochenfaa
open Go.RowKit
set_option linter.unusedVariables false
/-- digit i of n at base p -/
def dgt (p n i : Nat) : Nat := n / p ^ i % p
theorem pow_two_le (p i : Nat) (hp : 2 ≤ p) : 2 ^ i ≤ p ^ i := Nat.pow_le_pow_left hp i
theorem dgt_bound {p n k : Nat} (hp : 2 ≤ p) (hn : n ≤ 1000000000000) (h : 0 < n / p ^ k) : k < 40 := by
 by_cases hk : k < 40
 · exact hk
 · exfalso
   have h1 : p ^ k ≤ n := by
    by_cases h2 : p ^ k ≤ n
    · exact h2
    · rw [Nat.div_eq_of_lt (by omega)] at h; omega
   have h2 := pow_two_le p k hp
   have h3 : 2 ^ 40 ≤ 2 ^ k := Nat.pow_le_pow_right (by omega) (by omega)
   have h4 : (2 : Nat) ^ 40 = 1099511627776 := by decide +kernel
   omega
theorem dgt_zero {p n k i : Nat} (hp : 2 ≤ p) (h : n / p ^ k = 0) (hi : k ≤ i) : dgt p n i = 0 := by
 unfold dgt
 have h1 : n < p ^ k := by
  by_cases h2 : n < p ^ k
  · exact h2
  · have := Nat.div_pos (show p ^ k ≤ n by omega) (Nat.pow_pos (by omega))
    omega
 have h2 : p ^ k ≤ p ^ i := Nat.pow_le_pow_right (by omega) hi
 rw [Nat.div_eq_of_lt (by omega)]
 exact Nat.zero_mod _
theorem dgt_next (p n k : Nat) : n / p ^ (k + 1) = n / p ^ k / p := by
 rw [Nat.pow_succ, Nat.div_div_eq_div_mul]
def ofN (p : Nat) (n : Nat) : Nat → Nat := fun i => dgt p n i
set_option maxRecDepth 100000 in
set_option maxHeartbeats 800000 in
theorem polyOfNumber_any (p n : Nat) (w : World) (hp1 : 2 ≤ p) (hp2 : p ≤ 7) (hn : (n : Int) ≤ 1000000000000) :
 Calls Try.prog 217 #[.int .i64 (p : Int), .int .i64 (n : Int)] w fun e w' => e = .returned (.agg (zb 64 (ofN p n))) ∧ Below w.heap.size w w' := by
 go_enter Try.func217, Try.ntmps217
 go_wp2_with fail
 rw [← z64]
 go_loopw [1, 6] (fun v i wr => ∃ k : Nat, k ≤ 64 ∧ i = .int .i64 (k : Int) ∧ v = .int .i64 ((n / p ^ k : Nat) : Int) ∧ Below w.heap.size w wr ∧ Blk wr w.heap.size 64 23 (fun _ => 0) ∧ Blk wr (w.heap.size + 1) 64 23 (fun i => if i < k then dgt p n i else 0)) (fun v _ _ => (intOf v).toNat)
 case atStart =>
  refine ⟨0, by omega, rfl, by rw [Nat.pow_zero, Nat.div_one], ((Below.refl _ _).alloc (Nat.le_refl _) _).alloc (by simp) _, (Blk.new w _ _ _).alloc _, ?_⟩
  have := (Blk.new (w.alloc (.cells (zb 64 fun _ => 0) 23)) 64 23 (fun _ => 0)).congr (g := fun i => if i < 0 then dgt p n i else 0) (by simp)
  simpa using this
 case round =>
  obtain ⟨k, hk, rfl, rfl, hb, h0, h1⟩ := hrel
  obtain ⟨q, hq⟩ : ∃ q, q = n / p ^ k := ⟨_, rfl⟩
  rw [← hq]
  by_cases hpos : 0 < q
  · have hk40 : k < 40 := dgt_bound (n := n) hp1 (by omega) (by rw [← hq]; exact hpos)
    have hqn : q ≤ n := by rw [hq]; exact Nat.div_le_self _ _
    have z1 := h1.frozen k
    have c1 := h1.cell (i := k) (by omega)
    have hm : q % p < p := Nat.mod_lt _ (by omega)
    have hmi : ((q : Int) % (p : Int)) < (p : Int) := Int.emod_lt_of_pos _ (by omega)
    have hmi0 : 0 ≤ ((q : Int) % (p : Int)) := Int.emod_nonneg _ (by omega)
    have hdi0 : 0 ≤ ((q : Int) / (p : Int)) := Int.ediv_nonneg (by omega) (by omega)
    have hdi1 : ((q : Int) / (p : Int)) ≤ 1000000000000 := by
     have := Int.ediv_le_self (p : Int) (show (0 : Int) ≤ (q : Int) by omega)
     omega
    have hd : q / p < q := Nat.div_lt_self hpos (by omega)
    have HQ := Lib.hid hq; clear hq
    have HD := Lib.hid hd; clear hd
    go_wp2_with fail
    go_roundw
    case rel =>
     refine ⟨k + 1, by omega, by go_num, ?_, hb.setCell (by simp) _, h0.setOther (by simp), ?_⟩
     · rw [dgt_next, ← HQ.out]; push_cast; rfl
     · exact (h1.set (v := dgt p n k) (by unfold dgt; rw [← HQ.out]; push_cast; rfl)).congr (fun i _ => upd_lt (a := dgt p n) (b := fun _ => 0) rfl i)
    case measure =>
     simp only [intOf]
     have := HD.out
     have e : (q : Int) / (p : Int) = ((q / p : Nat) : Int) := by push_cast; rfl
     rw [e]
     omega
  · have hq0 : q = 0 := by omega
    subst hq0
    have HQ := Lib.hid hq; clear hq
    go_wp2_with (first | refine zlb rfl 23 _ rfl _ rfl 64 23 _ (h1) 5 Try.underlying23 Try.size23 ?_ | refine wpList_store_blk rfl 23 _ _ rfl _ 64 ((fun i => if i < k then dgt p n i else 0)) rfl rfl 23 _ (h0) Try.size23 ?_)
    refine bodyPost_ret (zrb rfl _ _ _ 64 23 5 _ rfl (h0.row _) Try.underlying23 Try.size23) rfl ⟨?_, below_setRow hb (by omega) _⟩
    rw [zbc (g := ofN p n)]
    intro i _
    unfold ofN
    by_cases hi : i < k
    · rw [if_pos hi]
    · rw [if_neg hi, dgt_zero hp1 HQ.out.symm (by omega)]
set_option maxRecDepth 100000 in
set_option maxHeartbeats 800000 in
theorem l01Of_any (p n : Nat) (w : World) (hp1 : 2 ≤ p) (hp2 : p ≤ 7) (hn : (n : Int) ≤ 1000000000000) :
 Calls Try.prog 77 #[.int .i64 (p : Int), .int .i64 (n : Int)] w fun e w' => e = .returned (.agg (zb 64 (ofN p n))) ∧ Below w.heap.size w w' := by
 go_enter Try.func77, Try.ntmps77
 go_upto_region 1 with (fail)
 rw [← z64]
 obtain ⟨wo, hwo⟩ : ∃ wo : World, wo = w.alloc (.cells (zb 64 fun _ => 0) 23) := ⟨_, rfl⟩
 have hsz := Lib.hid (show wo.heap.size = w.heap.size + 1 by rw [hwo]; simp)
 rw [← hwo]
 have HW := Lib.hid hwo; clear hwo
 go_upto_region 2 with (refine wpList_store_new rfl 23 _ _ rfl _ 23 64 (fun _ => 0) rfl (by exact congrArg Value.agg z64.symm) rfl Try.size23 ?_)
 rw [hsz.out]
 have hwo := HW.out
 clear hsz HW
 subst hwo
 go_wp2_with fail
 go_loopw [1, 6] (fun v i wr => ∃ k : Nat, k ≤ 64 ∧ i = .int .i64 (k : Int) ∧ v = .int .i64 ((n / p ^ k : Nat) : Int) ∧ Below w.heap.size w wr ∧ Blk wr w.heap.size 64 23 (fun _ => 0) ∧ Blk wr (w.heap.size + 1) 64 23 (fun i => if i < k then dgt p n i else 0)) (fun v _ _ => (intOf v).toNat)
 case atStart =>
  refine ⟨0, by omega, rfl, by rw [Nat.pow_zero, Nat.div_one], ((Below.refl _ _).alloc (Nat.le_refl _) _).alloc (by simp) _, (Blk.new w _ _ _).alloc _, ?_⟩
  have := (Blk.new (w.alloc (.cells (zb 64 fun _ => 0) 23)) 64 23 (fun _ => 0)).congr (g := fun i => if i < 0 then dgt p n i else 0) (by simp)
  simpa using this
 case round =>
  obtain ⟨k, hk, rfl, rfl, hb, h0, h1⟩ := hrel
  obtain ⟨q, hq⟩ : ∃ q, q = n / p ^ k := ⟨_, rfl⟩
  rw [← hq]
  by_cases hpos : 0 < q
  · have hk40 : k < 40 := dgt_bound (n := n) hp1 (by omega) (by rw [← hq]; exact hpos)
    have hqn : q ≤ n := by rw [hq]; exact Nat.div_le_self _ _
    have z1 := h1.frozen k
    have c1 := h1.cell (i := k) (by omega)
    have hm : q % p < p := Nat.mod_lt _ (by omega)
    have hmi : ((q : Int) % (p : Int)) < (p : Int) := Int.emod_lt_of_pos _ (by omega)
    have hmi0 : 0 ≤ ((q : Int) % (p : Int)) := Int.emod_nonneg _ (by omega)
    have hdi0 : 0 ≤ ((q : Int) / (p : Int)) := Int.ediv_nonneg (by omega) (by omega)
    have hdi1 : ((q : Int) / (p : Int)) ≤ 1000000000000 := by
     have := Int.ediv_le_self (p : Int) (show (0 : Int) ≤ (q : Int) by omega)
     omega
    have hd : q / p < q := Nat.div_lt_self hpos (by omega)
    have HQ := Lib.hid hq; clear hq
    have HD := Lib.hid hd; clear hd
    go_wp2_with fail
    go_roundw
    case rel =>
     refine ⟨k + 1, by omega, by go_num, ?_, hb.setCell (by simp) _, h0.setOther (by simp), ?_⟩
     · rw [dgt_next, ← HQ.out]; push_cast; rfl
     · exact (h1.set (v := dgt p n k) (by unfold dgt; rw [← HQ.out]; push_cast; rfl)).congr (fun i _ => upd_lt (a := dgt p n) (b := fun _ => 0) rfl i)
    case measure =>
     simp only [intOf]
     have := HD.out
     have e : (q : Int) / (p : Int) = ((q / p : Nat) : Int) := by push_cast; rfl
     rw [e]
     omega
  · have hq0 : q = 0 := by omega
    subst hq0
    have HQ := Lib.hid hq; clear hq
    go_wp2_with (first | refine zlb rfl 23 _ rfl _ rfl 64 23 _ (h1) 5 Try.underlying23 Try.size23 ?_ | refine wpList_store_blk rfl 23 _ _ rfl _ 64 ((fun i => if i < k then dgt p n i else 0)) rfl rfl 23 _ (h0) Try.size23 ?_)
    refine bodyPost_ret (zrb rfl _ _ _ 64 23 5 _ rfl (h0.row _) Try.underlying23 Try.size23) rfl ⟨?_, below_setRow hb (by omega) _⟩
    rw [zbc (g := ofN p n)]
    intro i _
    unfold ofN
    by_cases hi : i < k
    · rw [if_pos hi]
    · rw [if_neg hi, dgt_zero hp1 HQ.out.symm (by omega)]
end Go.Proofs.Ytobcdekochenfaa
end
section
namespace Go.Proofs.Ytobcdekochenfaa
open Go.RowKit
set_option linter.unusedVariables false
theorem small_nat_mul {a b p : Nat} (hp : p ≤ 7) (ha : a < p) (hb : b < p) : (a : Int) * (b : Int) ≤ 36 ∧ 0 ≤ (a : Int) * (b : Int) := by
 refine ⟨?_, Int.mul_nonneg (by omega) (by omega)⟩
 have : a * b ≤ 6 * 6 := Nat.mul_le_mul (by omega) (by omega)
 have h : ((a * b : Nat) : Int) ≤ 36 := by omega
 rwa [Int.natCast_mul] at h
end Go.Proofs.Ytobcdekochenfaa
end
section
namespace Go.Proofs.Ytobcdekochenfaa
/-- the coefficient at k of the product, after the rows below i -/
def cv (p : Nat) (f g : Nat → Nat) : Nat → Nat → Nat
 | 0, _ => 0
 | i + 1, k => (cv p f g i k + (if i ≤ k then f i * g (k - i) else 0)) % p
theorem cv_zero (p : Nat) (f g : Nat → Nat) (k : Nat) : cv p f g 0 k = 0 := rfl
theorem cv_succ (p : Nat) (f g : Nat → Nat) (i k : Nat) : cv p f g (i + 1) k = (cv p f g i k + (if i ≤ k then f i * g (k - i) else 0)) % p := rfl
theorem cv_lt (p : Nat) (f g : Nat → Nat) (hp : 0 < p) (i k : Nat) : cv p f g i k < p := by
 cases i with
 | zero => exact hp
 | succ i => exact Nat.mod_lt _ hp
theorem cv_same {p : Nat} {f g : Nat → Nat} (hp : 0 < p) {i k : Nat} (h : i ≤ k → f i * g (k - i) = 0) : cv p f g (i + 1) k = cv p f g i k := by
 rw [cv_succ]
 have : (if i ≤ k then f i * g (k - i) else 0) = 0 := by
  by_cases hik : i ≤ k
  · rw [if_pos hik, h hik]
  · rw [if_neg hik]
 rw [this, Nat.add_zero, Nat.mod_eq_of_lt (cv_lt p f g hp i k)]
theorem cv_hit {p : Nat} {f g : Nat → Nat} (i j : Nat) : cv p f g (i + 1) (i + j) = (cv p f g i (i + j) + f i * g j) % p := by
 rw [cv_succ, if_pos (by omega), show i + j - i = j by omega]
/-- the state inside row i, behind j cells -/
def cvr (p : Nat) (f g : Nat → Nat) (i j : Nat) : Nat → Nat := fun k => if i ≤ k ∧ k < i + j then cv p f g (i + 1) k else cv p f g i k
theorem cvr_zero (p : Nat) (f g : Nat → Nat) (i k : Nat) : cvr p f g i 0 k = cv p f g i k := by
 unfold cvr; rw [if_neg (by omega)]
theorem cvr_at (p : Nat) (f g : Nat → Nat) (i j : Nat) : cvr p f g i j (i + j) = cv p f g i (i + j) := by
 unfold cvr; rw [if_neg (by omega)]
theorem cvr_next (p : Nat) (f g : Nat → Nat) (i j : Nat) : ∀ k, upd (cvr p f g i j) (i + j) (cv p f g (i + 1) (i + j)) k = cvr p f g i (j + 1) k := by
 intro k
 unfold upd cvr
 by_cases h : k = i + j
 · subst h; rw [if_pos rfl, if_pos (by omega)]
 · rw [if_neg h]
   by_cases h2 : i ≤ k ∧ k < i + j
   · rw [if_pos h2, if_pos (by omega)]
   · rw [if_neg h2, if_neg (by omega)]
theorem cvr_full {p : Nat} {f g : Nat → Nat} (hp : 0 < p) {i m : Nat} (hg : ∀ j, m ≤ j → g j = 0) (k : Nat) : cvr p f g i m k = cv p f g (i + 1) k := by
 unfold cvr
 by_cases h : i ≤ k ∧ k < i + m
 · rw [if_pos h]
 · rw [if_neg h]
   symm
   apply cv_same hp
   intro hik
   rw [hg (k - i) (by omega), Nat.mul_zero]
theorem cv_skip {p : Nat} {f g : Nat → Nat} (hp : 0 < p) {i : Nat} (hf : f i = 0) (k : Nat) : cv p f g (i + 1) k = cv p f g i k :=
 cv_same hp (fun _ => by rw [hf, Nat.zero_mul])
theorem cv_stop {p : Nat} {f g : Nat → Nat} (hp : 0 < p) {n : Nat} (hf : ∀ i, n ≤ i → f i = 0) (k : Nat) : ∀ d, cv p f g (n + d) k = cv p f g n k
 | 0 => rfl
 | d + 1 => by
  rw [show n + (d + 1) = (n + d) + 1 by omega, cv_skip hp (hf _ (by omega)), cv_stop hp hf k d]
/-- the product -/
def prd (p : Nat) (f g : Nat → Nat) : Nat → Nat := fun k => cv p (cut f) (cut g) 64 k
theorem zcz (f : Nat → Nat) {i : Nat} (h : 64 ≤ i) : cut f i = 0 := by unfold cut; rw [if_neg (by omega)]
theorem cut_in (f : Nat → Nat) {i : Nat} (h : i < 64) : cut f i = f i := by unfold cut; rw [if_pos h]
theorem prd_rows {p : Nat} {f g : Nat → Nat} (hp : 0 < p) {n : Nat} (hn : n ≤ 64) (hf : ∀ i, n ≤ i → i < 64 → f i = 0) (k : Nat) : prd p f g k = cv p (cut f) (cut g) n k := by
 have := cv_stop (f := cut f) (g := cut g) hp (n := n) (fun i hi => by
  by_cases h : i < 64
  · rw [cut_in f h]; exact hf i hi h
  · exact zcz f (by omega)) k (64 - n)
 rw [show n + (64 - n) = 64 by omega] at this
 exact this
end Go.Proofs.Ytobcdekochenfaa
end
section
namespace Go.Proofs.Ytobcdekochenfaa
open Go.RowKit
set_option linter.unusedVariables false
attribute [local irreducible] deg
theorem Try.size178 : (Try.prog.info? 178).map (·.size) = some 128 := by kernel_rfl
theorem zero128 : zb 128 (fun _ => 0) = Try.zeroCells178 := by simp only [zb, bl]; kernel_rfl
set_option maxRecDepth 100000 in
set_option maxHeartbeats 3200000 in
theorem wideProduct_any (p : Nat) (f g : Nat → Nat) (w : World) (hp1 : 2 ≤ p) (hp2 : p ≤ 7) (hf : ∀ i, i < 64 → f i < p) (hg : ∀ i, i < 64 → g i < p) :
 Calls Try.prog 166 #[.int .i64 (p : Int), .agg (zb 64 f), .agg (zb 64 g)] w fun e w' => e = .returned (.agg (zb 128 (prd p f g))) ∧ Below w.heap.size w w' := by
 obtain ⟨n, hn, hdn, hfz⟩ : ∃ n : Nat, n ≤ 64 ∧ deg f + 1 = (n : Int) ∧ ∀ i, n ≤ i → i < 64 → f i = 0 := by
  rcases deg_spec f with ⟨e, hz⟩ | ⟨d, hd, e, hne, hz⟩
  · exact ⟨0, by omega, by rw [e]; rfl, fun i _ h => hz i h⟩
  · exact ⟨d + 1, by omega, by rw [e]; push_cast; rfl, fun i h1 h2 => hz i (by omega) h2⟩
 obtain ⟨m, hm, hdm, hgz⟩ : ∃ m : Nat, m ≤ 64 ∧ deg g + 1 = (m : Int) ∧ ∀ i, m ≤ i → i < 64 → g i = 0 := by
  rcases deg_spec g with ⟨e, hz⟩ | ⟨d, hd, e, hne, hz⟩
  · exact ⟨0, by omega, by rw [e]; rfl, fun i _ h => hz i h⟩
  · exact ⟨d + 1, by omega, by rw [e]; push_cast; rfl, fun i h1 h2 => hz i (by omega) h2⟩
 have hdgb1 : 0 ≤ deg g + 1 := by omega
 have hdgb2 : deg g + 1 ≤ 64 := by omega
 have hdfb1 : 0 ≤ deg f + 1 := by omega
 have hdfb2 : deg f + 1 ≤ 64 := by omega
 have HF := Lib.hid hf; clear hf
 have HG := Lib.hid hg; clear hg
 have HFZ := Lib.hid hfz; clear hfz
 have HGZ := Lib.hid hgz; clear hgz
 go_enter Try.func166, Try.ntmps166
 have HN := Lib.hid hdn; have HM := Lib.hid hdm; clear hdn hdm
 go_upto_region 2 with (fail)
 rw [← zero128]
 obtain ⟨wo, hwo⟩ : ∃ wo : World, wo = (((w.alloc (.cells (zb 64 f) 23)).alloc (.cells (zb 64 g) 23)).alloc (.cells (zb 128 fun _ => 0) 178)).alloc (.cells (zb 128 fun _ => 0) 178) := ⟨_, rfl⟩
 have b0 : Blk wo w.heap.size 64 23 f := by subst hwo; exact (((Blk.new w _ _ _).alloc _).alloc _).alloc _
 have b1 : Blk wo (w.heap.size + 1) 64 23 g := by subst hwo; have := ((Blk.new (w.alloc (.cells (zb 64 f) 23)) 64 23 g).alloc (.cells (zb 128 fun _ => 0) 178)).alloc (.cells (zb 128 fun _ => 0) 178); simpa using this
 have b2 : Blk wo (w.heap.size + 1 + 1) 128 178 (fun _ => 0) := by subst hwo; have := (Blk.new ((w.alloc (.cells (zb 64 f) 23)).alloc (.cells (zb 64 g) 23)) 128 178 (fun _ => 0)).alloc (.cells (zb 128 fun _ => 0) 178); simpa using this
 have b3 : Blk wo (w.heap.size + 1 + 1 + 1) 128 178 (fun _ => 0) := by subst hwo; have := (Blk.new (((w.alloc (.cells (zb 64 f) 23)).alloc (.cells (zb 64 g) 23)).alloc (.cells (zb 128 fun _ => 0) 178)) 128 178 (fun _ => 0)); simpa using this
 have hb : Below w.heap.size w wo := by subst hwo; exact ((((Below.refl _ _).alloc (Nat.le_refl _) _).alloc (by simp) _).alloc (by simp; omega) _).alloc (by simp; omega) _
 rw [← hwo]
 clear hwo
 have ha : Below wo.heap.size wo wo := Below.refl _ _
 go_wp2_with (first | refine zlb rfl 23 _ rfl _ rfl 64 23 _ (b1.below (by assumption) b1.lt) 5 Try.underlying23 Try.size23 ?_ | refine zlb rfl 23 _ rfl _ rfl 64 23 _ (b0.below (by assumption) b0.lt) 5 Try.underlying23 Try.size23 ?_ | (go_at_call 82; refine (acc (degree_any _ _) (by assumption)).mono ?_; rintro e w1 ⟨rfl, h1, ha⟩))
 have hgm : deg g = (m : Int) - 1 := by have := HM.out; omega
 rw [HN.out, hgm]
 clear hgm hdgb1 hdgb2 hdfb1 hdfb2
 replace hb := hb.trans (ha.mono hb.size)
 replace b0 := b0.zw ha
 replace b1 := b1.zw ha
 replace b2 := b2.zw ha
 replace b3 := b3.zw ha
 clear ha h1
 go_loopw [16] (fun c wr => ∃ i : Nat, i ≤ n ∧ c = .int .i64 (i : Int) ∧ Below w.heap.size w wr ∧ Blk wr w.heap.size 64 23 f ∧ Blk wr (w.heap.size + 1) 64 23 g ∧ Blk wr (w.heap.size + 1 + 1) 128 178 (fun _ => 0) ∧ Blk wr (w.heap.size + 1 + 1 + 1) 128 178 (cv p (cut f) (cut g) i)) (fun c _ => n - (intOf c).toNat)
 case atStart => exact ⟨0, by omega, rfl, hb, b0, b1, b2, b3.congr (fun k _ => by rw [cv_zero])⟩
 case round =>
  clear hb b0 b1 b2 b3
  obtain ⟨i, hi, rfl, hb, b0, b1, b2, b3⟩ := hrel
  by_cases hlt : i < n
  · go_wp2_with fail
    obtain ⟨wi, rfl⟩ : ∃ v : World, v = wr := ⟨_, rfl⟩
    have b3' := b3.congr (fun k _ => (cvr_zero p (cut f) (cut g) i k).symm)
    clear b3
    go_loopw [21] (fun c wr => ∃ j : Nat, j ≤ m ∧ c = .int .i64 (j : Int) ∧ Below w.heap.size w wr ∧ Blk wr w.heap.size 64 23 f ∧ Blk wr (w.heap.size + 1) 64 23 g ∧ Blk wr (w.heap.size + 1 + 1) 128 178 (fun _ => 0) ∧ Blk wr (w.heap.size + 1 + 1 + 1) 128 178 (cvr p (cut f) (cut g) i j)) (fun c _ => m - (intOf c).toNat)
    case atStart => exact ⟨0, by omega, rfl, hb, b0, b1, b2, b3'⟩
    case round =>
     clear hb b0 b1 b2 b3'
     obtain ⟨j, hj, rfl, hb, b0, b1, b2, b3⟩ := hrel
     by_cases hltj : j < m
     · have c0 := b0.cell (i := i) (by omega)
       have c1 := b1.cell (i := j) (by omega)
       have c3 : wr.cell? ⟨w.heap.size + 1 + 1 + 1, i + j, none⟩ = some (.int .u8 (cv p (cut f) (cut g) i (i + j) : Int)) := by rw [b3.cell (by omega), cvr_at]
       have z3 := b3.frozen (i + j)
       have hij : ((i : Int) + (j : Int)).toNat = i + j := by omega
       have v1 : f i < p := HF.out i (by omega)
       have v2 : g j < p := HG.out j (by omega)
       have v3 := cv_lt p (cut f) (cut g) (by omega) i (i + j)
       obtain ⟨m1, m2⟩ := small_nat_mul hp2 v1 v2
       have HE := Lib.hid (show (cv p (cut f) (cut g) (i + 1) (i + j) : Int) = ((cv p (cut f) (cut g) i (i + j) : Int) + (f i : Int) * (g j : Int)) % (p : Int) by rw [cv_hit, cut_in f (by omega), cut_in g (by omega)]; push_cast; rfl)
       go_wp2_with fail
       go_region
       go_wp2_with fail
       go_roundw
       case rel =>
        refine ⟨j + 1, by omega, by go_num, (hb.setCell (by simp; omega) _).drew, (b0.setOther (by simp <;> omega)).drew, (b1.setOther (by simp <;> omega)).drew, (b2.setOther (by simp <;> omega)).drew, ?_⟩
        exact ((b3.set (v := cv p (cut f) (cut g) (i + 1) (i + j)) HE.out.symm).congr (fun k _ => cvr_next p (cut f) (cut g) i j k)).drew
       case measure => simp [intOf] <;> omega
     · have e : j = m := by omega
       subst e
       go_wp2_with fail
       go_roundw
       case rel =>
        refine ⟨i + 1, by omega, by go_num, hb, b0, b1, b2, b3.congr (fun k _ => cvr_full (by omega) (fun q hq => ?_) k)⟩
        by_cases h64 : q < 64
        · rw [cut_in g h64]; exact HGZ.out q hq h64
        · exact zcz g (by omega)
       case measure => simp [intOf] <;> omega
  · have e : i = n := by omega
    subst e
    go_wp2_with (first | refine zlb rfl 178 _ rfl _ rfl 128 178 _ (b3) 5 Try.underlying178 Try.size178 ?_ | refine wpList_store_blk rfl 178 _ _ rfl _ 128 (_) rfl rfl 178 _ (b2) Try.size178 ?_)
    refine bodyPost_ret (zrb rfl _ _ _ 128 178 5 _ rfl (b2.row _) Try.underlying178 Try.size178) rfl ⟨?_, below_setRow hb (by omega) _⟩
    rw [zbc (fun k _ => prd_rows (by omega) hn HFZ.out k)]
end Go.Proofs.Ytobcdekochenfaa
end
section
namespace Go.Proofs.Ytobcdekochenfaa
open Go.RowKit
def setL (L : Nat → Bool) (i : Nat) : Nat → Bool := fun j => if j = i then true else L j
def updV (v : Nat → Value) (i : Nat) (y : Value) : Nat → Value := fun j => if j = i then y else v j
/-- the frame a0 with the value v i laid into the slot of operation i, for each i -/
def frL (a0 : Act) : List Oper → Nat → (Nat → Value) → Act
 | [], _, _ => a0
 | o :: os, k, v => frL (a0.put o.dst (v k)) os (k + 1) v
def fr (a0 : Act) (ops : Array Oper) (v : Nat → Value) : Act := frL a0 ops.toList 0 v

/-- all later edges lead back; no slot is written twice -/
def edgesOk (ops : Array Oper) : Bool := (List.range ops.size).all fun i => (ops[i]?.map fun o => o.after.all fun e => !Region.binds .any e || decide (e.on < i)).getD true
def dstsOkL : List Oper → Bool
 | [] => true
 | o :: os => (match o.dst with | none => true | some d => os.all fun q => q.dst != some d) && dstsOkL os
theorem put_comm {a : Act} {d e : Option Tmp} {x y : Value} (h : d = none ∨ d ≠ e) : (a.put d x).put e y = (a.put e y).put d x := by
 cases d with
 | none => cases e <;> rfl
 | some d =>
  cases e with
  | none => rfl
  | some e =>
   have hne : d ≠ e := by
    rcases h with h | h
    · cases h
    · exact fun h' => h (by rw [h'])
   simp only [Act.put]
   congr 1
   apply Array.ext_getElem?
   intro j
   simp only [Array.getElem?_setIfInBounds, Array.size_setIfInBounds]
   by_cases h1 : e = j <;> by_cases h2 : d = j <;> simp_all
theorem put_twice {a : Act} {d : Option Tmp} {x y : Value} : (a.put d x).put d y = a.put d y := by
 cases d with
 | none => rfl
 | some d => simp [Act.put]
theorem frL_congr : ∀ (os : List Oper) (a0 : Act) (k : Nat) (v v' : Nat → Value), (∀ j, k ≤ j → v j = v' j) → frL a0 os k v = frL a0 os k v'
 | [], _, _, _, _, _ => rfl
 | o :: os, a0, k, v, v', h => by
  simp only [frL]
  rw [h k (Nat.le_refl _)]
  exact frL_congr os _ (k + 1) v v' fun j hj => h j (by omega)
theorem frL_put : ∀ (os : List Oper) (a0 : Act) (k : Nat) (v : Nat → Value) (d : Option Tmp) (y : Value), (d = none ∨ os.all (fun q => q.dst != d) = true) → (frL a0 os k v).put d y = frL (a0.put d y) os k v
 | [], _, _, _, _, _, _ => rfl
 | o :: os, a0, k, v, d, y, h => by
  simp only [frL]
  have h' : d = none ∨ os.all (fun q => q.dst != d) = true := by
   rcases h with h | h
   · exact .inl h
   · simp only [List.all_cons, Bool.and_eq_true] at h; exact .inr h.2
  rw [frL_put os _ (k + 1) v d y h']
  congr 1
  rcases h with h | h
  · subst h; rfl
  · simp only [List.all_cons, Bool.and_eq_true] at h
    have : o.dst ≠ d := by simpa using h.1
    exact put_comm (.inr this)
theorem frL_step : ∀ (os : List Oper) (a0 : Act) (k : Nat) (v : Nat → Value) (i : Nat) (o : Oper) (y : Value), dstsOkL os = true → os[i]? = some o → (frL a0 os k v).put o.dst y = frL a0 os k (updV v (k + i) y)
 | [], _, _, _, _, _, _, _, h => by simp at h
 | p :: os, a0, k, v, 0, o, y, hd, h => by
  simp only [List.getElem?_cons_zero, Option.some.injEq] at h
  subst h
  simp only [dstsOkL, Bool.and_eq_true] at hd
  have h' : p.dst = none ∨ os.all (fun q => q.dst != p.dst) = true := by
   cases hp : p.dst with
   | none => exact .inl rfl
   | some d => right; have := hd.1; rw [hp] at this; exact this
  simp only [frL, Nat.add_zero]
  rw [frL_put os _ (k + 1) v p.dst y h', put_twice]
  have : updV v k y k = y := by simp [updV]
  rw [this]
  exact frL_congr os _ (k + 1) _ _ fun j hj => by simp [updV, show j ≠ k by omega]
 | p :: os, a0, k, v, i + 1, o, y, hd, h => by
  simp only [dstsOkL, Bool.and_eq_true] at hd
  simp only [List.getElem?_cons_succ] at h
  simp only [frL]
  rw [frL_step os _ (k + 1) v i o y hd.2 h]
  have e1 : updV v (k + (i + 1)) y k = v k := by simp [updV]
  have e2 : k + 1 + i = k + (i + 1) := by omega
  rw [e1, e2]
theorem put_self {a : Act} {d : Option Tmp} : (a.put d ((d.map fun t => a.tmps.getD t undef).getD undef)) = a := by
 cases d with
 | none => rfl
 | some d =>
  simp only [Act.put, Option.map_some, Option.getD_some]
  cases a with
  | mk t ds =>
   congr 1
   apply Array.ext_getElem?
   intro j
   simp only [Array.getElem?_setIfInBounds]
   by_cases h : d = j
   · subst h
     by_cases hs : d < t.size <;> simp [hs]
   · simp [h]
theorem frL_start : ∀ (os : List Oper) (a0 : Act) (k : Nat) (v : Nat → Value), (∀ i o, os[i]? = some o → v (k + i) = ((o.dst.map fun t => a0.tmps.getD t undef).getD undef)) → frL a0 os k v = a0
 | [], _, _, _, _ => rfl
 | o :: os, a0, k, v, h => by
  simp only [frL]
  have h0 := h 0 o rfl
  rw [Nat.add_zero] at h0
  rw [h0, put_self]
  exact frL_start os a0 (k + 1) v fun i p hp => by
   have := h (i + 1) p (by simpa using hp)
   rw [show k + 1 + i = k + (i + 1) by omega]
   exact this
section
variable {P : Program} {ops : Array Oper} {Q : Exit → Act → World → Prop}
/-- what is asked of operation i -/
def StepOk (P : Program) (ops : Array Oper) (Q : Exit → Act → World → Prop) (a0 : Act) (Ψ : (Nat → Bool) → (Nat → Value) → World → Prop) (i : Nat) (o : Oper) : Prop :=
 ∀ (L : Nat → Bool) (v : Nat → Value) (w : World), (∀ e, e ∈ o.after → Region.binds .any e = true → L e.on = true) →
  (∀ j p, ops[j]? = some p → L j = true → ∀ e, e ∈ p.after → Region.binds .any e = true → e.on ≠ i) → Ψ L v w →
  ∀ K : Act → World → Prop, (∀ a' y w', a' = (fr a0 ops v).put o.dst y → Ψ (setL L i) (updV v i y) w' → K a' w') →
   if Region.wanted o (yielded ops (fr a0 ops v).tmps) = true then Oper.wp P o (fr a0 ops v) w K Q else K ((fr a0 ops v).put o.dst undef) w

theorem zdq {A : Array Edge} {L : Nat → Bool} (hd : ∀ e, e ∈ A → Region.binds .any e = true → L e.on = true) (i : Nat) (h : A.toList.any (fun e => e.on == i && Region.binds .any e) = true) : L i = true := by
 obtain ⟨e, he, h2⟩ := List.any_eq_true.1 h
 simp only [Bool.and_eq_true, beq_iff_eq] at h2
 rw [← h2.1]
 exact hd e (by simpa using he) h2.2
theorem wpAny_inv {a0 : Act} {Ψ : (Nat → Bool) → (Nat → Value) → World → Prop} (hd : dstsOkL ops.toList = true) (he : edgesOk ops = true)
 (hstep : ∀ i o, ops[i]? = some o → StepOk P ops Q a0 Ψ i o)
 (hend : ∀ L v w, (∀ i, i < ops.size → L i = true) → Ψ L v w → Q .normal (fr a0 ops v) w) :
 ∀ (fuel : Nat) (listed : Array Bool) (v : Nat → Value) (w : World), listed.size = ops.size → (listed.toList.filter (!·)).length = fuel → Ψ (fun j => listed.getD j false) v w →
  (∀ j p, ops[j]? = some p → listed.getD j false = true → ∀ e, e ∈ p.after → Region.binds .any e = true → listed.getD e.on false = true) →
  wpAny P .any ops Q fuel listed (fr a0 ops v) w := by
 have hall : ∀ listed : Array Bool, listed.size = ops.size → Region.ready .any ops listed = [] → ∀ i, i < ops.size → listed.getD i false = true := by
  intro listed hs hr i
  induction i using Nat.strongRecOn with
  | _ i ih =>
   intro hi
   cases hb : listed.getD i false with
   | true => rfl
   | false =>
    exfalso
    have hmem : i ∈ Region.ready .any ops listed := by
     unfold Region.ready
     simp only [List.mem_filter, List.mem_range, hi, true_and, Bool.and_eq_true]
     have ho : ops[i]? = some ops[i] := Array.getElem?_eq_getElem hi
     constructor
     · have : listed.getD i true = false := by
        have h2 : i < listed.size := by omega
        simpa [Array.getD, h2] using hb
       simp [this]
     · rw [ho]
       simp only [Option.map_some, Option.getD_some, Array.all_eq_true_iff_forall_mem]
       intro e hem
       have hE := he
       unfold edgesOk at hE
       rw [List.all_eq_true] at hE
       have := hE i (by simpa using hi)
       rw [ho] at this
       simp only [Option.map_some, Option.getD_some, Array.all_eq_true_iff_forall_mem] at this
       have h3 := this e hem
       cases hbd : Region.binds .any e with
       | false => simp
       | true =>
        simp only [hbd, Bool.not_true, Bool.false_or, decide_eq_true_eq] at h3
        simp [ih e.on h3 (by omega)]
    rw [hr] at hmem
    cases hmem
 intro fuel
 induction fuel with
 | zero =>
  intro listed v w hs hc hI _
  have hl : ∀ i, i < ops.size → listed.getD i false = true := by
   intro i hi
   have h2 : i < listed.size := by omega
   cases hb : listed[i] with
   | true => simp [Array.getD, h2, hb]
   | false =>
    exfalso
    have : false ∈ listed.toList.filter (!·) := by
     rw [List.mem_filter]
     exact ⟨by rw [← hb]; simp, rfl⟩
    rw [List.length_eq_zero_iff.1 hc] at this
    cases this
  refine ⟨?_, hend _ v w hl hI⟩
  unfold Region.ready
  rw [List.filter_eq_nil_iff]
  intro i hi
  have hi' : i < ops.size := by simpa using hi
  have h2 : i < listed.size := by omega
  have := hl i hi'
  have h4 : listed.getD i true = true := by simpa [Array.getD, h2] using this
  simp [h4]
 | succ fuel ih =>
  intro listed v w hs hc hI hcl
  refine ⟨fun hr => hend _ v w (hall listed hs hr) hI, ?_⟩
  intro i hi
  unfold Region.ready at hi
  simp only [List.mem_filter, List.mem_range, Bool.and_eq_true] at hi
  obtain ⟨hin, hnl, haf⟩ := hi
  have ho : ops[i]? = some ops[i] := Array.getElem?_eq_getElem hin
  rw [ho] at haf
  simp only [Option.map_some, Option.getD_some, Array.all_eq_true_iff_forall_mem] at haf
  have h2 : i < listed.size := by omega
  have hfalse : listed[i] = false := by
   have : listed.getD i true = false := by simpa using hnl
   simpa [Array.getD, h2] using this
  refine wpOp_step ho fun K' hK => ?_
  refine hstep i _ ho _ v w ?_ ?_ hI K' ?_
  · intro e hem hb
    have := haf e hem
    simpa [hb] using this
  · intro j p hp hj e hem hb he'
    have := hcl j p hp hj e hem hb
    rw [he'] at this
    simp [Array.getD, h2, hfalse] at this
  · intro a' y w' ha' hΨ
    subst ha'
    refine hK _ _ ?_
    have hst : (fr a0 ops v).put ops[i].dst y = fr a0 ops (updV v i y) := by
     have := frL_step ops.toList a0 0 v i ops[i] y hd (by simp [hin])
     rw [Nat.zero_add] at this
     exact this
    rw [hst]
    have e : (fun j => (listed.setIfInBounds i true).getD j false) = setL (fun j => listed.getD j false) i := by
     funext j
     unfold setL
     by_cases h : j = i
     · subst h; simp [Array.getD, h2]
     · have h' : ¬ i = j := fun e => h e.symm
       simp only [h, if_false, Array.getD, Array.size_setIfInBounds]
       by_cases h3 : j < listed.size
       · simp [h3, h']
       · simp [h3]
    refine ih _ _ _ (by simpa using hs) ?_ ?_ ?_
    · have : ∀ (l : List Bool) (i : Nat) (h : i < l.length), l[i] = false → ((l.set i true).filter (!·)).length + 1 = (l.filter (!·)).length := by
       intro l
       induction l with
       | nil => intro i h; simp at h
       | cons b l ihl =>
        intro i h hf
        cases i with
        | zero => simp at hf; subst hf; simp
        | succ i =>
         simp only [List.set_cons_succ]
         have := ihl i (by simpa using h) (by simpa using hf)
         cases b <;> simp <;> omega
      have := this listed.toList i (by simpa using h2) (by simpa using hfalse)
      rw [Array.toList_setIfInBounds]
      omega
    · rw [e]
      exact hΨ
    · intro j p hp hj e2 hem hb
      have ej := congrFun e j
      have ee := congrFun e e2.on
      skip
      rw [ej] at hj
      rw [ee]
      unfold setL at hj ⊢
      by_cases h1 : e2.on = i
      · simp [h1]
      · simp only [h1, if_false]
        by_cases h2 : j = i
        · subst h2
          rw [ho] at hp
          simp only [Option.some.injEq] at hp
          subst hp
          have := haf e2 hem
          simpa [hb] using this
        · simp only [h2, if_false] at hj
          exact hcl j p hp hj e2 hem hb

theorem wp_region_psi {id : Nat} {a0 : Act} {w : World} (hm : P.follows .mixedOrders = true) (hd : dstsOkL ops.toList = true) (he : edgesOk ops = true)
 (Ψ : (Nat → Bool) → (Nat → Value) → World → Prop) (h0 : ∀ v, Ψ (fun _ => false) v w.drew)
 (hstep : ∀ i o, ops[i]? = some o → StepOk P ops Q a0 Ψ i o)
 (hend : ∀ L v w, (∀ i, i < ops.size → L i = true) → Ψ L v w → Q .normal (fr a0 ops v) w) : (Code.region id ops true).wp P Q a0 w := by
 refine wp_region_any hm ?_
 have hfr : fr a0 ops (fun i => ((ops[i]?.bind (·.dst)).map fun t => a0.tmps.getD t undef).getD undef) = a0 := by
  refine frL_start _ _ _ _ fun i o ho => ?_
  have ho' : ops[i]? = some o := by simpa using ho
  simp [ho']
 have key := wpAny_inv (P := P) (Q := Q) hd he hstep hend ops.size (Array.replicate ops.size false) (fun i => ((ops[i]?.bind (·.dst)).map fun t => a0.tmps.getD t undef).getD undef) w.drew (by simp) (by simp) (by
  have e : (fun j => (Array.replicate ops.size false).getD j false) = fun _ => false := by
   funext j; simp [Array.getD]
  rw [e]; exact h0 _) (by
  intro j p _ hj
  simp [Array.getD] at hj)
 rw [hfr] at key
 exact key

/-- what is asked of operation i, no guard before it; F: the frame, written out -/
def StepU (P : Program) (ops : Array Oper) (Q : Exit → Act → World → Prop) (F : (Nat → Value) → Act) (Ψ : (Nat → Bool) → (Nat → Value) → World → Prop) (i : Nat) (o : Oper) : Prop :=
 ∀ (L : Nat → Bool) (v : Nat → Value) (w : World), (∀ e, e ∈ o.after → Region.binds .any e = true → L e.on = true) →
  (∀ j p, ops[j]? = some p → L j = true → ∀ e, e ∈ p.after → Region.binds .any e = true → e.on ≠ i) → Ψ L v w →
  ∀ K : Act → World → Prop, (∀ a' y w', a' = (F v).put o.dst y → Ψ (setL L i) (updV v i y) w' → K a' w') → Oper.wp P o (F v) w K Q
inductive Steps (P : Program) (ops : Array Oper) (Q : Exit → Act → World → Prop) (F : (Nat → Value) → Act) (Ψ : (Nat → Bool) → (Nat → Value) → World → Prop) : List Oper → Nat → Prop
 | nil (k : Nat) : Steps P ops Q F Ψ [] k
 | cons {o : Oper} {os : List Oper} {k : Nat} (hg : o.guard = none) (h : StepU P ops Q F Ψ k o) (hs : Steps P ops Q F Ψ os (k + 1)) : Steps P ops Q F Ψ (o :: os) k
theorem steps_of {F : (Nat → Value) → Act} {Ψ : (Nat → Bool) → (Nat → Value) → World → Prop} : ∀ (os : List Oper) (k : Nat), Steps P ops Q F Ψ os k → ∀ i o, os[i]? = some o → o.guard = none ∧ StepU P ops Q F Ψ (k + i) o
 | [], _, _, _, _, h => by simp at h
 | p :: os, k, hs, 0, o, h => by
  simp only [List.getElem?_cons_zero, Option.some.injEq] at h
  subst h
  cases hs with
  | cons hg h _ => exact ⟨hg, h⟩
 | p :: os, k, hs, i + 1, o, h => by
  cases hs with
  | cons _ _ hs =>
   have := steps_of os (k + 1) hs i o (by simpa using h)
   rwa [show k + 1 + i = k + (i + 1) by omega] at this
theorem wp_region_steps {os : List Oper} {id : Nat} {a0 : Act} {w : World} (hm : P.follows .mixedOrders = true) (hd : dstsOkL os = true) (he : edgesOk os.toArray = true)
 {F : (Nat → Value) → Act} (hF : ∀ v, frL a0 os 0 v = F v)
 (Ψ : (Nat → Bool) → (Nat → Value) → World → Prop) (h0 : ∀ v, Ψ (fun _ => false) v w.drew)
 (hstep : Steps P os.toArray Q F Ψ os 0)
 (hend : ∀ L v w, (∀ i, i < os.length → L i = true) → Ψ L v w → Q .normal (F v) w) : (Code.region id os.toArray true).wp P Q a0 w := by
 refine wp_region_psi hm (by simpa using hd) he Ψ h0 (fun i o ho => ?_) (fun L v w hL hΨ => ?_)
 · obtain ⟨hg, hs⟩ := steps_of _ _ hstep i o (by simpa using ho)
   rw [Nat.zero_add] at hs
   intro L v w h1 h2 h3 K hK
   have hw : Region.wanted o (yielded os.toArray (fr a0 os.toArray v).tmps) = true := by simp [Region.wanted, hg]
   rw [if_pos hw]
   have hf : fr a0 os.toArray v = F v := hF v
   rw [hf] at hK ⊢
   exact hs L v w h1 h2 h3 K hK
 · have hf : fr a0 os.toArray v = F v := hF v
   rw [hf]
   exact hend L v w (by simpa using hL) hΨ
end
end Go.Proofs.Ytobcdekochenfaa
end
section
namespace Go.Proofs.Ytobcdekochenfaa
open Go.RowKit
set_option linter.unusedVariables false
set_option linter.unusedSimpArgs false
attribute [local irreducible] deg
theorem Blk.pre {w : World} {b n m : Nat} {t : TypeId} {f : Nat → Nat} (h : Blk w b n t f) (hm : m ≤ n) : w.rangeAt b 0 (bl m f) := by
 intro j v hv
 have hj : j < m := by
  have := (List.getElem?_eq_some_iff.1 hv).1
  rwa [zl] at this
 have e : (bl m f)[j]? = some (.int .u8 (f j : Int)) := by have := bcells_get (f := f) hj; simpa using this
 rw [e] at hv
 injection hv with hv
 subst hv
 rw [Nat.zero_add]
 exact h.cell (by omega)
set_option maxRecDepth 100000 in
set_option maxHeartbeats 1600000 in
theorem product_any (p : Nat) (f g : Nat → Nat) (w : World) (hp1 : 2 ≤ p) (hp2 : p ≤ 7) (hf : ∀ i, i < 64 → f i < p) (hg : ∀ i, i < 64 → g i < p) :
 Calls Try.prog 117 #[.int .i64 (p : Int), .agg (zb 64 f), .agg (zb 64 g)] w fun e w' => e = .returned (.agg (zb 64 (prd p f g))) ∧ Below w.heap.size w w' := by
 go_enter Try.func117, Try.ntmps117
 go_upto_region 1 with (fail)
 obtain ⟨wo, hwo⟩ : ∃ wo : World, wo = (((w.alloc (.cells (zb 64 f) 23)).alloc (.cells (zb 64 g) 23)).alloc (.cells (zb 64 fun _ => 0) 23)) := ⟨_, rfl⟩
 have b0 : Blk wo (w.heap.size) 64 23 f := by subst hwo; have := (((Blk.new w 64 23 f).alloc (.cells (zb 64 g) 23)).alloc (.cells (zb 64 fun _ => 0) 23)); simpa using this
 have b1 : Blk wo (w.heap.size + 1) 64 23 g := by subst hwo; have := ((Blk.new (w.alloc (.cells (zb 64 f) 23)) 64 23 g).alloc (.cells (zb 64 fun _ => 0) 23)); simpa using this
 have b2 : Blk wo (w.heap.size + 1 + 1) 64 23 (fun _ => 0) := by subst hwo; have := (Blk.new ((w.alloc (.cells (zb 64 f) 23)).alloc (.cells (zb 64 g) 23)) 64 23 (fun _ => 0)); simpa using this
 have hb : Below w.heap.size w wo := by subst hwo; exact ((((Below.refl _ _).alloc (Nat.le_refl _) _).alloc (by simp) _).alloc (by simp; omega) _)
 rw [← z64, ← hwo]
 clear hwo
 go_upto_region 2 with (first | refine zlb rfl 23 _ rfl _ rfl 64 23 _ (b0) 5 Try.underlying23 Try.size23 ?_ | refine zlb rfl 23 _ rfl _ rfl 64 23 _ (b1) 5 Try.underlying23 Try.size23 ?_ | (go_at_call 166; refine (wideProduct_any p f g _ hp1 hp2 hf hg).mono ?_; rintro e w1 ⟨rfl, h1⟩) | (refine wpList_store_new rfl 178 _ _ rfl _ 178 128 (prd p f g) rfl rfl (by rw [← zero128, zbs]) Try.size178 ?_))
 have hq := (Blk.new w1 128 178 (prd p f g)).pre (m := 64) (by omega)
 replace b2 := (b2.zw h1).alloc (.cells (zb 128 (prd p f g)) 178)
 replace hb := hb.trans ((h1.trans ((zal w1 (.cells (zb 128 (prd p f g)) 178)).mono h1.size)).mono hb.size)
 have hat := fun (W : World) (a : Option Addr) => run_arrayAt (P := Try.prog) (w := W) 23 5 64 a 64 128 Try.underlying23 (by omega)
 go_wp2_with (first | (refine wpList_load_mid rfl 23 _ rfl _ 0 rfl _ _ hq Try.underlying23 rfl (by rw [zl]; exact Try.size23) ?_) | refine wpList_store_blk rfl 23 _ _ rfl _ 64 (_) rfl rfl 23 _ (b2) Try.size23 ?_)
 refine bodyPost_ret (zrb rfl _ _ _ 64 23 5 _ rfl (b2.row _) Try.underlying23 Try.size23) rfl ⟨rfl, below_setRow hb (by omega) _⟩
theorem zdb (f : Nat → Nat) : -1 ≤ deg f ∧ deg f ≤ 63 := by
 rcases deg_spec f with ⟨e, _⟩ | ⟨d, hd, e, _⟩ <;> omega
theorem prd_zero_left {p : Nat} {f g : Nat → Nat} (hp : 0 < p) (h : ∀ i, i < 64 → f i = 0) (k : Nat) : prd p f g k = 0 := by
 rw [prd_rows hp (n := 0) (by omega) (fun i _ hi => h i hi), cv_zero]
theorem prd_zero_right {p : Nat} {f g : Nat → Nat} (hp : 0 < p) (h : ∀ i, i < 64 → g i = 0) (k : Nat) : prd p f g k = 0 := by
 have : ∀ n, cv p (cut f) (cut g) n k = 0 := by
  intro n
  induction n with
  | zero => rfl
  | succ n ih =>
   have hz : ∀ j, cut g j = 0 := fun j => by
    by_cases hj : j < 64
    · rw [cut_in g hj]; exact h j hj
    · exact zcz g (by omega)
   rw [cv_same hp (fun _ => by rw [hz, Nat.mul_zero]), ih]
 exact this 64
theorem deg_neg {f : Nat → Nat} (h : deg f < 0) : ∀ i, i < 64 → f i = 0 := by
 rcases deg_spec f with ⟨_, hz⟩ | ⟨d, hd, e, _⟩
 · exact hz
 · omega
def tmV (p : Nat) (f g : Nat → Nat) : (Nat → Nat) × Bool := if deg f + deg g ≤ 63 then (prd p f g, true) else (fun _ => 0, false)
set_option maxRecDepth 100000 in
set_option maxHeartbeats 3200000 in
theorem l01Times_any (p : Nat) (f g : Nat → Nat) (w : World) (hp1 : 2 ≤ p) (hp2 : p ≤ 7) (hf : ∀ i, i < 64 → f i < p) (hg : ∀ i, i < 64 → g i < p) :
 Calls Try.prog 76 #[.int .i64 (p : Int), .agg (zb 64 f), .agg (zb 64 g)] w fun e w' => e = .returned (.tuple #[.agg (zb 64 (tmV p f g).1), .bool (tmV p f g).2]) ∧ Below w.heap.size w w' := by
 obtain ⟨df1, df2⟩ := zdb f
 obtain ⟨dg1, dg2⟩ := zdb g
 have HF := Lib.hid hf; clear hf
 have HG := Lib.hid hg; clear hg
 go_enter Try.func76, Try.ntmps76
 go_upto_region 1 with (fail)
 obtain ⟨wo, hwo⟩ : ∃ wo : World, wo = (((w.alloc (.cells (zb 64 f) 23)).alloc (.cells (zb 64 g) 23)).alloc (.cells (zb 64 fun _ => 0) 23)) := ⟨_, rfl⟩
 have b0 : Blk wo (w.heap.size) 64 23 f := by subst hwo; have := (((Blk.new w 64 23 f).alloc (.cells (zb 64 g) 23)).alloc (.cells (zb 64 fun _ => 0) 23)); simpa using this
 have b1 : Blk wo (w.heap.size + 1) 64 23 g := by subst hwo; have := ((Blk.new (w.alloc (.cells (zb 64 f) 23)) 64 23 g).alloc (.cells (zb 64 fun _ => 0) 23)); simpa using this
 have b2 : Blk wo (w.heap.size + 1 + 1) 64 23 (fun _ => 0) := by subst hwo; have := (Blk.new ((w.alloc (.cells (zb 64 f) 23)).alloc (.cells (zb 64 g) 23)) 64 23 (fun _ => 0)); simpa using this
 have hb : Below w.heap.size w wo := by subst hwo; exact ((((Below.refl _ _).alloc (Nat.le_refl _) _).alloc (by simp) _).alloc (by simp; omega) _)
 rw [← z64, ← hwo]
 clear hwo
 refine wp_region_steps Try.mixed (by kernel_rfl) (by kernel_rfl) (fun v => by (simp only [frL, Act.put, pA, pB, pC, Nat.reduceAdd, Nat.zero_add]; exact rfl))
  (fun L v w1 => Below wo.heap.size wo w1 ∧ (L 0 = true → v 0 = (.agg (zb 64 (f)))) ∧ (L 1 = true → v 1 = (.int .i64 (deg f))) ∧ (L 2 = true → v 2 = (.agg (zb 64 (g)))) ∧ (L 3 = true → v 3 = (.int .i64 (deg g))) ∧ (L 4 = true → v 4 = (.agg (zb 64 (fun _ => 0)))) ∧ (L 5 = true → AF (v 5) w1 wo.heap.size 64 23) ∧ (L 6 = true → v 6 = (.int .i64 (deg f))) ∧ (L 7 = true → v 7 = (.int .i64 (deg g))) ∧ (L 8 = true → PF (v 5) w1 wo.heap.size 64 23 (fun _ => 0))) ?_ ?_ ?_
 · intro v
   exact ⟨(Below.refl _ _).drew, (fun h => by cases h), (fun h => by cases h), (fun h => by cases h), (fun h => by cases h), (fun h => by cases h), (fun h => by cases h), (fun h => by cases h), (fun h => by cases h), (fun h => by cases h)⟩
 · refine (.cons rfl ?_ (.cons rfl ?_ (.cons rfl ?_ (.cons rfl ?_ (.cons rfl ?_ (.cons rfl ?_ (.cons rfl ?_ (.cons rfl ?_ (.cons rfl ?_ (.nil _))))))))))
   all_goals intro L v w1 hd hn ⟨hS1, h0, h1, h2, h3, h4, h5, h6, h7, h8⟩ K hK
   · refine wp_load_blk 23 _ rfl _ rfl 64 23 _ (b0.zw hS1) _ Try.underlying23 Try.size23 ?_
     exact hK _ _ _ rfl ⟨hS1, fun _ => rfl, h1, h2, h3, h4, h5, h6, h7, h8⟩
   · have e0 := h0 (zdq hd 0 rfl)
     go_wp2_with (go_at_call 74; refine (l01Deg_any _ _).mono ?_; rintro e w1y ⟨rfl, hy⟩)
     exact hK _ (.int .i64 (deg f)) _ (by simp only [Act.put, pA, pB, pC, e0]) ⟨hS1.trans (hy.mono hS1.size), h0, fun _ => rfl, h2, h3, h4, fun h => (h5 h).below hy, h6, h7, fun h => (h8 h).below hy⟩
   · refine wp_load_blk 23 _ rfl _ rfl 64 23 _ (b1.zw hS1) _ Try.underlying23 Try.size23 ?_
     exact hK _ _ _ rfl ⟨hS1, h0, h1, fun _ => rfl, h3, h4, h5, h6, h7, h8⟩
   · have e2 := h2 (zdq hd 2 rfl)
     go_wp2_with (go_at_call 74; refine (l01Deg_any _ _).mono ?_; rintro e w1y ⟨rfl, hy⟩)
     exact hK _ (.int .i64 (deg g)) _ (by simp only [Act.put, pA, pB, pC, e2]) ⟨hS1.trans (hy.mono hS1.size), h0, h1, h2, fun _ => rfl, h4, fun h => (h5 h).below hy, h6, h7, fun h => (h8 h).below hy⟩
   · go_wp2_with fail
     rw [← z64]
     exact hK _ (.agg (zb 64 (fun _ => 0))) _ (by simp only [Act.put, pA, pB, pC ]) ⟨hS1, h0, h1, h2, h3, fun _ => rfl, h5, h6, h7, h8⟩
   · go_wp2_with fail
     rw [← z64]
     exact hK _ (.pointer (some ⟨w1.heap.size, 0, none⟩)) _ (by simp only [Act.put, pA, pB, pC ]) ⟨hS1.alloc hS1.size _, h0, h1, h2, h3, h4, fun _ => (PF.new w1 64 23 _ hS1.size).af, h6, h7, fun h => absurd rfl (hn 8 _ rfl h ⟨5, .data⟩ (by simp) rfl)⟩
   · have e1 := h1 (zdq hd 1 rfl)
     go_wp2_with fail
     exact hK _ (.int .i64 (deg f)) _ (by simp only [Act.put, pA, pB, pC, e1]) ⟨hS1, h0, h1, h2, h3, h4, h5, fun _ => rfl, h7, h8⟩
   · have e3 := h3 (zdq hd 3 rfl)
     go_wp2_with fail
     exact hK _ (.int .i64 (deg g)) _ (by simp only [Act.put, pA, pB, pC, e3]) ⟨hS1, h0, h1, h2, h3, h4, h5, h6, fun _ => rfl, h8⟩
   · have e4 := h4 (zdq hd 4 rfl)
     obtain ⟨gz, b, ea, hN, hk⟩ := (h5 (zdq hd 5 rfl)).out
     refine zsb 23 _ _ rfl b 64 (fun _ => 0) ea e4 23 gz hk Try.size23 ?_
     exact hK _ undef _ rfl ⟨zr hS1 hN _, h0, h1, h2, h3, h4, fun h => (h5 h).row hk, h6, h7, fun _ => by rw [show updV v 8 undef 5 = v 5 from rfl, ea]; exact PF.row hk hN _⟩
 · intro L v w1 hL ⟨hS1, h0, h1, h2, h3, h4, h5, h6, h7, h8⟩
   have e0 := h0 (hL 0 (by decide))
   have e1 := h1 (hL 1 (by decide))
   have e2 := h2 (hL 2 (by decide))
   have e3 := h3 (hL 3 (by decide))
   have e4 := h4 (hL 4 (by decide))
   have e6 := h6 (hL 6 (by decide))
   have e7 := h7 (hL 7 (by decide))
   obtain ⟨b5, e5, hN5, hb5⟩ := (h8 (hL 8 (by decide))).out
   clear hL h0 h1 h2 h3 h4 h5 h6 h7 h8
   simp only [Exit.then, e0, e1, e2, e3, e4, e6, e7, e5]
   clear e0 e1 e2 e3 e4 e6 e7 e5
   have hlt2 := b2.lt
   replace b0 := b0.zw hS1
   replace b1 := b1.zw hS1
   replace b2 := b2.zw hS1
   have hB5 : w.heap.size + 1 + 1 + 1 ≤ b5 := by omega
   clear hlt2
   replace hb := hb.trans (hS1.mono hb.size)
   by_cases hlim : deg f + deg g ≤ 63
   · have HV := Lib.hid (show tmV p f g = (prd p f g, true) from if_pos hlim)
     by_cases hf0 : deg f < 0
     · have HZ : ∀ k, k < 64 → (0 : Nat) = prd p f g k := fun k _ => (prd_zero_left (by omega) (deg_neg hf0) k).symm
       go_wp2_with (first | refine zlb rfl 23 _ rfl _ rfl 64 23 _ (hb5) 5 Try.underlying23 Try.size23 ?_ | refine wpList_store_blk rfl 23 _ _ rfl _ 64 (_) rfl rfl 23 _ (b2) Try.size23 ?_)
       refine bodyPost_ret (results_bt rfl _ _ _ 64 23 5 _ rfl (b2.row _) Try.underlying23 Try.size23) rfl ⟨by rw [HV.out, ← zbc HZ]; rfl, below_setRow hb (by omega) _⟩
     · by_cases hg0 : deg g < 0
       · have HZ : ∀ k, k < 64 → (0 : Nat) = prd p f g k := fun k _ => (prd_zero_right (by omega) (deg_neg hg0) k).symm
         go_wp2_with (first | refine zlb rfl 23 _ rfl _ rfl 64 23 _ (hb5) 5 Try.underlying23 Try.size23 ?_ | refine wpList_store_blk rfl 23 _ _ rfl _ 64 (_) rfl rfl 23 _ (b2) Try.size23 ?_)
         refine bodyPost_ret (results_bt rfl _ _ _ 64 23 5 _ rfl (b2.row _) Try.underlying23 Try.size23) rfl ⟨by rw [HV.out, ← zbc HZ]; rfl, below_setRow hb (by omega) _⟩
       · obtain ⟨n, hn⟩ := Int.eq_ofNat_of_zero_le (show 0 ≤ deg f by omega)
         obtain ⟨m, hm⟩ := Int.eq_ofNat_of_zero_le (show 0 ≤ deg g by omega)
         have HFZ : Hid (∀ i, n + 1 ≤ i → i < 64 → f i = 0) := by
          rcases deg_spec f with ⟨e, hz⟩ | ⟨d, hd, e, hne, hz⟩
          · exact fun i _ h => hz i h
          · exact fun i h1 h2 => hz i (by omega) h2
         have HGZ : Hid (∀ i, m + 1 ≤ i → i < 64 → g i = 0) := by
          rcases deg_spec g with ⟨e, hz⟩ | ⟨d, hd, e, hne, hz⟩
          · exact fun i _ h => hz i h
          · exact fun i h1 h2 => hz i (by omega) h2
         have hnm : n + m ≤ 63 := by omega
         rw [hn, hm]
         clear df1 df2 dg1 dg2 hlim hf0 hg0 hn hm
         go_wp2_with fail
         go_loopw [11] (fun c wr => ∃ i : Nat, i ≤ n + 1 ∧ c = .int .i64 (i : Int) ∧ Below w.heap.size w wr ∧ Blk wr w.heap.size 64 23 f ∧ Blk wr (w.heap.size + 1) 64 23 g ∧ Blk wr (w.heap.size + 1 + 1) 64 23 (fun _ => 0) ∧ Blk wr b5 64 23 (cv p (cut f) (cut g) i)) (fun c _ => n + 1 - (intOf c).toNat)
         case atStart => exact ⟨0, by omega, rfl, hb, b0, b1, b2, hb5.congr (fun k _ => by rw [cv_zero])⟩
         case round =>
          clear hb b0 b1 b2 hb5
          obtain ⟨i, hi, rfl, hb, b0, b1, b2, b3⟩ := hrel
          by_cases hlt : i ≤ n
          · go_wp2_with fail
            obtain ⟨wi, rfl⟩ : ∃ v : World, v = wr := ⟨_, rfl⟩
            have b3' := b3.congr (fun k _ => (cvr_zero p (cut f) (cut g) i k).symm)
            clear b3
            go_loopw [12] (fun c wr => ∃ j : Nat, j ≤ m + 1 ∧ (f i = 0 → j = 0) ∧ c = .int .i64 (j : Int) ∧ Below w.heap.size w wr ∧ Blk wr w.heap.size 64 23 f ∧ Blk wr (w.heap.size + 1) 64 23 g ∧ Blk wr (w.heap.size + 1 + 1) 64 23 (fun _ => 0) ∧ Blk wr b5 64 23 (cvr p (cut f) (cut g) i j)) (fun c _ => m + 1 - (intOf c).toNat)
            case atStart => exact ⟨0, by omega, fun _ => rfl, rfl, hb, b0, b1, b2, b3'⟩
            case round =>
             clear hb b0 b1 b2 b3'
             obtain ⟨j, hj, hfj, rfl, hb, b0, b1, b2, b3⟩ := hrel
             have HJ := Lib.hid hfj; clear hfj
             by_cases hltj : j ≤ m
             · have c0 := b0.cell (i := i) (by omega)
               by_cases hfi : f i = 0
               · have hne : ((f i : Int) != 0) = false := by simp [hfi]
                 have HFI := Lib.hid hfi; clear hfi
                 go_wp2_with fail
                 go_roundw
                 case rel =>
                  have hj0 := HJ.out HFI.out
                  subst hj0
                  exact ⟨i + 1, by omega, by go_num, hb, b0, b1, b2, b3.congr (fun k _ => by rw [cvr_zero, cv_skip (by omega) (by rw [cut_in f (by omega)]; exact HFI.out)])⟩
                 case measure => simp [intOf] <;> omega
               · have hne : ((f i : Int) != 0) = true := by simpa using hfi
                 have HFI := Lib.hid hfi; clear hfi
                 have c1 := b1.cell (i := j) (by omega)
                 have c3 : wr.cell? ⟨b5, i + j, none⟩ = some (.int .u8 (cv p (cut f) (cut g) i (i + j) : Int)) := by rw [b3.cell (by omega), cvr_at]
                 have z3 := b3.frozen (i + j)
                 have hij : ((i : Int) + (j : Int)).toNat = i + j := by omega
                 have v1 : f i < p := HF.out i (by omega)
                 have v2 : g j < p := HG.out j (by omega)
                 have v3 := cv_lt p (cut f) (cut g) (by omega) i (i + j)
                 obtain ⟨m1, m2⟩ := small_nat_mul hp2 v1 v2
                 have m4 : 0 ≤ ((cv p (cut f) (cut g) i (i + j) : Int) + (f i : Int) * (g j : Int)) % (p : Int) := Int.emod_nonneg _ (by omega)
                 have m5 : ((cv p (cut f) (cut g) i (i + j) : Int) + (f i : Int) * (g j : Int)) % (p : Int) < (p : Int) := Int.emod_lt_of_pos _ (by omega)
                 have HE := Lib.hid (show (cv p (cut f) (cut g) (i + 1) (i + j) : Int) = ((cv p (cut f) (cut g) i (i + j) : Int) + (f i : Int) * (g j : Int)) % (p : Int) by rw [cv_hit, cut_in f (by omega), cut_in g (by omega)]; push_cast; rfl)
                 go_wp2_with fail
                 go_region
                 go_wp2_with fail
                 go_roundw
                 case rel =>
                  refine ⟨j + 1, by omega, fun h => absurd h HFI.out, by go_num, (hb.setCell (by simp <;> omega) _).drew, (b0.setOther (by simp <;> omega)).drew, (b1.setOther (by simp <;> omega)).drew, (b2.setOther (by simp <;> omega)).drew, ?_⟩
                  exact ((b3.set (v := cv p (cut f) (cut g) (i + 1) (i + j)) HE.out.symm).congr (fun k _ => cvr_next p (cut f) (cut g) i j k)).drew
                 case measure => simp [intOf] <;> omega
             · have e : j = m + 1 := by omega
               subst e
               go_wp2_with fail
               go_roundw
               case rel =>
                refine ⟨i + 1, by omega, by go_num, hb, b0, b1, b2, b3.congr (fun k _ => cvr_full (by omega) (fun q hq => ?_) k)⟩
                by_cases h64 : q < 64
                · rw [cut_in g h64]; exact HGZ.out q hq h64
                · exact zcz g (by omega)
               case measure => simp [intOf] <;> omega
          · have e : i = n + 1 := by omega
            subst e
            go_wp2_with (first | refine zlb rfl 23 _ rfl _ rfl 64 23 _ (b3) 5 Try.underlying23 Try.size23 ?_ | refine wpList_store_blk rfl 23 _ _ rfl _ 64 (_) rfl rfl 23 _ (b2) Try.size23 ?_)
            refine bodyPost_ret (results_bt rfl _ _ _ 64 23 5 _ rfl (b2.row _) Try.underlying23 Try.size23) rfl ⟨?_, below_setRow hb (by omega) _⟩
            rw [HV.out, zbc (fun k _ => (prd_rows (by omega) (by omega) HFZ.out k).symm)]
            rfl
   · have hlim2 : 63 < deg f + deg g := by omega
     have HV := Lib.hid (show tmV p f g = (fun _ => 0, false) from if_neg hlim)
     clear hlim
     have hf0 : 0 ≤ deg f := by omega
     have hg0 : 0 ≤ deg g := by omega
     go_wp2_with (first | refine zlb rfl 23 _ rfl _ rfl 64 23 _ (hb5) 5 Try.underlying23 Try.size23 ?_ | refine wpList_store_blk rfl 23 _ _ rfl _ 64 (_) rfl rfl 23 _ (b2) Try.size23 ?_)
     refine bodyPost_ret (results_bt rfl _ _ _ 64 23 5 _ rfl (b2.row _) Try.underlying23 Try.size23) rfl ⟨by rw [HV.out]; rfl, below_setRow hb (by omega) _⟩
end Go.Proofs.Ytobcdekochenfaa
end
section
namespace Go.Proofs.Ytobcdekochenfaa
/-- one step of the division at n: c times b, moved by n - m, is taken away -/
def stp (p inv m : Nat) (b : Nat → Nat) (n : Nat) (a : Nat → Nat) : Nat → Nat :=
 fun k => if n - m ≤ k ∧ k ≤ n then (a k + (p - a n * inv % p) * b (k - (n - m))) % p else a k
/-- behind the steps at 127, .., 128 - i -/
def dS (p inv m : Nat) (b a : Nat → Nat) : Nat → Nat → Nat
 | 0 => a
 | i + 1 => stp p inv m b (127 - i) (dS p inv m b a i)
/-- the quotient's digit at k, from the step at k + m -/
def qd (p inv m : Nat) (b a : Nat → Nat) (k : Nat) : Nat := dS p inv m b a (127 - (k + m)) (k + m) * inv % p
/-- the quotient behind i steps -/
def qS (p inv m : Nat) (b a : Nat → Nat) (i : Nat) : Nat → Nat := fun k => if 128 - i ≤ k + m ∧ k + m ≤ 127 then qd p inv m b a k else 0
/-- quotient and rest of a (up to 127) by b, m its degree, inv the inverse of its leading coefficient -/
def quoW (p inv m : Nat) (b a : Nat → Nat) : Nat → Nat := qS p inv m b a (128 - m)
def resW (p inv m : Nat) (b a : Nat → Nat) : Nat → Nat := dS p inv m b a (128 - m)
/-- the number whose product with c is 1 -/
def invN (p c : Nat) : Nat := ((List.range 7).find? fun k => k * c % p == 1).getD 0
end Go.Proofs.Ytobcdekochenfaa
end
section
namespace Go.Proofs.Ytobcdekochenfaa
attribute [local irreducible] deg invN
theorem zero_above {f : Nat → Nat} {k : Nat} (h : deg f < (k : Int)) (hk : k < 64) : f k = 0 := by
 rcases deg_spec f with ⟨_, hz⟩ | ⟨d, hd, e, _, hz⟩
 · exact hz k hk
 · exact hz k (by omega) hk
theorem deg_le {f : Nat → Nat} {d : Int} (hd : -1 ≤ d) (h : ∀ k : Nat, d < (k : Int) → k < 64 → f k = 0) : deg f ≤ d := by
 rcases deg_spec f with ⟨e, _⟩ | ⟨n, hn, e, hne, _⟩
 · omega
 · by_cases hlt : d < (n : Int)
   · exact absurd (h n hlt hn) hne
   · omega
theorem deg_neg_iff {f : Nat → Nat} : deg f < 0 ↔ ∀ k, k < 64 → f k = 0 := by
 constructor
 · exact deg_neg
 · intro h
   have := deg_le (f := f) (d := -1) (by omega) (fun k _ hk => h k hk)
   omega
/-- quotient and rest of a by b, other than 0 -/
def quoP (p : Nat) (a b : Nat → Nat) : Nat → Nat := quoW p (invN p (b (deg b).toNat)) (deg b).toNat b (cut a)
def resP (p : Nat) (a b : Nat → Nat) : Nat → Nat := resW p (invN p (b (deg b).toNat)) (deg b).toNat b (cut a)
theorem prd_above {p : Nat} {f g : Nat → Nat} (hp : 0 < p) {k : Nat} (h : deg f + deg g < (k : Int)) : prd p f g k = 0 := by
 unfold prd
 have : ∀ i, cv p (cut f) (cut g) i k = 0 := by
  intro i
  induction i with
  | zero => rfl
  | succ i ih =>
   rw [cv_same hp, ih]
   intro hik
   by_cases h1 : deg f < (i : Int)
   · have : cut f i = 0 := by
      unfold cut
      split
      · exact zero_above h1 (by assumption)
      · rfl
     rw [this, Nat.zero_mul]
   · have : cut g (k - i) = 0 := by
      unfold cut
      split
      · exact zero_above (by omega) (by assumption)
      · rfl
     rw [this, Nat.mul_zero]
 exact this 64
theorem prd_lt {p : Nat} {f g : Nat → Nat} (hp : 0 < p) (k : Nat) : prd p f g k < p := cv_lt p _ _ hp _ _
def oneP : Nat → Nat := fun k => if k = 0 then 1 else 0
theorem deg_one : deg oneP = 0 := by
 have h1 := deg_le (f := oneP) (d := 0) (by omega) (fun k hk _ => by unfold oneP; rw [if_neg (by omega)])
 have h2 : ¬ deg oneP < 0 := by
  intro h
  have := deg_neg h 0 (by omega)
  unfold oneP at this
  simp at this
 omega
end Go.Proofs.Ytobcdekochenfaa
end
section
namespace Go.Proofs.Ytobcdekochenfaa
open Go Go.RowKit
def VF (L : Nat → Bool) (v : Nat → Value) (vals : List (Option Value)) : Prop := ∀ i x, vals[i]? = some (some x) → L i = true → v i = x
theorem VF.start {v : Nat → Value} {vals : List (Option Value)} : VF (fun _ => false) v vals := fun _ _ _ h => by cases h
theorem VF.at {L : Nat → Bool} {v : Nat → Value} {vals : List (Option Value)} (h : VF L v vals) {i : Nat} {x : Value} (hL : L i = true) (e : vals[i]? = some (some x)) : v i = x := h i x e hL
theorem VF.step {L : Nat → Bool} {v : Nat → Value} {vals : List (Option Value)} (h : VF L v vals) (i : Nat) {y : Value} (e : vals[i]? = some (some y)) : VF (setL L i) (updV v i y) vals := fun j x hj hL => by
 unfold setL at hL
 unfold updV
 by_cases c : j = i
 · subst c
   rw [e] at hj
   injection hj with hj
   injection hj with hj
   rw [if_pos rfl]; exact hj
 · rw [if_neg c] at hL ⊢
   exact h j x hj hL
theorem VF.skip {L : Nat → Bool} {v : Nat → Value} {vals : List (Option Value)} (h : VF L v vals) (i : Nat) {y : Value} (e : vals[i]? = some none) : VF (setL L i) (updV v i y) vals := fun j x hj hL => by
 unfold setL at hL
 unfold updV
 by_cases c : j = i
 · subst c
   rw [e] at hj
   injection hj with hj
   cases hj
 · rw [if_neg c] at hL ⊢
   exact h j x hj hL
attribute [irreducible] VF
end Go.Proofs.Ytobcdekochenfaa
end
section
namespace Go.Proofs.Ytobcdekochenfaa
open Go.RowKit
set_option linter.unusedVariables false
set_option linter.unusedSimpArgs false
attribute [local irreducible] deg invN dS qS stp
/-- the first scope within a code -/
def scopeIn : Code → Option Code
 | .seq a b => match scopeIn a with
  | some c => some c
  | none => scopeIn b
 | .scope c => some c
 | _ => none
/-- what stands behind a label of the first scope -/
def behind (fn : Func) (l : Nat) : Code := (findLabel ((fn.body.bind scopeIn).getD .skip) l).getD .skip
end Go.Proofs.Ytobcdekochenfaa
end
section
namespace Go.Proofs.Ytobcdekochenfaa
open Go.RowKit
set_option linter.unusedVariables false
set_option linter.unusedSimpArgs false
attribute [local irreducible] deg invN dS qS stp quoP resP
theorem prime_of {n : Nat} {fs : List (Nat → Nat)} (h : codeL (n : Int) fs = 0) : n = 2 ∨ n = 3 ∨ n = 5 ∨ n = 7 := by
 rcases okP_cases (codeL_zero h).1 with h | h | h | h <;> omega
end Go.Proofs.Ytobcdekochenfaa
end
section
namespace Go.Proofs.Ytobcdekochenfaa
open Go.RowKit
set_option linter.unusedVariables false
/-- three polynomials, one behind the other -/
def c3 (r u v : Nat → Nat) : Nat → Nat := fun k => if k < 64 then r k else if k < 128 then u (k - 64) else v (k - 128)
theorem built_one : Try.prog.built 23 [(0, .int .u8 1)] = some (zb 64 oneP) := by
 unfold zb bl; kernel_rfl
end Go.Proofs.Ytobcdekochenfaa
end
section
namespace Go.Proofs.Ytobcdekochenfaa
open Go.RowKit
set_option linter.unusedVariables false
set_option linter.unusedSimpArgs false
attribute [local irreducible] deg invN dS qS stp quoP resP
theorem one64 : zb 64 oneP = #[.int .u8 1, .int .u8 0, .int .u8 0, .int .u8 0, .int .u8 0, .int .u8 0, .int .u8 0, .int .u8 0, .int .u8 0, .int .u8 0, .int .u8 0, .int .u8 0, .int .u8 0, .int .u8 0, .int .u8 0, .int .u8 0, .int .u8 0, .int .u8 0, .int .u8 0, .int .u8 0, .int .u8 0, .int .u8 0, .int .u8 0, .int .u8 0, .int .u8 0, .int .u8 0, .int .u8 0, .int .u8 0, .int .u8 0, .int .u8 0, .int .u8 0, .int .u8 0, .int .u8 0, .int .u8 0, .int .u8 0, .int .u8 0, .int .u8 0, .int .u8 0, .int .u8 0, .int .u8 0, .int .u8 0, .int .u8 0, .int .u8 0, .int .u8 0, .int .u8 0, .int .u8 0, .int .u8 0, .int .u8 0, .int .u8 0, .int .u8 0, .int .u8 0, .int .u8 0, .int .u8 0, .int .u8 0, .int .u8 0, .int .u8 0, .int .u8 0, .int .u8 0, .int .u8 0, .int .u8 0, .int .u8 0, .int .u8 0, .int .u8 0, .int .u8 0] := by simp only [zb, bl, oneP]; kernel_rfl
set_option maxRecDepth 100000 in
theorem l01One_any (w : World) : Calls Try.prog 80 #[] w fun e w' => e = .returned (.agg (zb 64 oneP)) ∧ Below w.heap.size w w' := by
 go_enter Try.func80, Try.ntmps80
 go_upto_region 1 with (fail)
 rw [← z64]
 have b0 := Blk.new w 64 23 (fun _ => 0)
 go_wp2_with (first | (refine wpList_store_blk rfl 23 _ _ rfl _ 64 oneP rfl (by rw [one64]; rfl) 23 _ b0 Try.size23 ?_))
 refine bodyPost_ret (zrb rfl _ _ _ 64 23 5 _ rfl (b0.row _) Try.underlying23 Try.size23) rfl ⟨rfl, zr (zal _ _) (Nat.le_refl _) _⟩
end Go.Proofs.Ytobcdekochenfaa
end
section
namespace Go.Proofs.Ytobcdekochenfaa
open Go Go.RowKit
section
variable {P : Program}
theorem wp_load_any {o : Oper} {a : Act} {w : World} {K : Act → World → Prop} {Q : Exit → Act → World → Prop} (ty : TypeId) (x : Operand) (ho : o.op = .load ty x)
 (b : Nat) (hx : a.eval x = .pointer (some ⟨b, 0, none⟩)) (n : Nat) (t : TypeId) (f : Nat → Nat) (hb : Blk w b n t f) (d : TypeDesc)
 (hu : P.underlying ty = some d) (hd : (match d with | .struct _ | .array _ _ => true | _ => false) = true) (hi : (P.info? ty).map (·.size) = some n) (h : K (a.put o.dst (.agg (zb n f))) w) : o.wp P a w K Q := by
 have hb' : w.heap[b]? = some (.cells (zb n f) t (0, 0)) := by unfold Blk at hb; exact hb
 exact wp_load_row ty x ho b hx t _ (0, 0) d hb' hu hd (by rw [zbs]; exact hi) h
theorem zlc {o : Oper} {a : Act} {w : World} {K : Act → World → Prop} {Q : Exit → Act → World → Prop} {ty : TypeId} {x : Operand} {b n : Nat} {t : TypeId} {f : Nat → Nat} {d : TypeDesc} (hb : Blk w b n t f) (hu : P.underlying ty = some d) (hi : (P.info? ty).map (·.size) = some n) (h : K (a.put o.dst (.agg (zb n f))) w) (ho : o.op = .load ty x := by rfl) (hx : a.eval x = .pointer (some ⟨b, 0, none⟩) := by rfl) (hd : (match d with | .struct _ | .array _ _ => true | _ => false) = true := by rfl) : o.wp P a w K Q := wp_load_any ty x ho b hx n t f hb d hu hd hi h
theorem wpList_load_any {ops : Array Oper} {rest : List Oper} {o : Oper} {a : Act} {w : World} {Q : Exit → Act → World → Prop} (hgd : o.guard = none) (ty : TypeId) (x : Operand) (ho : o.op = .load ty x)
 (b : Nat) (hx : a.eval x = .pointer (some ⟨b, 0, none⟩)) (n : Nat) (t : TypeId) (f : Nat → Nat) (hb : Blk w b n t f) (d : TypeDesc)
 (hu : P.underlying ty = some d) (hd : (match d with | .struct _ | .array _ _ => true | _ => false) = true) (hi : (P.info? ty).map (·.size) = some n)
 (h : wpList P ops Q rest (a.put o.dst (.agg (zb n f))) w) : wpList P ops Q (o :: rest) a w := by
 have hb' : w.heap[b]? = some (.cells (zb n f) t (0, 0)) := by unfold Blk at hb; exact hb
 exact wpList_load_row hgd ty x ho b hx t _ (0, 0) d hb' hu hd (by rw [zbs]; exact hi) h
theorem zla {ops : Array Oper} {rest : List Oper} {o : Oper} {a : Act} {w : World} {Q : Exit → Act → World → Prop} {ty : TypeId} {b n : Nat} {t : TypeId} {f : Nat → Nat} {d : TypeDesc} (x : Operand) (hb : Blk w b n t f) (hu : P.underlying ty = some d) (hi : (P.info? ty).map (·.size) = some n) (h : wpList P ops Q rest (a.put o.dst (.agg (zb n f))) w) (hgd : o.guard = none := by rfl) (ho : o.op = .load ty x := by rfl) (hx : a.eval x = .pointer (some ⟨b, 0, none⟩) := by rfl) (hd : (match d with | .struct _ | .array _ _ => true | _ => false) = true := by rfl) : wpList P ops Q (o :: rest) a w := wpList_load_any hgd ty x ho b hx n t f hb d hu hd hi h
theorem zsr {ops : Array Oper} {rest : List Oper} {o : Oper} {a : Act} {w : World} {Q : Exit → Act → World → Prop} {ty : TypeId} {b n : Nat} {t : TypeId} {f : Nat → Nat} (x y : Operand) (g : Nat → Nat) (hb : Blk w b n t f) (hi : (P.info? ty).map (·.size) = some n) (h : wpList P ops Q rest (a.put o.dst undef) (w.setRow b (zb n g))) (hgd : o.guard = none := by rfl) (ho : o.op = .store ty x y := by rfl) (hx : a.eval x = .pointer (some ⟨b, 0, none⟩) := by rfl) (hy : a.eval y = .agg (zb n g) := by rfl) : wpList P ops Q (o :: rest) a w := wpList_store_blk hgd ty x y ho b n g hx hy t f hb hi h
theorem wp_build_of {o : Oper} {a : Act} {w : World} {K : Act → World → Prop} {Q : Exit → Act → World → Prop} (t : TypeId) (parts : Array (Nat × Operand)) (ho : o.op = .build t parts)
 (cells : Array Value) (hc : P.built t (parts.map fun (i, x) => (i, a.eval x)).toList = some cells) (h : K (a.put o.dst (.agg cells)) w) : o.wp P a w K Q := by
 refine wp_build t parts ho (by rw [hc]; rfl) ?_
 rw [hc]; exact h
theorem zbo {ops : Array Oper} {rest : List Oper} {o : Oper} {a : Act} {w : World} {Q : Exit → Act → World → Prop} (hg : o.guard = none) (t : TypeId) (parts : Array (Nat × Operand)) (ho : o.op = .build t parts)
 (cells : Array Value) (hc : P.built t (parts.map fun (i, x) => (i, a.eval x)).toList = some cells) (h : wpList P ops Q rest (a.put o.dst (.agg cells)) w) : wpList P ops Q (o :: rest) a w :=
 wpList_plain hg fun _ hK => wp_build_of t parts ho cells hc (hK _ _ h)
end
end Go.Proofs.Ytobcdekochenfaa
end
section
namespace Go.Proofs.Ytobcdekochenfaa
attribute [local irreducible] deg invN
/-- the sum of t below n -/
def cs : Nat → (Nat → Int) → Int
 | 0, _ => 0
 | n + 1, t => cs n t + t n
theorem cs_z (t : Nat → Int) : cs 0 t = 0 := rfl
theorem cs_s (n : Nat) (t : Nat → Int) : cs (n + 1) t = cs n t + t n := rfl
theorem cs_congr {s t : Nat → Int} : ∀ n, (∀ i, i < n → s i = t i) → cs n s = cs n t
 | 0, _ => rfl
 | n + 1, h => by rw [cs_s, cs_s, cs_congr n (fun i hi => h i (by omega)), h n (by omega)]
theorem cs_add (s t : Nat → Int) : ∀ n, cs n (fun i => s i + t i) = cs n s + cs n t
 | 0 => rfl
 | n + 1 => by rw [cs_s, cs_s, cs_s, cs_add s t n]; omega
theorem cs_mul (c : Int) (t : Nat → Int) : ∀ n, cs n (fun i => c * t i) = c * cs n t
 | 0 => by rw [cs_z, cs_z, Int.mul_zero]
 | n + 1 => by rw [cs_s, cs_s, cs_mul c t n, Int.mul_add]
theorem cs_mulr (c : Int) (t : Nat → Int) (n : Nat) : cs n (fun i => t i * c) = cs n t * c := by
 rw [Int.mul_comm, ← cs_mul]
 exact cs_congr n (fun i _ => Int.mul_comm _ _)
theorem cs_zero {t : Nat → Int} : ∀ n, (∀ i, i < n → t i = 0) → cs n t = 0
 | 0, _ => rfl
 | n + 1, h => by rw [cs_s, cs_zero n (fun i hi => h i (by omega)), h n (by omega)]; rfl
theorem cs_front (t : Nat → Int) : ∀ n, cs (n + 1) t = t 0 + cs n (fun i => t (i + 1))
 | 0 => by rw [cs_s, cs_z, cs_z]; omega
 | n + 1 => by rw [cs_s, cs_front t n, cs_s]; omega
theorem cs_rev (t : Nat → Int) : ∀ n, cs (n + 1) t = cs (n + 1) (fun i => t (n - i))
 | 0 => rfl
 | n + 1 => by
  rw [cs_front (fun i => t (n + 1 - i)) (n + 1), cs_s, cs_rev t n, Nat.sub_zero]
  have : cs (n + 1) (fun i => t (n + 1 - (i + 1))) = cs (n + 1) (fun i => t (n - i)) := cs_congr _ (fun i _ => by rw [show n + 1 - (i + 1) = n - i by omega])
  omega
theorem cs_tri (F : Nat → Nat → Int) : ∀ n, cs (n + 1) (fun i => cs (i + 1) (fun j => F i j)) = cs (n + 1) (fun j => cs (n - j + 1) (fun l => F (j + l) j))
 | 0 => rfl
 | n + 1 => by
  rw [cs_s, cs_tri F n, cs_s (n + 1) (fun j => cs (n + 1 - j + 1) (fun l => F (j + l) j))]
  have h1 : cs (n + 1) (fun j => cs (n + 1 - j + 1) (fun l => F (j + l) j)) = cs (n + 1) (fun j => cs (n - j + 1) (fun l => F (j + l) j) + F (n + 1) j) := cs_congr _ (fun j hj => by
   rw [show n + 1 - j + 1 = (n - j + 1) + 1 by omega, cs_s, show j + (n - j + 1) = n + 1 by omega])
  have h2 : cs (n + 1 - (n + 1) + 1) (fun l => F (n + 1 + l) (n + 1)) = F (n + 1) (n + 1) := by
   rw [Nat.sub_self, cs_s, cs_z]; simp
  rw [h1, cs_add, h2, cs_s (n + 1) (fun j => F (n + 1) j)]
  have h3 : cs (n + 1) (F (n + 1)) = cs (n + 1) (fun j => F (n + 1) j) := rfl
  omega
/-- all but one of the terms are divided by p -/
theorem cs_dvd {p : Int} {t : Nat → Int} : ∀ n, (∀ i, i < n → p ∣ t i) → p ∣ cs n t
 | 0, _ => ⟨0, by rw [cs_z, Int.mul_zero]⟩
 | n + 1, h => by rw [cs_s]; exact Int.dvd_add (cs_dvd n (fun i hi => h i (by omega))) (h n (by omega))
/-- the product -/
def mz (f g : Nat → Int) : Nat → Int := fun k => cs (k + 1) (fun i => f i * g (k - i))
theorem mz_comm (f g : Nat → Int) : mz f g = mz g f := by
 funext k
 unfold mz
 rw [cs_rev]
 exact cs_congr _ (fun i hi => by rw [show k - (k - i) = i by omega, Int.mul_comm])
theorem mz_assoc (f g h : Nat → Int) : mz (mz f g) h = mz f (mz g h) := by
 funext k
 unfold mz
 have h1 : cs (k + 1) (fun i => cs (i + 1) (fun j => f j * g (i - j)) * h (k - i)) = cs (k + 1) (fun i => cs (i + 1) (fun j => (fun i j => f j * g (i - j) * h (k - i)) i j)) := cs_congr _ (fun i _ => by
  rw [← cs_mulr])
 rw [h1, cs_tri]
 exact cs_congr _ (fun j hj => by
  rw [← cs_mul]
  exact cs_congr _ (fun l hl => by
   show f j * g (j + l - j) * h (k - (j + l)) = _
   rw [show j + l - j = l by omega, show k - (j + l) = k - j - l by omega, Int.mul_assoc]))
def az (f g : Nat → Int) : Nat → Int := fun k => f k + g k
def sz (f g : Nat → Int) : Nat → Int := fun k => f k - g k
def cz (c : Int) (f : Nat → Int) : Nat → Int := fun k => c * f k
theorem mz_az (f g h : Nat → Int) : mz (az f g) h = az (mz f h) (mz g h) := by
 funext k
 unfold mz az
 rw [← cs_add]
 exact cs_congr _ (fun i _ => Int.add_mul _ _ _)
theorem mz_cz (c : Int) (f h : Nat → Int) : mz (cz c f) h = cz c (mz f h) := by
 funext k
 unfold mz cz
 rw [← cs_mul]
 exact cs_congr _ (fun i _ => Int.mul_assoc _ _ _)
theorem mz_sz (f g h : Nat → Int) : mz (sz f g) h = sz (mz f h) (mz g h) := by
 have : sz f g = az f (cz (-1) g) := by funext k; unfold sz az cz; omega
 rw [this, mz_az, mz_cz]
 funext k; unfold sz az cz; omega
def fin (f : Nat → Int) : Prop := ∃ N, ∀ k, N ≤ k → f k = 0
/-- the same modulo p -/
def cg (p : Int) (f g : Nat → Int) : Prop := ∀ k, p ∣ f k - g k
theorem cg_refl (p : Int) (f : Nat → Int) : cg p f f := fun k => ⟨0, by omega⟩
theorem cg_symm {p : Int} {f g : Nat → Int} (h : cg p f g) : cg p g f := fun k => by
 rw [show g k - f k = -(f k - g k) by omega]; exact Int.dvd_neg.2 (h k)
theorem cg_trans {p : Int} {f g h : Nat → Int} (h1 : cg p f g) (h2 : cg p g h) : cg p f h := fun k => by
 rw [show f k - h k = (f k - g k) + (g k - h k) by omega]; exact Int.dvd_add (h1 k) (h2 k)
theorem cg_mz {p : Int} {f f' g : Nat → Int} (h1 : cg p f f') : cg p (mz f g) (mz f' g) := fun k => by
 have : mz f g k - mz f' g k = mz (sz f f') g k := by rw [mz_sz]; rfl
 rw [this]
 exact cs_dvd _ (fun i _ => by
  obtain ⟨c, hc⟩ := h1 i
  exact ⟨c * g (k - i), by unfold sz; rw [hc, Int.mul_assoc]⟩)
theorem cg_mz2 {p : Int} {f f' g g' : Nat → Int} (h1 : cg p f f') (h2 : cg p g g') : cg p (mz f g) (mz f' g') := by
 refine cg_trans (cg_mz h1) ?_
 rw [mz_comm f' g, mz_comm f' g']
 exact cg_mz h2
/-- powers -/
def pwz (f : Nat → Int) : Nat → (Nat → Int)
 | 0 => fun k => if k = 0 then 1 else 0
 | n + 1 => mz (pwz f n) f
theorem mz_one (f : Nat → Int) : mz (fun k => if k = 0 then 1 else 0) f = f := by
 funext k
 unfold mz
 rw [cs_front, cs_zero k (fun i hi => by show (if i + 1 = 0 then (1 : Int) else 0) * _ = 0; rw [if_neg (by omega), Int.zero_mul])]
 simp
theorem pwz_two (f : Nat → Int) : ∀ n, pwz f (2 * n) = pwz (mz f f) n
 | 0 => rfl
 | n + 1 => by
  rw [show 2 * (n + 1) = 2 * n + 1 + 1 by omega]
  show mz (mz (pwz f (2 * n)) f) f = mz (pwz (mz f f) n) (mz f f)
  rw [mz_assoc, pwz_two f n]
/-- a polynomial's cells as a series -/
def lz (f : Nat → Nat) : Nat → Int := fun k => (cut f k : Int)
theorem mod_dvd (p : Nat) (x : Nat) : (p : Int) ∣ ((x % p : Nat) : Int) - (x : Int) := by
 have := Nat.div_add_mod x p
 refine ⟨-((x / p : Nat) : Int), ?_⟩
 rw [Int.mul_neg, ← Int.natCast_mul]
 omega
theorem cv_mz (p : Nat) (f g : Nat → Nat) (k : Nat) : ∀ i, (p : Int) ∣ (cv p f g i k : Int) - cs i (fun j => if j ≤ k then (f j : Int) * (g (k - j) : Int) else 0)
 | 0 => ⟨0, by rw [cv_zero, cs_z]; omega⟩
 | i + 1 => by
  rw [cv_succ, cs_s]
  have h1 := mod_dvd p (cv p f g i k + (if i ≤ k then f i * g (k - i) else 0))
  have h2 := cv_mz p f g k i
  have h3 : (((if i ≤ k then f i * g (k - i) else 0 : Nat)) : Int) = (if i ≤ k then (f i : Int) * (g (k - i) : Int) else 0) := by split <;> push_cast <;> rfl
  have := Int.dvd_add h1 h2
  rw [Int.natCast_add, h3] at this
  obtain ⟨c, hc⟩ := this
  exact ⟨c, by omega⟩
theorem cs_more {t : Nat → Int} (n : Nat) : ∀ d, (∀ i, n ≤ i → i < n + d → t i = 0) → cs (n + d) t = cs n t
 | 0, _ => rfl
 | d + 1, h => by
  rw [← Nat.add_assoc, cs_s, cs_more n d (fun i h1 h2 => h i h1 (by omega)), h (n + d) (by omega) (by omega)]
  omega
/-- the coefficients of the product, modulo p -/
theorem prd_mz (p : Nat) (f g : Nat → Nat) (k : Nat) : (p : Int) ∣ (prd p f g k : Int) - mz (lz f) (lz g) k := by
 have h := cv_mz p (cut f) (cut g) k 64
 have e : cs 64 (fun j => if j ≤ k then (cut f j : Int) * (cut g (k - j) : Int) else 0) = mz (lz f) (lz g) k := by
  unfold mz lz
  by_cases hk : k + 1 ≤ 64
  · have := cs_more (t := fun j => if j ≤ k then (cut f j : Int) * (cut g (k - j) : Int) else 0) (k + 1) (64 - (k + 1)) (fun i h1 _ => by rw [if_neg (by omega)])
    rw [show k + 1 + (64 - (k + 1)) = 64 by omega] at this
    rw [this]
    exact cs_congr _ (fun i hi => by rw [if_pos (by omega)])
  · have := cs_more (t := fun j => (cut f j : Int) * (cut g (k - j) : Int)) 64 (k + 1 - 64) (fun i h1 _ => by rw [zcz f h1]; simp)
    rw [show 64 + (k + 1 - 64) = k + 1 by omega] at this
    rw [this]
    exact cs_congr _ (fun i hi => by rw [if_pos (by omega)])
 rw [e] at h
 exact h
theorem prd_cg {p : Nat} {f g : Nat → Nat} (hp : 0 < p) (h : deg f + deg g ≤ 63) : cg p (lz (prd p f g)) (mz (lz f) (lz g)) := by
 intro k
 by_cases hk : k < 64
 · have := prd_mz p f g k
   unfold lz at this ⊢
   rwa [cut_in _ hk]
 · have h0 := prd_above hp (f := f) (g := g) (k := k) (by omega)
   have := prd_mz p f g k
   unfold lz at this ⊢
   rw [zcz _ (by omega)]
   rwa [h0] at this
end Go.Proofs.Ytobcdekochenfaa
end
section
namespace Go.Proofs.Ytobcdekochenfaa
/-- sums and products as in the whole numbers -/
class Rg (R : Type) extends Add R, Mul R, Neg R where
 o : R
 e : R
 acomm : ∀ a b : R, a + b = b + a
 aassoc : ∀ a b c : R, a + b + c = a + (b + c)
 oadd : ∀ a : R, o + a = a
 nadd : ∀ a : R, -a + a = o
 mcomm : ∀ a b : R, a * b = b * a
 massoc : ∀ a b c : R, a * b * c = a * (b * c)
 emul : ∀ a : R, e * a = a
 madd : ∀ a b c : R, a * (b + c) = a * b + a * c
namespace Rg
variable {R : Type} [Rg R]
/-- a^n -/
def pw (a : R) : Nat → R
 | 0 => e
 | n + 1 => a * pw a n
/-- k times a -/
def nm : Nat → R → R
 | 0, _ => o
 | k + 1, a => nm k a + a
/-- the sum of c(i) x^i y^(n - i), for the n + 1 numbers of a list -/
def hm (x y : R) : List Nat → R
 | [] => o
 | c :: cs => nm c (pw y cs.length) + x * hm x y cs
def pas : Nat → List Nat → List Nat
 | q, [] => [q]
 | q, c :: cs => (q + c) :: pas c cs
def row : Nat → List Nat
 | 0 => [1]
 | n + 1 => pas 0 (row n)
end Rg
end Go.Proofs.Ytobcdekochenfaa
namespace Go.Proofs.Ytobcdekochenfaa
open Rg
def oneS : Nat → Int := fun k => if k = 0 then 1 else 0
theorem dvd_small {p x : Int} (h : p ∣ x) (h1 : -p < x) (h2 : x < p) : x = 0 := by
 obtain ⟨c, rfl⟩ := h
 by_cases h4 : c = 0
 · rw [h4, Int.mul_zero]
 · exfalso
   have hp : 0 < p := by omega
   by_cases h5 : 0 < c
   · have : p * 1 ≤ p * c := Int.mul_le_mul_of_nonneg_left (by omega) (by omega)
     omega
   · have : p * c ≤ p * (-1) := Int.mul_le_mul_of_nonneg_left (by omega) (by omega)
     omega
end Go.Proofs.Ytobcdekochenfaa
set_option linter.unusedVariables false
namespace Go.Proofs.Ytobcdekochenfaa
attribute [local irreducible] deg invN
/-- cells up to 127 as a series -/
def lw (f : Nat → Nat) : Nat → Int := fun k => if k < 128 then (f k : Int) else 0
end Go.Proofs.Ytobcdekochenfaa
set_option linter.unusedVariables false
namespace Go.Proofs.Ytobcdekochenfaa
attribute [local irreducible] deg invN quoP resP
/-- monic -/
def mon (f : Nat → Nat) (d : Nat) : Prop := deg f = (d : Int) ∧ f d = 1
end Go.Proofs.Ytobcdekochenfaa
set_option linter.unusedVariables false
namespace Go.Proofs.Ytobcdekochenfaa
attribute [local irreducible] deg invN quoP resP
theorem ofN_lt {p : Nat} (hp : 0 < p) (N k : Nat) : ofN p N k < p := Nat.mod_lt _ hp
/-- the numbers of the monic polynomials of the degree n -/
def monL (p n : Nat) : List Nat := List.range' (p ^ n) (p ^ n)
theorem monL_mem {p n N : Nat} : N ∈ monL p n ↔ p ^ n ≤ N ∧ N < 2 * p ^ n := by
 unfold monL; rw [List.mem_range'_1]; omega
theorem ofN_high {p n N k : Nat} (hp : 2 ≤ p) (h : N < 2 * p ^ n) (hk : n < k) : ofN p N k = 0 := by
 unfold ofN dgt
 have h1 : p ^ (n + 1) ≤ p ^ k := Nat.pow_le_pow_right (by omega) hk
 have h2 : 2 * p ^ n ≤ p * p ^ n := Nat.mul_le_mul_right _ hp
 rw [Nat.pow_succ'] at h1
 rw [Nat.div_eq_of_lt (by omega), Nat.zero_mod]
theorem ofN_top {p n N : Nat} (hp : 2 ≤ p) (h1 : p ^ n ≤ N) (h2 : N < 2 * p ^ n) : ofN p N n = 1 := by
 unfold ofN dgt
 have hpos : 0 < p ^ n := Nat.pow_pos (by omega)
 have : N / p ^ n = 1 := by
  have e : N = (N - p ^ n) + p ^ n * 1 := by omega
  rw [e, Nat.add_mul_div_left _ _ hpos, Nat.div_eq_of_lt (by omega)]
 rw [this, Nat.mod_eq_of_lt (by omega)]
theorem mon_ofN {p n N : Nat} (hp : 2 ≤ p) (hn : n < 64) (h : N ∈ monL p n) : mon (ofN p N) n := by
 obtain ⟨h1, h2⟩ := monL_mem.1 h
 have ht := ofN_top hp h1 h2
 refine ⟨?_, ht⟩
 have a := deg_le (f := ofN p N) (d := (n : Int)) (by omega) (fun k hk _ => ofN_high hp h2 (by omega))
 have b : ¬ deg (ofN p N) < (n : Int) := by
  intro hlt
  have := zero_above hlt hn
  omega
 omega
/-- how often m divides a, and what is left -/
def dvo (p : Nat) (m : Nat → Nat) : Nat → (Nat → Nat) → Nat × (Nat → Nat)
 | 0, a => (0, a)
 | f + 1, a => if deg (resP p a m) < 0 then ((dvo p m f (quoP p a m)).1 + 1, (dvo p m f (quoP p a m)).2) else (0, a)
end Go.Proofs.Ytobcdekochenfaa
set_option linter.unusedVariables false
namespace Go.Proofs.Ytobcdekochenfaa
attribute [local irreducible] deg invN quoP resP
/-- all of a list, divided out one after the other: what is told, and what is left -/
def foR (p : Nat) : List Nat → (Nat → Nat) → List (Nat × Nat) × (Nat → Nat)
 | [], a => ([], a)
 | N :: ms, a => ((if 0 < (dvo p (ofN p N) 64 a).1 then [(N, (dvo p (ofN p N) 64 a).1)] else []) ++ (foR p ms (dvo p (ofN p N) 64 a).2).1, (foR p ms (dvo p (ofN p N) 64 a).2).2)
/-- degree by degree -/
def run (p : Nat) : Nat → Nat → (Nat → Nat) → List (Nat × Nat)
 | 0, _, _ => []
 | f + 1, n, a => if deg a ≤ 0 then [] else (foR p (monL p n) a).1 ++ run p f (n + 1) (foR p (monL p n) a).2
end Go.Proofs.Ytobcdekochenfaa
set_option linter.unusedVariables false
set_option linter.unusedVariables false
set_option linter.unusedVariables false
namespace Go.Proofs.Ytobcdekochenfaa
attribute [local irreducible] deg invN quoP resP
theorem one_lz : lz oneP = oneS := by
 funext k; unfold lz oneS
 by_cases hk : k < 64
 · rw [cut_in _ hk]; unfold oneP; split <;> rfl
 · rw [zcz _ (by omega), if_neg (by omega)]; rfl
end Go.Proofs.Ytobcdekochenfaa
set_option linter.unusedVariables false
end
section
namespace Go.Proofs.Ytobcdekochenfaa
open Go.RowKit
/-- squares and products, at most f more rounds -/
def pgR (mul : (Nat → Nat) → (Nat → Nat) → (Nat → Nat)) : Nat → Nat → (Nat → Nat) → (Nat → Nat) → (Nat → Nat)
 | 0, _, o, _ => o
 | f + 1, k, o, s => if k = 0 then o else pgR mul f (k / 2) (if k % 2 = 1 then mul o s else o) (mul s s)
theorem pgR_z {mul : (Nat → Nat) → (Nat → Nat) → (Nat → Nat)} {f : Nat} {o s : Nat → Nat} : pgR mul f 0 o s = o := by cases f <;> simp [pgR]
theorem pgR_odd {mul : (Nat → Nat) → (Nat → Nat) → (Nat → Nat)} {f k : Nat} {o s : Nat → Nat} (h0 : k ≠ 0) (h : k % 2 = 1) : pgR mul (f + 1) k o s = pgR mul f (k / 2) (mul o s) (mul s s) := by rw [pgR, if_neg h0, if_pos h]
theorem pgR_even {mul : (Nat → Nat) → (Nat → Nat) → (Nat → Nat)} {f k : Nat} {o s : Nat → Nat} (h0 : k ≠ 0) (h : ¬ k % 2 = 1) : pgR mul (f + 1) k o s = pgR mul f (k / 2) o (mul s s) := by rw [pgR, if_neg h0, if_neg h]
/-- the last round wants no square -/
theorem pgR_one {mul : (Nat → Nat) → (Nat → Nat) → (Nat → Nat)} {f : Nat} {o s : Nat → Nat} : pgR mul (f + 1) 1 o s = mul o s := by
 rw [pgR_odd (by decide) (by decide)]
 exact pgR_z
theorem pgR_lt {p : Nat} {mul : (Nat → Nat) → (Nat → Nat) → (Nat → Nat)} (hM : ∀ x y i, i < 64 → mul x y i < p) : ∀ (f k : Nat) (o s : Nat → Nat), (∀ i, i < 64 → o i < p) → ∀ i, i < 64 → pgR mul f k o s i < p
 | 0, _, _, _, ho => ho
 | f + 1, k, o, s, ho => by
  by_cases hz : k = 0
  · subst hz; rw [pgR_z]; exact ho
  · by_cases h2 : k % 2 = 1
    · rw [pgR_odd hz h2]; exact pgR_lt hM f _ _ _ (hM o s)
    · rw [pgR_even hz h2]; exact pgR_lt hM f _ _ _ ho
theorem cut_eq {f g : Nat → Nat} (h : ∀ i, i < 64 → f i = g i) : cut f = cut g := by
 funext i; unfold cut
 split
 · rename_i hi; exact h i hi
 · rfl
end Go.Proofs.Ytobcdekochenfaa
namespace Go.Proofs.Ytobcdekochenfaa
open Go Go.RowKit Go.ChangeMaps
open Go.Maps (Keyed)
/-- block b is a map with the entries L, keys of type k -/
def MapG (P : Program) (k : TypeId) (w : World) (b : Nat) (L : List (Value × Value)) : Prop :=
 ∃ es clock, w.heap[b]? = some (.map es clock) ∧ es.toList.map (fun e => (e.key, e.val)) = L ∧ ∀ e ∈ es.toList, ∃ l, keyOf P k e.key = some l
theorem MapG.lt {P : Program} {k : TypeId} {w : World} {b : Nat} {L : List (Value × Value)} (h : MapG P k w b L) : b < w.heap.size := by
 obtain ⟨es, clock, hb, _⟩ := h
 exact (Array.getElem?_eq_some_iff.1 hb).1
theorem MapG.new (P : Program) (k : TypeId) (w : World) : MapG P k (w.alloc (.map #[] 0)) w.heap.size [] := ⟨#[], 0, (MapKept.heap_alloc w _).1, rfl, by simp⟩
theorem MapG.of {P : Program} {k : TypeId} {w w' : World} {b : Nat} {L : List (Value × Value)} (h : MapG P k w b L) (e : w'.heap[b]? = w.heap[b]?) : MapG P k w' b L := by
 obtain ⟨es, clock, hb, r⟩ := h
 exact ⟨es, clock, e.trans hb, r⟩
theorem MapG.alloc {P : Program} {k : TypeId} {w : World} {b : Nat} {L : List (Value × Value)} (h : MapG P k w b L) (o : Obj) : MapG P k (w.alloc o) b L := h.of (Below.heap_alloc _ _ _ h.lt)
theorem MapG.drew {P : Program} {k : TypeId} {w : World} {b : Nat} {L : List (Value × Value)} (h : MapG P k w b L) : MapG P k w.drew b L := h
theorem MapG.below {P : Program} {k : TypeId} {w w' : World} {B b : Nat} {L : List (Value × Value)} (h : MapG P k w b L) (hb : Below B w w') (e : b < B) : MapG P k w' b L := h.of (hb.block b e)
theorem MapG.zw {P : Program} {k : TypeId} {w w' : World} {b : Nat} {L : List (Value × Value)} (h : MapG P k w b L) (hb : Below w.heap.size w w') : MapG P k w' b L := MapG.below h hb (MapG.lt h)
theorem MapG.setOther {P : Program} {k : TypeId} {w : World} {b : Nat} {L : List (Value × Value)} (h : MapG P k w b L) {a : Addr} {v : Value} (e : b ≠ a.block) : MapG P k (w.setCell a v) b L := h.of (heap_setCell_other _ _ _ _ e)
theorem MapG.rowOther {P : Program} {k : TypeId} {w : World} {b : Nat} {L : List (Value × Value)} (h : MapG P k w b L) {j : Nat} {cs : Array Value} (e : b ≠ j) : MapG P k (w.setRow j cs) b L := h.of (setRow_other _ _ _ _ e)
/-- block b is one cell that holds v -/
def One (w : World) (b : Nat) (t : TypeId) (v : Value) : Prop := w.heap[b]? = some (.cells #[v] t (0, 0))
theorem One.new (w : World) (t : TypeId) (v : Value) : One (w.alloc (.cells #[v] t)) w.heap.size t v := heap_alloc_last w _
theorem One.lt {w : World} {b : Nat} {t : TypeId} {v : Value} (h : One w b t v) : b < w.heap.size := by
 unfold One at h
 exact (Array.getElem?_eq_some_iff.1 h).1
theorem One.cell {w : World} {b : Nat} {t : TypeId} {v : Value} (h : One w b t v) : w.cell? ⟨b, 0, none⟩ = some v := by
 rw [cell_of_row _ _ _ _ _ _ h]; rfl
theorem One.frozen {w : World} {b : Nat} {t : TypeId} {v : Value} (h : One w b t v) (i : Nat) : w.frozen? ⟨b, i, none⟩ = false := frozen_of_row _ _ _ _ _ h
theorem One.of {w w' : World} {b : Nat} {t : TypeId} {v : Value} (h : One w b t v) (e : w'.heap[b]? = w.heap[b]?) : One w' b t v := by unfold One at *; rw [e]; exact h
theorem One.alloc {w : World} {b : Nat} {t : TypeId} {v : Value} (h : One w b t v) (o : Obj) : One (w.alloc o) b t v := h.of (Below.heap_alloc _ _ _ h.lt)
theorem One.drew {w : World} {b : Nat} {t : TypeId} {v : Value} (h : One w b t v) : One w.drew b t v := h
theorem One.below {w w' : World} {B b : Nat} {t : TypeId} {v : Value} (h : One w b t v) (hb : Below B w w') (e : b < B) : One w' b t v := h.of (hb.block b e)
theorem One.zw {w w' : World} {b : Nat} {t : TypeId} {v : Value} (h : One w b t v) (hb : Below w.heap.size w w') : One w' b t v := One.below h hb (One.lt h)
theorem One.setOther {w : World} {b : Nat} {t : TypeId} {v x : Value} (h : One w b t v) {a : Addr} (e : b ≠ a.block) : One (w.setCell a x) b t v := h.of (heap_setCell_other _ _ _ _ e)
theorem One.rowOther {w : World} {b : Nat} {t : TypeId} {v : Value} (h : One w b t v) {j : Nat} {cs : Array Value} (e : b ≠ j) : One (w.setRow j cs) b t v := h.of (setRow_other _ _ _ _ e)
theorem One.grown {w w' : World} {b j : Nat} {t : TypeId} {v : Value} (h : One w b t v) (hg : w.grownBy w' (some j)) (e : b ≠ j) : One w' b t v := h.of (hg.block b h.lt (fun x => e (by cases x; rfl)))
theorem wp_load_one {P : Program} {o : Oper} {a : Act} {w : World} {K : Act → World → Prop} {Q : Exit → Act → World → Prop} (ty : TypeId) (x : Operand) (ho : o.op = .load ty x)
 (b : Nat) (hx : a.eval x = .pointer (some ⟨b, 0, none⟩)) (t : TypeId) (v : Value) (hb : One w b t v) (d : TypeDesc)
 (hu : P.underlying ty = some d) (hd : (match d with | .struct _ | .array _ _ => true | _ => false) = false) (h : K (a.put o.dst v) w) : o.wp P a w K Q := by
 have hc := hb.cell
 have hagg : (isAgg ty).run P w = .ok false w := by
  unfold isAgg
  rw [Sem.run_bind, run_underlying hu w]
  cases d <;> simp_all
 unfold Oper.wp execOp
 simp only [ho, hx, Instr.loadAt, Instr.sureAddr, Sem.run_bind, Sem.run_pure, Result.andThen_ok, loadVar, hagg, Bool.false_eq_true, if_false, Sem.run_ite, run_load, hc]
 exact h
theorem zlo {P : Program} {ops : Array Oper} {rest : List Oper} {o : Oper} {a : Act} {w : World} {Q : Exit → Act → World → Prop} (hgd : o.guard = none) (ty : TypeId) (x : Operand) (ho : o.op = .load ty x)
 (b : Nat) (hx : a.eval x = .pointer (some ⟨b, 0, none⟩)) (t : TypeId) (v : Value) (hb : One w b t v) (d : TypeDesc)
 (hu : P.underlying ty = some d) (hd : (match d with | .struct _ | .array _ _ => true | _ => false) = false) (h : wpList P ops Q rest (a.put o.dst v) w) : wpList P ops Q (o :: rest) a w :=
 wpList_plain hgd fun _ hK => wp_load_one ty x ho b hx t v hb d hu hd (hK _ _ h)
/-- the look-up at a key -/
theorem MapG.look {P : Program} {k e t : TypeId} (K : Keyed P k) (ht : P.underlying t = some (.map k e)) {w : World} {b : Nat} {L : List (Value × Value)} (h : MapG P k w b L) {z : Value} (hz : (zeroValue e).run P w = .ok z w) (c : Bool) {key : Value} {kl : Lit} (hkey : keyOf P k key = some kl) :
 ((Instr.lookup t (.map (some b)) key c).run P w = .ok (if c then .tuple #[z, .bool false] else z) w ∧ ∀ q ∈ L, q.1 ≠ key) ∨
 ∃ v, (key, v) ∈ L ∧ (Instr.lookup t (.map (some b)) key c).run P w = .ok (if c then .tuple #[v, .bool true] else v) w := by
 obtain ⟨es, clock, hb, rfl, hr⟩ := h
 rcases K.find w hkey es.toList hr with ⟨h1, h2⟩ | ⟨j, e0, h1, h2, h3⟩
 · refine .inl ⟨by simp [Instr.lookup, run_underlying ht, MapKept.run_getObj_map hb, K.check w _ hkey, h1, hz, Result.andThen], ?_⟩
   intro q hq
   obtain ⟨e, he, rfl⟩ := List.mem_map.1 hq
   exact h2 e he
 · refine .inr ⟨e0.val, ?_, by simp [Instr.lookup, run_underlying ht, MapKept.run_getObj_map hb, K.check w _ hkey, h1, Result.andThen]⟩
   exact List.mem_map.2 ⟨e0, List.mem_of_getElem? h2, by rw [h3]⟩
/-- a new key -/
theorem MapG.put {P : Program} {k e t : TypeId} (K : Keyed P k) (ht : P.underlying t = some (.map k e)) {w : World} {b : Nat} {L : List (Value × Value)} (h : MapG P k w b L) {key val : Value} {kl : Lit} (hkey : keyOf P k key = some kl) (hn : ∀ q ∈ L, q.1 ≠ key) :
 ∃ w', (Instr.mapUpdate t (.map (some b)) key val).run P w = .ok () w' ∧ MapG P k w' b (L ++ [(key, val)]) ∧ w.grownBy w' (some b) := by
 obtain ⟨es, clock, hb, rfl, hr⟩ := h
 rcases K.find w hkey es.toList hr with ⟨h1, h2⟩ | ⟨j, e0, h1, h2, h3⟩
 · refine ⟨setBlock w b (.map (es.push ⟨key, val, clock⟩) (clock + 1)), ?_, ⟨_, _, heap_setBlock_same hb _, by simp, ?_⟩, ⟨rfl, rfl, rfl, by simp [setBlock], fun i _ hi => heap_setBlock_other hb _ (fun e => hi (by rw [e]))⟩⟩
   · simp [Instr.mapUpdate, run_underlying ht, MapKept.run_getObj_map hb, K.check w false hkey, h1, MapKept.run_setObj_map _ hb, Result.andThen, setBlock]
   · intro x hx
     simp only [Array.toList_push, List.mem_append, List.mem_singleton] at hx
     rcases hx with hx | rfl
     · exact hr x hx
     · exact ⟨_, hkey⟩
 · exact absurd h3 (hn (e0.key, e0.val) (List.mem_map.2 ⟨e0, List.mem_of_getElem? h2, rfl⟩))
theorem mapM_ex {α β : Type} (f : α → Option β) : ∀ l : List α, (∀ x ∈ l, ∃ y, f x = some y) → ∃ ys, l.mapM f = some ys
 | [], _ => ⟨[], rfl⟩
 | a :: l, h => by
  obtain ⟨y, hy⟩ := h a (by simp)
  obtain ⟨ys, hys⟩ := mapM_ex f l fun x hx => h x (by simp [hx])
  exact ⟨y :: ys, by simp [List.mapM_cons, hy, hys]⟩
/-- an array of bytes is a key -/
theorem keyOf_bytes {P : Program} {k u : TypeId} {n : Nat} (hk : P.underlying k = some (.array n u)) (hu : P.underlying u = some (.int .u8)) (hc : P.cellsOf k = n) (hc1 : P.cellsOf u = 1) (hkt : P.keyType k = true) (hsz : 0 < P.types.size)
 {f : Nat → Nat} (hf : ∀ i, i < n → f i < 256) : ∃ l, keyOf P k (.agg (zb n f)) = some l := by
 obtain ⟨d, hd⟩ : ∃ d, P.types.size = d + 1 := ⟨P.types.size - 1, by omega⟩
 have hform : (Value.agg (zb n f)).formed P k = true := by simp [Value.formed, hk, hc, bl]
 have hlen : (Value.agg (zb n f)).cells.toList.length = P.cellsOf k := by simp [Value.cells, bl, hc]
 obtain ⟨ys, hys⟩ := mapM_ex (fun i => P.keyLits (d + 1) u (((Value.agg (zb n f)).cells.toList.drop (i * P.cellsOf u)).take (P.cellsOf u))) (List.range n) (by
  intro i hi
  have hi' : i < n := by simpa using hi
  refine ⟨[.int .u8 (f i : Int)], ?_⟩
  have e : ((Value.agg (zb n f)).cells.toList.drop (i * P.cellsOf u)).take (P.cellsOf u) = [.int .u8 (f i : Int)] := by
   rw [hc1, Nat.mul_one]
   show (List.drop i (bl n f)).take 1 = _
   have hl : i < (bl n f).length := by rw [zl]; exact hi'
   rw [List.drop_eq_getElem_cons hl]
   simp [bl]
  rw [e]
  have hw : (Lit.int .u8 (f i : Int)).wf = true := by
   have := hf i hi'
   simp only [Lit.wf, Bool.and_eq_true, decide_eq_true_eq]
   have e1 : IntKind.u8.min = 0 := by decide
   have e2 : IntKind.u8.max = 255 := by decide
   rw [e1, e2]
   omega
  simp [Program.keyLits, hu, hw])
 have hl2 : P.keyLits (P.types.size + 1) k (Value.agg (zb n f)).cells.toList = some ys.flatten := by
  rw [hd]
  unfold Program.keyLits
  rw [hk]
  dsimp only
  rw [if_pos hlen, hys]
  rfl
 refine ⟨.string (keyBytes ys.flatten), ?_⟩
 unfold keyOf
 rw [hk]
 simp only [hkt, hform, Bool.and_self, if_true]
 rw [hl2]
 rfl
/-- what a store into the map leaves of another block -/
theorem Blk.grown {w w' : World} {b n j : Nat} {t : TypeId} {f : Nat → Nat} (h : Blk w b n t f) (hg : w.grownBy w' (some j)) (e : b ≠ j) : Blk w' b n t f := by
 have hl := h.lt
 unfold Blk at *; rw [hg.block b hl (fun x => e (by cases x; rfl))]; exact h
theorem wpList_look {P : Program} (w : World) {ops : Array Oper} {rest : List Oper} {o : Oper} {a : Act} {Q : Exit → Act → World → Prop}
 (hg : o.guard = none) (m x : Operand) (t : TypeId) (c : Bool) (hop : o.op = Op.lookup t m x c) (mv : Value) (hm : a.eval m = mv) (key : Value) (hx : a.eval x = key) (v : Value) (hrun : (Instr.lookup t mv key c).run P w = .ok v w)
 (hK : wpList P ops Q rest (a.put o.dst v) w) : wpList P ops Q (o :: rest) a w := by
 refine wpList_plain hg fun K' hK' => ?_
 unfold Oper.wp
 simp [execOp, hop, hm, hx, hrun, Result.andThen]
 exact hK' _ _ hK
theorem wpList_put {P : Program} (w : World) {ops : Array Oper} {rest : List Oper} {o : Oper} {a : Act} {Q : Exit → Act → World → Prop}
 (hg : o.guard = none) (m x v : Operand) (t : TypeId) (hop : o.op = Op.mapUpdate t m x v) (mv : Value) (hm : a.eval m = mv) (key : Value) (hx : a.eval x = key) (val : Value) (hv : a.eval v = val) (w' : World) (hrun : (Instr.mapUpdate t mv key val).run P w = .ok () w')
 (hK : wpList P ops Q rest (a.put o.dst undef) w') : wpList P ops Q (o :: rest) a w := by
 refine wpList_plain hg fun K' hK' => ?_
 unfold Oper.wp
 simp [execOp, hop, hm, hx, hv, hrun, Result.andThen]
 exact hK' _ _ hK
attribute [irreducible] MapG One
end Go.Proofs.Ytobcdekochenfaa
namespace Go.Proofs.Ytobcdekochenfaa
open Go Go.RowKit Go.ChangeMaps
open Go.Maps (Keyed)
theorem Try.laidOutP : laidOutB Try.prog = true := by kernel_rfl
theorem Try.keyPoly : Keyed Try.prog 23 := Keyed.of_law (deep_law_laid Try.laidOutP (m := 2) (by omega) (of_decide_eq_true (by kernel_rfl)) (by kernel_rfl) (by rw [Try.underlying23]))
theorem Try.keyOfPoly {f : Nat → Nat} (hf : ∀ i, i < 64 → f i < 256) : ∃ l, keyOf Try.prog 23 (.agg (zb 64 f)) = some l :=
 keyOf_bytes Try.underlying23 Try.underlying5 (by kernel_rfl) (by kernel_rfl) (by kernel_rfl) (of_decide_eq_true (by kernel_rfl)) hf
theorem Try.zeroPoly (w : World) : (zeroValue 23).run Try.prog w = .ok (.agg (zb 64 fun _ => 0)) w := by kernel_rfl
end Go.Proofs.Ytobcdekochenfaa
end
section
namespace Go.Proofs.Ytobcdekochenfaa
theorem pow_big {p k : Nat} (h1 : 1 ≤ p) (h2 : p ≤ 7) (hk : k ≤ 20) : 1 ≤ p ^ k ∧ p ^ k ≤ 79792266297612001 := by
 have a1 : p ^ k ≤ 7 ^ k := Nat.pow_le_pow_left h2 k
 have a2 : 7 ^ k ≤ 7 ^ 20 := Nat.pow_le_pow_right (by omega) hk
 have a3 : 1 ≤ p ^ k := Nat.pow_pos (by omega)
 have a4 : 7 ^ 20 = 79792266297612001 := by decide
 omega
end Go.Proofs.Ytobcdekochenfaa
namespace Go.Proofs.Ytobcdekochenfaa
open Go.RowKit
set_option linter.unusedVariables false
set_option linter.unusedSimpArgs false
theorem norm_any (p n : Nat) (w : World) (hp1 : 2 ≤ p) (hp2 : p ≤ 7) (hn : n ≤ 20) :
 Calls Try.prog 135 #[.int .i64 (p : Int), .int .i64 (n : Int)] w fun e w' => e = .returned (.int .i64 ((p ^ n : Nat) : Int)) ∧ w = w' := by
 go_enter Try.func135, Try.ntmps135
 go_wp2_with fail
 go_loopw [5, 7] (fun x i wr => ∃ k X : Nat, k ≤ n ∧ X = p ^ k ∧ x = .int .i64 (X : Int) ∧ i = .int .i64 (k : Int) ∧ wr = w) (fun _ i _ => n - (intOf i).toNat)
 case atStart => exact ⟨0, 1, by omega, rfl, rfl, rfl, rfl⟩
 case round =>
  obtain ⟨k, X, hk, hX, rfl, rfl, rfl⟩ := hrel
  obtain ⟨x1, x2⟩ := pow_big (p := p) (k := k) (by omega) hp2 (by omega)
  rw [← hX] at x1 x2
  by_cases hlt : k < n
  · obtain ⟨y1, y2⟩ := pow_big (p := p) (k := k + 1) (by omega) hp2 (by omega)
    rw [Nat.pow_succ, ← hX] at y1 y2
    have HX := Lib.hid hX; clear hX
    have z1 : ((X * p : Nat) : Int) ≤ 79792266297612001 := by omega
    have z2 : 1 ≤ ((X * p : Nat) : Int) := by omega
    rw [Int.natCast_mul] at z1 z2
    clear y1 y2
    go_wp2_with fail
    go_roundw
    case rel => exact ⟨k + 1, X * p, by omega, by rw [Nat.pow_succ, ← HX.out], by go_num, by go_num, trivial⟩
    case measure => simp [intOf]; omega
  · have e : k = n := by omega
    subst e
    have HX := Lib.hid hX; clear hX
    go_wp2_with fail
    go_ret
    exact ⟨ret_int (congrArg (fun x : Nat => (x : Int)) HX.out), rfl⟩
theorem prime_four {p : Nat} (h : okP (p : Int) = true) : p = 2 ∨ p = 3 ∨ p = 5 ∨ p = 7 := by
 rcases okP_cases h with h | h | h | h <;> omega
end Go.Proofs.Ytobcdekochenfaa
namespace Go.Proofs.Ytobcdekochenfaa
open Go Go.RowKit
set_option linter.unusedVariables false
/-- v is a slice of the rows cs, each of so many cells, in a block from base on (or nil) -/
def SlL (w : World) (base : Nat) (e : TypeId) (size : Nat) (v : Value) (cs : List (List Value)) : Prop := base ≤ w.heap.size ∧ (∀ c ∈ cs, c.length = size) ∧ w.ownsRow base e size v cs.length cs.flatten
theorem SlL.lt {w : World} {base : Nat} {e : TypeId} {size : Nat} {v : Value} {cs : List (List Value)} (h : SlL w base e size v cs) : base ≤ w.heap.size := h.1
theorem SlL.nil {w : World} {base : Nat} (e : TypeId) (size : Nat) (h : base ≤ w.heap.size) : SlL w base e size (.slice none 0 0) [] := ⟨h, by simp, World.ownsRow_nil _ _ _ _⟩
theorem SlL.grown {w w' : World} {base : Nat} {e : TypeId} {size : Nat} {v : Value} {cs : List (List Value)} {row : Option Nat} (h : SlL w base e size v cs) (hg : w.grownBy w' row) (hr : ∀ r, row = some r → r < base) : SlL w' base e size v cs :=
 ⟨Nat.le_trans h.1 hg.size, h.2.1, h.2.2.kept hg (by
  cases hv : v.ownBlock with
  | none => exact .inl rfl
  | some k =>
   right
   intro he
   have h1 := (h.2.2.lt k hv).1
   have h2 := hr k he.symm
   omega)⟩
theorem SlL.alloc {w : World} {base : Nat} {e : TypeId} {size : Nat} {v : Value} {cs : List (List Value)} (h : SlL w base e size v cs) (o : Obj) : SlL (w.alloc o) base e size v cs := h.grown (World.grownBy_alloc w o none) (fun r e => by cases e)
theorem SlL.drew {w : World} {base : Nat} {e : TypeId} {size : Nat} {v : Value} {cs : List (List Value)} (h : SlL w base e size v cs) : SlL w.drew base e size v cs := h
theorem SlL.below {w w' : World} {base : Nat} {e : TypeId} {size : Nat} {v : Value} {cs : List (List Value)} (h : SlL w base e size v cs) (hb : Below w.heap.size w w') (_ : base ≤ w.heap.size) : SlL w' base e size v cs :=
 h.grown (row := none) ⟨hb.os, hb.tape, hb.output, hb.size, fun k hk _ => hb.block k hk⟩ (fun r e => by cases e)
theorem SlL.zw {w w' : World} {base : Nat} {e : TypeId} {size : Nat} {v : Value} {cs : List (List Value)} (h : SlL w base e size v cs) (hb : Below w.heap.size w w') : SlL w' base e size v cs := SlL.below h hb (SlL.lt h)
theorem SlL.rowOther {w : World} {base : Nat} {e : TypeId} {size : Nat} {v : Value} {cs : List (List Value)} (h : SlL w base e size v cs) {k : Nat} {xs : Array Value} (hk : k < base) : SlL (w.setRow k xs) base e size v cs :=
 h.grown (row := some k) ⟨rfl, rfl, rfl, by simp [World.setRow], fun j _ hj => setRow_other _ _ _ _ (fun e => hj (by rw [e]))⟩ (fun r e => by cases e; exact hk)
theorem SlL.setOther {w : World} {base : Nat} {e : TypeId} {size : Nat} {v x : Value} {cs : List (List Value)} (h : SlL w base e size v cs) {a : Addr} (ha : a.block < base) : SlL (w.setCell a x) base e size v cs :=
 ⟨by simpa using h.1, h.2.1, ownsRow_setCell_below h.2.2 ha x⟩
theorem SlL.own {w : World} {base : Nat} {e : TypeId} {size : Nat} {v : Value} {cs : List (List Value)} (h : SlL w base e size v cs) : ∀ r, v.ownBlock = some r → base ≤ r := fun r hr => (h.2.2.lt r hr).1
theorem SlL.shape {w : World} {base : Nat} {e : TypeId} {size : Nat} {v : Value} {cs : List (List Value)} (h : SlL w base e size v cs) : (v = .slice none 0 0 ∧ cs = []) ∨ ∃ g cap, v = .slice (some ⟨g, 0, none⟩) cs.length cap := by
 obtain ⟨_, _, _, h | ⟨g, cap, cur, rfl, _⟩⟩ := h
 · exact .inl ⟨h.1, List.eq_nil_of_length_eq_zero h.2⟩
 · exact .inr ⟨g, cap, rfl⟩
theorem flat_at : ∀ (cs : List (List Value)) (size i : Nat) (c : List Value) (j : Nat) (u : Value), (∀ c ∈ cs, c.length = size) → cs[i]? = some c → c[j]? = some u → cs.flatten[i * size + j]? = some u
 | [], _, _, _, _, _, _, h, _ => by simp at h
 | g :: cs, size, 0, c, j, u, _, h, hj => by
  simp only [List.getElem?_cons_zero, Option.some.injEq] at h
  subst h
  rw [List.flatten_cons, Nat.zero_mul, Nat.zero_add, List.getElem?_append_left (List.getElem?_eq_some_iff.1 hj).1]
  exact hj
 | g :: cs, size, i + 1, c, j, u, hs, h, hj => by
  have hg : g.length = size := hs g (by simp)
  have e1 : (i + 1) * size = i * size + size := Nat.succ_mul i size
  rw [List.flatten_cons, List.getElem?_append_right (by rw [hg]; omega), hg]
  have := flat_at cs size i c j u (fun c hc => hs c (by simp [hc])) (by simpa using h) hj
  rw [show (i + 1) * size + j - size = i * size + j by omega]
  exact this
/-- the cells of one element -/
theorem SlL.range {w : World} {base : Nat} {e : TypeId} {size g n cap : Nat} {cs : List (List Value)} (h : SlL w base e size (.slice (some ⟨g, 0, none⟩) n cap) cs) {i : Nat} {c : List Value} (hi : cs[i]? = some c) : w.rangeAt g (i * size) c := by
 intro j u hu
 obtain ⟨_, hs, hl, h | ⟨g', cap', cur, hv, hg, hh, h1, h2, h3, h4⟩⟩ := h
 · cases h.1
 · injection hv with e1 e2 e3
   injection e1 with e1
   injection e1 with e1
   subst e1
   rw [cell_of_row _ _ _ _ _ _ hh]
   have hc : cs.flatten[i * size + j]? = some u := flat_at cs size i c j u hs hi hu
   rw [← h4] at hc
   have hlt : i * size + j < cs.length * size := by
    have := (List.getElem?_eq_some_iff.1 hc).1
    rw [List.length_take] at this
    omega
   rw [List.getElem?_take_of_lt hlt] at hc
   rw [← Array.getElem?_toList]
   exact hc
theorem One.row {w : World} {b : Nat} {t : TypeId} {v : Value} (h : One w b t v) (u : Value) : One (w.setRow b #[u]) b t u := by
 unfold One at *
 exact setRow_heap _ _ _ _ _ _ h
/-- what lies below the slice's block stays -/
theorem Blk.grownO {w w' : World} {b n : Nat} {t : TypeId} {f : Nat → Nat} {row : Option Nat} (h : Blk w b n t f) (hg : w.grownBy w' row) {base : Nat} (hr : ∀ r, row = some r → base ≤ r) (e : b < base) : Blk w' b n t f := by
 have hl := h.lt
 unfold Blk at *; rw [hg.block b hl (fun x => by have := hr b x.symm; omega)]; exact h
theorem One.grownO {w w' : World} {b : Nat} {t : TypeId} {v : Value} {row : Option Nat} (h : One w b t v) (hg : w.grownBy w' row) {base : Nat} (hr : ∀ r, row = some r → base ≤ r) (e : b < base) : One w' b t v :=
 h.of (hg.block b h.lt (fun x => by have := hr b x.symm; omega))
theorem SlL.one {w : World} {base : Nat} {e : TypeId} {size : Nat} {v : Value} {cs : List (List Value)} (h : SlL w base e size v cs) : v.oneCell' = true := by
 rcases h.shape with ⟨rfl, _⟩ | ⟨g, cap, rfl⟩ <;> rfl
theorem SlL.base {w : World} {base base' : Nat} {e : TypeId} {size : Nat} {v : Value} {cs : List (List Value)} (h : SlL w base e size v cs) (hb : base' ≤ base) : SlL w base' e size v cs := ⟨Nat.le_trans hb h.1, h.2.1, by
 obtain ⟨_, _, hl, h | ⟨g, cap, cur, hv, hg', r⟩⟩ := h
 · exact ⟨hl, .inl h⟩
 · exact ⟨hl, .inr ⟨g, cap, cur, hv, Nat.le_trans hb hg', r⟩⟩⟩
/-- .. whose block lies below top -/
def SlT (w : World) (base top : Nat) (e : TypeId) (size : Nat) (v : Value) (cs : List (List Value)) : Prop := SlL w base e size v cs ∧ ∀ r, v.ownBlock = some r → r < top
theorem SlL.top {w : World} {base : Nat} {e : TypeId} {size : Nat} {v : Value} {cs : List (List Value)} (h : SlL w base e size v cs) : SlT w base w.heap.size e size v cs := ⟨h, fun r hr => (h.2.2.lt r hr).2⟩
theorem SlT.lt {w : World} {base top : Nat} {e : TypeId} {size : Nat} {v : Value} {cs : List (List Value)} (h : SlT w base top e size v cs) : base ≤ w.heap.size := h.1.1
theorem SlT.alloc {w : World} {base top : Nat} {e : TypeId} {size : Nat} {v : Value} {cs : List (List Value)} (h : SlT w base top e size v cs) (o : Obj) : SlT (w.alloc o) base top e size v cs := ⟨h.1.alloc o, h.2⟩
theorem SlT.drew {w : World} {base top : Nat} {e : TypeId} {size : Nat} {v : Value} {cs : List (List Value)} (h : SlT w base top e size v cs) : SlT w.drew base top e size v cs := h
theorem SlT.below {w w' : World} {base top : Nat} {e : TypeId} {size : Nat} {v : Value} {cs : List (List Value)} (h : SlT w base top e size v cs) (hb : Below w.heap.size w w') (hl : base ≤ w.heap.size) : SlT w' base top e size v cs := ⟨h.1.below hb hl, h.2⟩
theorem SlT.zw {w w' : World} {base top : Nat} {e : TypeId} {size : Nat} {v : Value} {cs : List (List Value)} (h : SlT w base top e size v cs) (hb : Below w.heap.size w w') : SlT w' base top e size v cs := SlT.below h hb (SlT.lt h)
theorem SlT.rowOther {w : World} {base top : Nat} {e : TypeId} {size : Nat} {v : Value} {cs : List (List Value)} (h : SlT w base top e size v cs) {k : Nat} {xs : Array Value} (hk : k < base ∨ top ≤ k) : SlT (w.setRow k xs) base top e size v cs :=
 ⟨⟨by simpa [World.setRow] using h.1.1, h.1.2.1, h.1.2.2.kept (row := some k) ⟨rfl, rfl, rfl, by simp [World.setRow], fun j _ hj => setRow_other _ _ _ _ (fun e => hj (by rw [e]))⟩ (by
  cases hv : v.ownBlock with
  | none => exact .inl rfl
  | some j =>
   right
   intro he
   cases he
   have h1 := (h.1.2.2.lt k hv).1
   have h2 := h.2 k hv
   omega)⟩, h.2⟩
theorem SlT.setOther {w : World} {base top : Nat} {e : TypeId} {size : Nat} {v x : Value} {cs : List (List Value)} (h : SlT w base top e size v cs) {a : Addr} (ha : a.block < base ∨ top ≤ a.block) : SlT (w.setCell a x) base top e size v cs :=
 ⟨⟨by simpa using h.1.1, h.1.2.1, h.1.2.2.kept (row := some a.block) ⟨((Below.refl 0 w).setCell (Nat.zero_le _) x).os, ((Below.refl 0 w).setCell (Nat.zero_le _) x).tape, ((Below.refl 0 w).setCell (Nat.zero_le _) x).output, by simp, fun j _ hj => Below.heap_setCell _ _ _ _ (fun e => hj (by rw [e]))⟩ (by
  cases hv : v.ownBlock with
  | none => exact .inl rfl
  | some j =>
   right
   intro he
   have he2 : j = a.block := by injection he
   subst he2
   have h1 := (h.1.2.2.lt a.block hv).1
   have h2 := h.2 a.block hv
   omega)⟩, h.2⟩
theorem SlL.some {w : World} {base : Nat} {e : TypeId} {size n cap : Nat} {ad : Option Addr} {cs : List (List Value)} (h : SlL w base e size (.slice ad n cap) cs) (hn : 0 < cs.length) : ∃ g, ad = some ⟨g, 0, none⟩ := by
 rcases h.shape with ⟨_, h2⟩ | ⟨g, cap', h1⟩
 · rw [h2] at hn; simp at hn
 · injection h1 with h1; exact ⟨g, h1⟩
/-- block b is the row cs -/
def Row (w : World) (b : Nat) (t : TypeId) (cs : Array Value) : Prop := w.heap[b]? = some (.cells cs t (0, 0))
theorem Row.new (w : World) (t : TypeId) (cs : Array Value) : Row (w.alloc (.cells cs t)) w.heap.size t cs := heap_alloc_last w _
theorem Row.lt {w : World} {b : Nat} {t : TypeId} {cs : Array Value} (h : Row w b t cs) : b < w.heap.size := by
 unfold Row at h
 exact (Array.getElem?_eq_some_iff.1 h).1
theorem Row.of {w w' : World} {b : Nat} {t : TypeId} {cs : Array Value} (h : Row w b t cs) (e : w'.heap[b]? = w.heap[b]?) : Row w' b t cs := by unfold Row at *; rw [e]; exact h
theorem Row.alloc {w : World} {b : Nat} {t : TypeId} {cs : Array Value} (h : Row w b t cs) (o : Obj) : Row (w.alloc o) b t cs := h.of (Below.heap_alloc _ _ _ h.lt)
theorem Row.drew {w : World} {b : Nat} {t : TypeId} {cs : Array Value} (h : Row w b t cs) : Row w.drew b t cs := h
theorem Row.below {w w' : World} {B b : Nat} {t : TypeId} {cs : Array Value} (h : Row w b t cs) (hb : Below B w w') (e : b < B) : Row w' b t cs := h.of (hb.block b e)
theorem Row.zw {w w' : World} {b : Nat} {t : TypeId} {cs : Array Value} (h : Row w b t cs) (hb : Below w.heap.size w w') : Row w' b t cs := Row.below h hb (Row.lt h)
theorem Row.rowOther {w : World} {b : Nat} {t : TypeId} {cs : Array Value} (h : Row w b t cs) {j : Nat} {xs : Array Value} (e : b ≠ j) : Row (w.setRow j xs) b t cs := h.of (setRow_other _ _ _ _ e)
theorem Row.setOther {w : World} {b : Nat} {t : TypeId} {cs : Array Value} {x : Value} (h : Row w b t cs) {a : Addr} (e : b ≠ a.block) : Row (w.setCell a x) b t cs := h.of (heap_setCell_other _ _ _ _ e)
theorem Row.row {w : World} {b : Nat} {t : TypeId} {cs : Array Value} (h : Row w b t cs) (xs : Array Value) : Row (w.setRow b xs) b t xs := by
 unfold Row at *
 exact setRow_heap _ _ _ _ _ _ h
theorem Row.cell {w : World} {b : Nat} {t : TypeId} {cs : Array Value} (h : Row w b t cs) {i : Nat} {v : Value} (hi : cs[i]? = some v) : w.cell? ⟨b, i, none⟩ = some v := by
 rw [cell_of_row _ _ _ _ _ _ h]; exact hi
theorem Row.frozen {w : World} {b : Nat} {t : TypeId} {cs : Array Value} (h : Row w b t cs) (i : Nat) : w.frozen? ⟨b, i, none⟩ = false := frozen_of_row _ _ _ _ _ h
theorem Row.set {w : World} {b i : Nat} {t : TypeId} {cs : Array Value} {x : Value} (h : Row w b t cs) : Row (w.setCell ⟨b, i, none⟩ x) b t (cs.setIfInBounds i x) := by
 unfold Row at *
 rw [heap_setCell_same _ _ _ _ _ _ h]
theorem Row.range {w : World} {b : Nat} {t : TypeId} {c : List Value} (h : Row w b t c.toArray) : w.rangeAt b 0 c := by
 intro j v hv
 rw [Nat.zero_add, cell_of_row _ _ _ _ _ _ h]
 simpa using hv
attribute [irreducible] Row
attribute [irreducible] SlL
end Go.Proofs.Ytobcdekochenfaa
namespace Go.Proofs.Ytobcdekochenfaa
open Go Go.RowKit
set_option linter.unusedVariables false
/-- the fence of a round of loop l -/
abbrev WR (l : Nat) : Fence := Fence.wide.inRound l
theorem rowsW {n : Nat} {P : Program} {row : String} {args : Array Value} {w : World} {R : Value → World → Prop} {l : Nat} (h : Rows P row args w R) : RowsIn (WR l) n P row args w R := fun c cs _ =>
 let ⟨v, w', r, s⟩ := h c cs
 ⟨v, w', r, stepsIn_wide.2 s⟩
theorem operIn_of {l n : Nat} {P : Program} {o : Oper} {a : Act} {w : World} {K : Act → World → Prop} {Q : Exit → Act → World → Prop} (hnd : ∀ c, o.op ≠ .defer c) (h : o.wp P a w K Q) : o.wpIn (WR l) n P a w K Q := by
 unfold Oper.wp at h
 unfold Oper.wpIn
 refine ⟨fun f _ => trivial, ?_⟩
 rw [show (WR l).round = some l from rfl, Oper.semAt_some l _ _ hnd]
 generalize (execOp a.eval o).run P w = r at *
 cases r with
 | ok x w' =>
  cases x with
  | value v => exact h
  | skip => exact h
  | defer d => exact h
  | enter f args => exact ⟨(fun hd => by cases hd), ((callsIn_wide (n := n - 1)).2 h).inRound l⟩
  | row row args => exact ⟨(fun hd => by cases hd), rowsW h⟩
  | _ => exact h.elim
 | halt x w' =>
  cases x with
  | panic v => exact h
  | _ => exact h.elim
def ndOp (o : Oper) : Bool := match o.op with | .defer _ => false | _ => true
theorem nd_of {os : List Oper} (h : os.all ndOp = true) : ∀ o ∈ os, ∀ c, o.op ≠ .defer c := by
 intro o ho c e
 have := List.all_eq_true.1 h o ho
 unfold ndOp at this
 rw [e] at this
 cases this
/-- what is no cells from B on lies as it lay -/
def KF (B : Nat) (W W' : World) : Prop := KeepsFrom B W W'
theorem KF.refl (B : Nat) (W : World) : KF B W W := KeepsFrom.refl B W
theorem KF.lt {B : Nat} {W W' : World} (h : KF B W W') : W.heap.size ≤ W'.heap.size := h.size
theorem KF.below {B : Nat} {W W1 W2 : World} (h : KF B W W1) (hb : Below W1.heap.size W1 W2) (_ : W.heap.size ≤ W1.heap.size) : KF B W W2 :=
 KeepsFrom.trans h ⟨hb.size, fun k _ _ hk _ => (hb.block k (Array.getElem?_eq_some_iff.1 hk).1).trans hk⟩
theorem KF.zw {B : Nat} {W W1 W2 : World} (h : KF B W W1) (hb : Below W1.heap.size W1 W2) : KF B W W2 := KF.below h hb (KF.lt h)
theorem KF.alloc {B : Nat} {W W1 : World} (h : KF B W W1) (o : Obj) : KF B W (W1.alloc o) := h.below (zal _ _) h.size
theorem KF.drew {B : Nat} {W W1 : World} (h : KF B W W1) : KF B W W1.drew := ⟨h.size, h.same⟩
theorem KF.rowOther {B : Nat} {W W1 : World} (h : KF B W W1) {k : Nat} {cs : Array Value} (e : k < B ∨ W.heap.size ≤ k) : KF B W (W1.setRow k cs) :=
 ⟨by simpa [World.setRow] using h.size, fun j o hB hj ho => by
  have hlt := (Array.getElem?_eq_some_iff.1 hj).1
  rw [setRow_other _ _ _ _ (by omega)]
  exact h.same j o hB hj ho⟩
theorem KF.grown {B : Nat} {W W1 W2 : World} {row : Option Nat} (h : KF B W W1) (hg : W1.grownBy W2 row) (hr : ∀ r, row = some r → ∃ cur t f, W1.heap[r]? = some (.cells cur t f)) : KF B W W2 :=
 KeepsFrom.trans h ⟨hg.size, fun k o _ hk ho => (hg.block k (Array.getElem?_eq_some_iff.1 hk).1 (fun e => by
  obtain ⟨cur, t, f, hc⟩ := hr k e.symm
  rw [hk] at hc; cases hc; cases ho)).trans hk⟩
/-- the block for deferred calls -/
def DF (W : World) (D : Nat) : Prop := W.heap[D]? = some (.deferred (some []))
theorem DF.lt {W : World} {D : Nat} (h : DF W D) : D < W.heap.size := (Array.getElem?_eq_some_iff.1 h).1
theorem DF.of {W W' : World} {D : Nat} (h : DF W D) (e : W'.heap[D]? = W.heap[D]?) : DF W' D := by unfold DF at *; rw [e]; exact h
theorem DF.below {W W' : World} {B D : Nat} (h : DF W D) (hb : Below B W W') (e : D < B) : DF W' D := h.of (hb.block D e)
theorem DF.zw {W W' : World} {D : Nat} (h : DF W D) (hb : Below W.heap.size W W') : DF W' D := DF.below h hb (DF.lt h)
theorem DF.alloc {W : World} {D : Nat} (h : DF W D) (o : Obj) : DF (W.alloc o) D := h.below (zal _ _) h.lt
theorem DF.drew {W : World} {D : Nat} (h : DF W D) : DF W.drew D := h
theorem DF.rowOther {W : World} {D k : Nat} {cs : Array Value} (h : DF W D) (e : D ≠ k) : DF (W.setRow k cs) D := h.of (setRow_other _ _ _ _ e)
theorem DF.grown {W W1 : World} {D : Nat} {row : Option Nat} (h : DF W D) (hg : W.grownBy W1 row) (hr : ∀ r, row = some r → ∃ cur t f, W.heap[r]? = some (.cells cur t f)) : DF W1 D :=
 h.of (hg.block D h.lt (fun e => by
  obtain ⟨cur, t, f, hc⟩ := hr D e.symm
  unfold DF at h
  rw [h] at hc; cases hc))
theorem listIn_of {l n : Nat} {P : Program} {ops : Array Oper} {Q : Exit → Act → World → Prop} (hQ : ∀ a w, ¬ Q .outgrown a w) : ∀ (rest : List Oper) (a : Act) (w : World), (∀ o ∈ rest, ∀ c, o.op ≠ .defer c) → wpList P ops Q rest a w → wpListIn (WR l) n P ops Q rest a w
 | [], _, _, _, h => h
 | o :: rest, a, w, hnd, h => by
  unfold wpList at h
  unfold wpListIn
  by_cases hw : Region.wanted o (yielded ops a.tmps) = true
  · rw [if_pos hw] at h ⊢
    rcases h with h | ⟨_, a', w', h⟩
    · exact Oper.wpIn_mono (fun a w hr => listIn_of hQ rest a w (fun o ho => hnd o (by simp [ho])) hr) (operIn_of (hnd o (by simp)) h)
    · exact absurd h (hQ a' w')
  · rw [if_neg hw] at h ⊢
    exact ⟨fun f _ => trivial, listIn_of hQ rest _ w (fun o ho => hnd o (by simp [ho])) h⟩
theorem regionIn_of {l n : Nat} {P : Program} {id : Nat} {os : List Oper} {Q : Exit → Act → World → Prop} {a : Act} {w : World} (hnd : ∀ o ∈ os, ∀ c, o.op ≠ .defer c) (hQ : ∀ a w, ¬ Q .outgrown a w) (h : wpList P os.toArray Q os a w) :
 (Code.region id os.toArray false).wpIn (WR l) n P Q a w := wpIn_region_list (by simpa using listIn_of hQ os a w hnd h)
theorem anyIn_of {l n : Nat} {P : Program} {md : Region.Mode} {ops : Array Oper} {Q : Exit → Act → World → Prop} (hQ : ∀ a w, ¬ Q .outgrown a w) (hnd : ∀ (i : Nat) (o : Oper), ops[i]? = some o → ∀ c, o.op ≠ .defer c) : ∀ (fuel : Nat) (listed : Array Bool) (a : Act) (w : World), wpAny P md ops Q fuel listed a w → wpAnyIn (WR l) n P md ops Q fuel listed a w
 | 0, _, _, _, h => h
 | fuel + 1, listed, a, w, h => ⟨h.1, fun i hi => by
  have h2 := h.2 i hi
  unfold wpOp at h2
  unfold wpOpIn
  cases ho : ops[i]? with
  | none => rw [ho] at h2; exact anyIn_of hQ hnd fuel _ a w h2
  | some o =>
   rw [ho] at h2
   simp only at h2 ⊢
   by_cases hw : Region.wanted o (yielded ops a.tmps) = true
   · rw [if_pos hw] at h2 ⊢
     rcases h2 with h2 | ⟨_, a', w', h2⟩
     · exact Oper.wpIn_mono (fun a w hr => anyIn_of hQ hnd fuel _ a w hr) (operIn_of (hnd i o ho) h2)
     · exact absurd h2 (hQ a' w')
   · rw [if_neg hw] at h2 ⊢
     exact ⟨fun f _ => trivial, anyIn_of hQ hnd fuel _ _ w h2⟩⟩
/-- a region that draws its order, in a round -/
theorem wpIn_region_steps0 {l n : Nat} {P : Program} {Q : Exit → Act → World → Prop} {os : List Oper} {id : Nat} {a0 : Act} {w : World} (hQ : ∀ a w, ¬ Q .outgrown a w) (hnd : ∀ o ∈ os, ∀ c, o.op ≠ .defer c) (hm : P.follows .mixedOrders = true) (hd : dstsOkL os = true) (he : edgesOk os.toArray = true)
 {F : (Nat → Value) → Act} (hF : ∀ v, frL a0 os 0 v = F v)
 (Ψ : (Nat → Bool) → (Nat → Value) → World → Prop) (h0 : ∀ v, (∀ i, v i = ((os[i]?.bind (·.dst)).map fun t => a0.tmps.getD t undef).getD undef) → Ψ (fun _ => false) v w.drew)
 (hstep : Steps P os.toArray Q F Ψ os 0)
 (hend : ∀ L v w, (∀ i, i < os.length → L i = true) → Ψ L v w → Q .normal (F v) w) : (Code.region id os.toArray true).wpIn (WR l) n P Q a0 w := by
 refine wpIn_region_any hm (anyIn_of hQ (fun i o ho => hnd o (by
  have : os[i]? = some o := by simpa using ho
  exact List.mem_of_getElem? this)) _ _ _ _ ?_)
 have hstep' : ∀ i o, os.toArray[i]? = some o → StepOk P os.toArray Q a0 Ψ i o := by
  intro i o ho
  obtain ⟨hg, hs⟩ := steps_of _ _ hstep i o (by simpa using ho)
  rw [Nat.zero_add] at hs
  intro L v w h1 h2 h3 K hK
  have hw : Region.wanted o (yielded os.toArray (fr a0 os.toArray v).tmps) = true := by simp [Region.wanted, hg]
  rw [if_pos hw]
  have hf : fr a0 os.toArray v = F v := hF v
  rw [hf] at hK ⊢
  exact hs L v w h1 h2 h3 K hK
 have hfr : fr a0 os.toArray (fun i => ((os[i]?.bind (·.dst)).map fun t => a0.tmps.getD t undef).getD undef) = a0 := by
  refine frL_start _ _ _ _ fun i o ho => ?_
  have ho' : os[i]? = some o := by simpa using ho
  simp [ho']
 have key := wpAny_inv (P := P) (Q := Q) (by simpa using hd) he hstep' (fun L v w hL hΨ => by
  have hf : fr a0 os.toArray v = F v := hF v
  rw [hf]
  exact hend L v w (by simpa using hL) hΨ) os.toArray.size (Array.replicate os.toArray.size false) (fun i => ((os[i]?.bind (·.dst)).map fun t => a0.tmps.getD t undef).getD undef) w.drew (by simp) (by simp) (by
  have e : (fun j => (Array.replicate os.toArray.size false).getD j false) = fun _ => false := by
   funext j; simp [Array.getD]
  rw [e]; exact h0 _ (fun _ => rfl)) (by
  intro j p _ hj
  simp [Array.getD] at hj)
 rw [hfr] at key
 exact key
end Go.Proofs.Ytobcdekochenfaa
end
section
namespace Go.Proofs.Ytobcdekochenfaa
open Go Go.RowKit Go.Shelf
set_option linter.unusedVariables false
set_option linter.unusedSimpArgs false
attribute [local go_sem] Oper.semAt_some
/-- what numbered hands back -/
def NumF (p a b : Nat) (w : World) (e : Ending) (w' : World) : Prop := ∃ ba bb bp, e = .returned (.func (.func 216) #[] #[.pointer (some ⟨ba, 0, none⟩), .pointer (some ⟨bb, 0, none⟩), .pointer (some ⟨bp, 0, none⟩)]) ∧ w.heap.size ≤ ba ∧ w.heap.size ≤ bb ∧ w.heap.size ≤ bp ∧ One w' ba 2 (.int .i64 (a : Int)) ∧ One w' bb 2 (.int .i64 (b : Int)) ∧ One w' bp 2 (.int .i64 (p : Int)) ∧ Below w.heap.size w w'
set_option maxRecDepth 100000 in
theorem numbered_any (p a b : Nat) (w : World) : Calls Try.prog 176 #[.int .i64 (p : Int), .int .i64 (a : Int), .int .i64 (b : Int)] w (NumF p a b w) := by
 have hmf : ∀ (fn : Fn) (first cap : Array Value) (w : World), (Instr.makeFunc fn first cap).run Try.prog w = .ok (.func fn first cap) w := fun _ _ _ _ => rfl
 go_enter Try.func176, Try.ntmps176
 go_wp2_with fail
 go_ret
 refine ⟨_, _, _, rfl, by first | omega | simp, by first | omega | (simp; done) | (simp; omega), Nat.le_refl _, ?_, ?_, ?_, (((Below.refl _ _).alloc (Nat.le_refl _) _).alloc (by simp) _).alloc (by simp; omega) _⟩
 · have := (One.new (w.alloc (.cells #[.int .i64 (p : Int)] 2)) 2 (.int .i64 (a : Int))).alloc (.cells #[.int .i64 (b : Int)] 2)
   simpa using this
 · have := One.new ((w.alloc (.cells #[.int .i64 (p : Int)] 2)).alloc (.cells #[.int .i64 (a : Int)] 2)) 2 (.int .i64 (b : Int))
   simpa using this
 · exact ((One.new w 2 _).alloc _).alloc _
set_option maxRecDepth 100000 in
theorem monics_any (p n : Nat) (w : World) (hp1 : 2 ≤ p) (hp2 : p ≤ 7) (hn : n ≤ 12) : Calls Try.prog 137 #[.int .i64 (p : Int), .int .i64 (n : Int)] w (NumF p (p ^ n) (p ^ n + p ^ n) w) := by
 obtain ⟨q, hq⟩ : ∃ q, q = p ^ n := ⟨_, rfl⟩
 have hq1 : q ≤ 13841287201 := by
  rw [hq]
  have h1 : p ^ n ≤ 7 ^ n := Nat.pow_le_pow_left hp2 n
  have h2 : 7 ^ n ≤ 7 ^ 12 := Nat.pow_le_pow_right (by decide) hn
  have h3 : (7 : Nat) ^ 12 = 13841287201 := by decide
  omega
 have HNM := Lib.hid (fun W => norm_any p n W hp1 hp2 (by omega))
 rw [← hq] at HNM ⊢
 have HNB := Lib.hid (fun W => numbered_any p q (q + q) W)
 have H2 := Lib.hid (show (2 : Int) * (q : Int) = ((q + q : Nat) : Int) by omega)
 clear hq
 go_enter Try.func137, Try.ntmps137
 go_wp2_with (first | (go_at_call 135; refine (HNM.out _).mono ?_; rintro e w2 ⟨rfl, rfl⟩) | (go_at_call 176; rw [H2.out]; refine (HNB.out _).mono ?_; rintro e w2 ⟨ba, bb, bp, rfl, r1, r2, r3, C0, C1, C2, hB⟩))
 go_ret
 exact ⟨ba, bb, bp, rfl, r1, r2, r3, C0, C1, C2, hB⟩
/-- the numbers from a on, k of them -/
abbrev NumN (a k : Nat) := { N : Nat // N ∈ List.range' a k }
/-- a monic polynomial's number -/
abbrev MonN (p n : Nat) := NumN (p ^ n) (p ^ n)
def vals {a k : Nat} (l : List (NumN a k)) : List Nat := l.map (·.1)
theorem vals_nil {a k : Nat} : vals ([] : List (NumN a k)) = [] := rfl
theorem vals_snoc {a k : Nat} (l : List (NumN a k)) (x : NumN a k) : vals (l ++ [x]) = vals l ++ [x.1] := by simp [vals]
theorem vals_len {a k : Nat} (l : List (NumN a k)) : (vals l).length = l.length := by simp [vals]
def numEnc (p a k : Nat) (x : NumN a k) : Array Value := #[.agg (zb 64 (ofN p x.1))]
/-- the captured cells stay -/
def KpN (ba bb bp : Nat) (W W' : World) : Prop := W'.heap[ba]? = W.heap[ba]? ∧ W'.heap[bb]? = W.heap[bb]? ∧ W'.heap[bp]? = W.heap[bp]?
theorem KpN.refl (ba bb bp : Nat) (W : World) : KpN ba bb bp W W := ⟨rfl, rfl, rfl⟩
theorem KpN.trans {ba bb bp : Nat} {A B C : World} (h : KpN ba bb bp A B) (k : KpN ba bb bp B C) : KpN ba bb bp A C := ⟨k.1.trans h.1, k.2.1.trans h.2.1, k.2.2.trans h.2.2⟩
theorem KpN.put {ba bb bp : Nat} {w : World} (h0 : ba < w.heap.size) (h1 : bb < w.heap.size) (h2 : bp < w.heap.size) (W : World) (l : Nat) (o o' : Obj) (hl : w.heap.size ≤ l) (_ : W.heap[l]? = some o) (_ : o.isCells = false) (_ : o.isWalk = false) : KpN ba bb bp W (W.putObj l o') :=
 ⟨World.putObj_heap_other (by omega), World.putObj_heap_other (by omega), World.putObj_heap_other (by omega)⟩
theorem One.same {w w' : World} {b : Nat} {t : TypeId} {v : Value} (h : One w b t v) (h' : One w' b t v) : w'.heap[b]? = w.heap[b]? := by unfold One at *; rw [h, h']
theorem range_snoc (a k : Nat) : List.range' a (k + 1) = List.range' a k ++ [a + k] := by
 rw [List.range'_concat]; simp
theorem mon_bound {p n : Nat} (hp2 : p ≤ 7) (hn : n ≤ 12) : p ^ n ≤ 13841287201 := by
 have h1 : p ^ n ≤ 7 ^ n := Nat.pow_le_pow_left hp2 n
 have h2 : 7 ^ n ≤ 7 ^ 12 := Nat.pow_le_pow_right (by decide) hn
 have h3 : (7 : Nat) ^ 12 = 13841287201 := by decide
 omega
theorem below_grown {w w' : World} (h : Below w.heap.size w w') : w.grownBy w' none := ⟨h.os, h.tape, h.output, h.size, fun k hk _ => h.block k hk⟩
set_option maxRecDepth 100000 in
set_option maxHeartbeats 1600000 in
theorem numbered1_stops (m p a q : Nat) (hp1 : 2 ≤ p) (hp2 : p ≤ 7) (ha : a ≤ 13841287201) (hq : q ≤ 13841287201) (ba bb bp : Nat) (w : World) (B0 : One w ba 2 (.int .i64 (a : Int))) (B1 : One w bb 2 (.int .i64 ((a + q : Nat) : Int))) (B2 : One w bp 2 (.int .i64 (p : Int))) :
 SeqStopsK Fence.wide m Try.prog 216 #[.pointer (some ⟨ba, 0, none⟩), .pointer (some ⟨bb, 0, none⟩), .pointer (some ⟨bp, 0, none⟩)] (numEnc p a q) (KpN ba bb bp) (fun ys => vals ys = List.range' a q) (fun pre => vals pre <+: List.range' a q) q w := by
 intro l J Jx W hW hJ hJx hY h0
 have C0 := (B0.zw hW)
 have C1 := (B1.zw hW)
 have C2 := (B2.zw hW)
 have c0 := C0.cell
 have c1 := C1.cell
 have c2 := C2.cell
 have HY := Lib.hid hY
 clear hY
 refine callsIn_of_wp Try.func216 rfl trivial ?_ rfl
 simp only [Try.ntmps216, List.size_toArray, List.length_cons, List.length_nil, Nat.reduceAdd, Nat.reduceSub, Array.replicate_succ, Array.replicate_zero, List.push_toArray, List.append_toArray, List.nil_append, List.cons_append]
 gi_wp2
 gi_loopw [5] (fun i wr => ∃ (k : Nat) (pre : List (NumN a q)), k ≤ q ∧ i = .int .i64 ((a : Int) + (k : Int)) ∧ Hid (vals pre = List.range' a k) ∧ J pre wr ∧ KpN ba bb bp W wr) (fun i _ => a + q - (intOf i).toNat)
 case atStart => exact ⟨0, [], Nat.zero_le _, by simp, Lib.hid vals_nil, h0, KpN.refl _ _ _ _⟩
 case round =>
  obtain ⟨k, pre, hk, rfl, hpre, hJs, hnx⟩ := hrel
  have C0' := C0.of hnx.1
  have C1' := C1.of hnx.2.1
  have C2' := C2.of hnx.2.2
  have c1' := C1'.cell
  have c2' := C2'.cell
  by_cases hlt : k < q
  · have hlt2 : (a : Int) + (k : Int) < ((a + q : Nat) : Int) := by omega
    have hnum : ((a + k : Nat) : Int) ≤ 1000000000000 := by omega
    have HM := Lib.hid (show a + k ∈ List.range' a q by rw [List.mem_range'_1]; omega)
    gi_wp2_with (first | (refine ⟨trivial, (fun h => by cases h), ?_⟩; gi_at_call 217; refine (callsIn_wide.2 (polyOfNumber_any p (a + k) _ hp1 hp2 hnum)).mono ?_; rintro e w2 ⟨rfl, hb2⟩; have hJ2 := hJ _ _ _ none hJs (below_grown hb2) (fun r e => by cases e); obtain ⟨fn, tmps, assign, body, hy, hR⟩ := HY.out pre ⟨a + k, HM.out⟩ w2 hJ2 (by have := congrArg List.length hpre.out; rw [vals_len, List.length_range'] at this; omega); unfold numEnc at hy; dsimp only at hy))
    refine ⟨(fun h => by cases h), hR.mono ?_⟩
    rintro e W3 (⟨rfl, hJ3, hk3⟩ | ⟨rfl, hJx3⟩)
    · gi_wp2
      go_roundw
      case rel => exact ⟨k + 1, pre ++ [⟨a + k, HM.out⟩], by omega, by go_num, Lib.hid (by rw [vals_snoc, hpre.out, range_snoc]), hJ3, (hnx.trans ⟨hb2.block _ C0'.lt, hb2.block _ C1'.lt, hb2.block _ C2'.lt⟩).trans hk3⟩
      case measure => simp [intOf]; omega
    · gi_wp2
      refine bodyPost_ret (results_none rfl _ _ _) rfl ?_
      refine ⟨⟨_, rfl⟩, .inr ⟨_, ?_, hJx3⟩⟩
      rw [vals_snoc, hpre.out]
      show List.range' a k ++ [a + k] <+: List.range' a q
      rw [← range_snoc]
      exact ⟨List.range' (a + (k + 1)) (q - (k + 1)), by rw [List.range'_append_1]; congr 1; omega⟩
  · have hlt2 : ¬ (a : Int) + (k : Int) < ((a + q : Nat) : Int) := by omega
    gi_wp2
    go_end0
    exact ⟨⟨_, rfl⟩, .inl ⟨pre, by rw [hpre.out, show k = q by omega], hJs⟩⟩
end Go.Proofs.Ytobcdekochenfaa
end
section
namespace Go.Proofs.Ytobcdekochenfaa
open Go Go.RowKit
set_option linter.unusedVariables false
set_option linter.unusedSimpArgs false
attribute [local irreducible] deg invN dS qS stp quoP resP oneP ofN dvo run monL
/-- the cells of a factor -/
def facC (f : Nat → Nat) (k : Nat) : List Value := bl 64 f ++ [.int .i64 (k : Int)]
def facRows (p : Nat) (L : List (Nat × Nat)) : List (List Value) := L.map fun x => facC (ofN p x.1) x.2
/-- the heap has at least n blocks -/
def SzG (n : Nat) (W : World) : Prop := n ≤ W.heap.size
theorem SzG.lt {n : Nat} {W : World} (h : SzG n W) : n ≤ W.heap.size := h
theorem SzG.below {n B : Nat} {W W' : World} (h : SzG n W) (hb : Below B W W') (_ : n ≤ W.heap.size) : SzG n W' := Nat.le_trans h hb.size
theorem SzG.zw {n : Nat} {W W' : World} (h : SzG n W) (hb : Below W.heap.size W W') : SzG n W' := SzG.below h hb (SzG.lt h)
theorem SzG.alloc {n : Nat} {W : World} (h : SzG n W) (o : Obj) : SzG n (W.alloc o) := h.below (zal _ _) h
theorem SzG.drew {n : Nat} {W : World} (h : SzG n W) : SzG n W.drew := h
theorem SzG.rowOther {n k : Nat} {W : World} {cs : Array Value} (h : SzG n W) (_ : 0 ≤ k) : SzG n (W.setRow k cs) := by unfold SzG at *; simpa [World.setRow] using h
theorem SzG.setOther {n : Nat} {W : World} {a : Addr} {v : Value} (h : SzG n W) (_ : 0 ≤ a.block) : SzG n (W.setCell a v) := by unfold SzG at *; simpa using h
end Go.Proofs.Ytobcdekochenfaa
namespace Go.Proofs.Ytobcdekochenfaa
open Go Go.RowKit
set_option linter.unusedVariables false
set_option linter.unusedSimpArgs false
attribute [local irreducible] deg invN dS qS stp quoP resP oneP ofN dvo run monL
def FV (p : Nat) (n0 : Nat) (x : Nat × Nat) (l : List (Nat × Nat)) (y : Value) (w : World) : Prop := SlL w n0 149 65 y (facRows p (x :: l))
theorem FV.below {p n0 : Nat} {x : Nat × Nat} {l : List (Nat × Nat)} {y : Value} {w w' : World} (h : FV p n0 x l y w) (hb : Below w.heap.size w w') : FV p n0 x l y w' := SlL.below h hb h.lt
end Go.Proofs.Ytobcdekochenfaa
end
section
set_option linter.unusedVariables false
namespace Go.Proofs.Ytobcdekochenfaa
theorem prd_le {p : Nat} {f g : Nat → Nat} {a b : Nat} (hp : 0 < p) (hf : deg f ≤ (a : Int)) (hg : deg g ≤ (b : Int)) : deg (prd p f g) ≤ ((a + b : Nat) : Int) :=
 deg_le (by omega) (fun k h1 _ => prd_above hp (by omega))
theorem cg_same {p : Nat} {f g : Nat → Nat} (hf : ∀ k, k < 64 → f k < p) (hg : ∀ k, k < 64 → g k < p) (h : cg p (lz f) (lz g)) : ∀ k, k < 64 → f k = g k := by
 intro k hk
 have h1 := h k
 unfold lz cut at h1
 rw [if_pos hk, if_pos hk] at h1
 have := hf k hk
 have := hg k hk
 have := dvd_small h1 (by omega) (by omega)
 omega
/-- the power by squares, where all fits -/
theorem pgR_cg {p : Nat} (hp : 0 < p) : ∀ (n k : Nat) (r s : Nat → Nat) (t d : Nat), k < 2 ^ n → deg r ≤ (t : Int) → deg s ≤ (d : Int) → t + k * d ≤ 63 → cg p (lz (pgR (prd p) n k r s)) (mz (lz r) (pwz (lz s) k))
 | n, 0, r, s, t, d, _, _, _, _ => by
  rw [pgR_z]
  have : mz (lz r) (pwz (lz s) 0) = lz r := by rw [mz_comm]; exact mz_one _
  rw [this]; exact cg_refl _ _
 | 0, k + 1, r, s, t, d, hk, _, _, _ => by rw [Nat.pow_zero] at hk; omega
 | n + 1, 1, r, s, t, d, hk, hr, hs, hf => by
  rw [pgR_one]
  have e : pwz (lz s) 1 = lz s := mz_one _
  rw [e]
  exact prd_cg hp (by omega)
 | n + 1, k + 2, r, s, t, d, hk, hr, hs, hf => by
  have hk2 : (k + 2) / 2 < 2 ^ n := by rw [Nat.pow_succ] at hk; omega
  have hd : 2 * d ≤ 63 := by
   have : 2 * d ≤ (k + 2) * d := Nat.mul_le_mul_right _ (by omega)
   omega
  have hss := prd_le hp hs hs
  have sq : cg p (pwz (lz (prd p s s)) ((k + 2) / 2)) (pwz (lz s) (2 * ((k + 2) / 2))) := by
   rw [pwz_two]
   have h := prd_cg (p := p) (f := s) (g := s) hp (by omega)
   have gen : ∀ j, cg p (pwz (lz (prd p s s)) j) (pwz (mz (lz s) (lz s)) j) := by
    intro j
    induction j with
    | zero => exact cg_refl _ _
    | succ j ih => exact cg_mz2 ih h
   exact gen _
  have hle : (k + 2) / 2 * (d + d) ≤ (k + 2) * d := by
   have h1 : (k + 2) / 2 * (d + d) = (2 * ((k + 2) / 2)) * d := by rw [← Nat.two_mul, ← Nat.mul_assoc, Nat.mul_comm ((k + 2) / 2) 2]
   rw [h1]
   exact Nat.mul_le_mul_right _ (by omega)
  by_cases ho : (k + 2) % 2 = 1
  · rw [pgR_odd (by omega) ho]
    have hle2 : (k + 2) / 2 * (d + d) + d ≤ (k + 2) * d := by
     have h1 : (k + 2) / 2 * (d + d) + d = (2 * ((k + 2) / 2) + 1) * d := by rw [← Nat.two_mul, ← Nat.mul_assoc, Nat.mul_comm ((k + 2) / 2) 2, Nat.add_mul, Nat.one_mul]
     rw [h1]
     exact Nat.mul_le_mul_right _ (by omega)
    refine cg_trans (pgR_cg hp n ((k + 2) / 2) (prd p r s) (prd p s s) (t + d) (d + d) hk2 (prd_le hp hr hs) hss (by omega)) ?_
    have e : mz (lz r) (pwz (lz s) (k + 2)) = mz (mz (lz r) (lz s)) (pwz (lz s) (2 * ((k + 2) / 2))) := by
     have : k + 2 = 2 * ((k + 2) / 2) + 1 := by omega
     conv => lhs; rw [this]
     show mz (lz r) (mz (pwz (lz s) (2 * ((k + 2) / 2))) (lz s)) = _
     rw [mz_comm (pwz (lz s) (2 * ((k + 2) / 2))), ← mz_assoc]
    rw [e]
    exact cg_mz2 (prd_cg hp (by have : d ≤ (k + 2) * d := Nat.le_mul_of_pos_left _ (by omega); omega)) sq
  · rw [pgR_even (by omega) ho]
    refine cg_trans (pgR_cg hp n ((k + 2) / 2) r (prd p s s) t (d + d) hk2 hr hss (by omega)) ?_
    have e : k + 2 = 2 * ((k + 2) / 2) := by omega
    conv => rhs; rw [e]
    exact cg_mz2 (cg_refl _ _) sq
theorem pgR_mulT {p : Nat} (hp : 0 < p) (k : Nat) {f : Nat → Nat} (hk : k < 2 ^ 64) (hd : deg f * (k : Int) ≤ 63) : cg p (lz (pgR (prd p) 64 k oneP f)) (pwz (lz f) k) := by
 obtain ⟨d, hd1⟩ : ∃ d : Nat, d = (deg f).toNat := ⟨_, rfl⟩
 have hdf : deg f ≤ (d : Int) := by omega
 have hkd : 0 + k * d ≤ 63 := by
  rcases deg_spec f with ⟨h1, _⟩ | ⟨j, _, h1, _, _⟩
  · have : d = 0 := by rw [hd1, h1]; rfl
    rw [this]; omega
  · have : d = j := by rw [hd1, h1]; rfl
    rw [h1, ← this] at hd
    have : d * k ≤ 63 := by exact_mod_cast hd
    rw [Nat.mul_comm k d]; omega
 have := pgR_cg hp 64 k oneP f 0 d hk (by rw [deg_one]; exact Int.le_refl _) hdf hkd
 rw [one_lz] at this
 have e3 : mz oneS (pwz (lz f) k) = pwz (lz f) k := mz_one _
 rwa [e3] at this
/-- the power by repeated products -/
def exP (p : Nat) (f : Nat → Nat) : Nat → (Nat → Nat)
 | 0 => oneP
 | j + 1 => prd p (exP p f j) f
theorem exP_ok {p d : Nat} {f : Nat → Nat} (hp : 2 ≤ p) (hd : deg f = (d : Int)) : ∀ j, d * j ≤ 63 → (∀ i, i < 64 → exP p f j i < p) ∧ deg (exP p f j) ≤ ((d * j : Nat) : Int) ∧ cg p (lz (exP p f j)) (pwz (lz f) j)
 | 0, _ => ⟨fun i _ => by show oneP i < p; unfold oneP; split <;> omega, by show deg oneP ≤ _; rw [deg_one]; omega, by show cg p (lz oneP) _; rw [one_lz]; exact cg_refl _ _⟩
 | j + 1, h => by
  rw [Nat.mul_succ] at h
  obtain ⟨h1, h2, h3⟩ := exP_ok hp hd j (by omega)
  refine ⟨fun i _ => prd_lt (by omega) i, ?_, ?_⟩
  · rw [Nat.mul_succ]; exact prd_le (by omega) h2 (by omega)
  · exact cg_trans (prd_cg (by omega) (by omega)) (cg_mz h3)
theorem exP_same {p d k : Nat} {f : Nat → Nat} (hp : 2 ≤ p) (hd : deg f = (d : Int)) (hk : d * k ≤ 63) (hk2 : k < 2 ^ 64) : ∀ i, i < 64 → exP p f k i = pgR (prd p) 64 k oneP f i := by
 obtain ⟨h1, _, h3⟩ := exP_ok hp hd k hk
 refine cg_same h1 (pgR_lt (fun x y i _ => prd_lt (by omega) i) 64 k oneP f (fun i _ => by unfold oneP; split <;> omega)) (cg_trans h3 (cg_symm (pgR_mulT (by omega) k hk2 ?_)))
 rw [hd]; exact_mod_cast hk
end Go.Proofs.Ytobcdekochenfaa
end
section
namespace Go.Proofs.Ytobcdekochenfaa
open Go Go.RowKit
set_option linter.unusedVariables false
set_option linter.unusedSimpArgs false
theorem exP_congr {p : Nat} {f g : Nat → Nat} (h : ∀ i, i < 64 → f i = g i) : ∀ j, exP p f j = exP p g j
 | 0 => rfl
 | j + 1 => by
  show prd p (exP p f j) f = prd p (exP p g j) g
  rw [exP_congr h j]; unfold prd; rw [cut_eq h]
theorem prd_one {p : Nat} {f : Nat → Nat} (hp : 2 ≤ p) (hf : ∀ k, k < 64 → f k < p) : ∀ k, k < 64 → prd p f oneP k = f k := by
 refine cg_same (fun k _ => prd_lt (by omega) k) hf ?_
 have h := prd_cg (p := p) (f := f) (g := oneP) (by omega) (by have := (zdb f).2; rw [deg_one]; omega)
 rw [one_lz] at h
 have e : mz (lz f) oneS = lz f := by
  rw [mz_comm]
  exact mz_one (lz f)
 rwa [e] at h
/-- the base of a power -/
def bsS (p : Nat) (m c : Nat → Nat) (N : Nat) : Nat → Nat := fun i => (prd p (ofN p N) m i + c i) % p
theorem bsS_lt {p : Nat} {m c : Nat → Nat} {N : Nat} (hp : 0 < p) (k : Nat) : bsS p m c N k < p := Nat.mod_lt _ hp
theorem bsS_one {p N : Nat} (hp : 2 ≤ p) : ∀ k, k < 64 → bsS p oneP (fun _ => 0) N k = ofN p N k := fun k hk => by
 have h1 : ofN p N k < p := ofN_lt (by omega) N k
 have h2 := prd_one (f := ofN p N) hp (fun k _ => ofN_lt (by omega) N k) k hk
 show (prd p (ofN p N) oneP k + 0) % p = _
 rw [h2, Nat.add_zero, Nat.mod_eq_of_lt h1]
theorem deg_of_same {f g : Nat → Nat} (h : ∀ k, k < 64 → f k = g k) : deg f = deg g := by
 have a : ∀ {f g : Nat → Nat}, (∀ k, k < 64 → f k = g k) → deg f ≤ deg g := fun {f g} h =>
  deg_le (zdb g).1 (fun k hk h6 => by rw [h k h6]; exact zero_above hk h6)
 have h1 := a h
 have h2 := a (fun k hk => (h k hk).symm)
 omega
theorem bsS_deg1 {p d N : Nat} (hp : 2 ≤ p) (hd : d < 64) (hN : N ∈ monL p d) : deg (bsS p oneP (fun _ => 0) N) = (d : Int) := by
 rw [deg_of_same (bsS_one (N := N) hp)]
 exact (mon_ofN hp hd hN).1
/-- the sum of the powers, over a list of numbers -/
def smS (p : Nat) (m c : Nat → Nat) (k : Nat) (l : List Nat) : Nat → Nat := l.foldl (fun acc N => fun i => (acc i + exP p (bsS p m c N) k i) % p) (fun _ => 0)
theorem smS_nil (p : Nat) (m c : Nat → Nat) (k : Nat) : smS p m c k [] = fun _ => 0 := rfl
theorem smS_snoc (p : Nat) (m c : Nat → Nat) (k : Nat) (l : List Nat) (N : Nat) : smS p m c k (l ++ [N]) = fun i => (smS p m c k l i + exP p (bsS p m c N) k i) % p := by
 unfold smS; rw [List.foldl_append]; rfl
theorem smS_lt {p : Nat} {m c : Nat → Nat} {k : Nat} (hp : 0 < p) (l : List Nat) : ∀ i, smS p m c k l i < p := by
 rcases List.eq_nil_or_concat l with h | ⟨l', N, h⟩
 · intro i; rw [h, smS_nil]; exact hp
 · intro i; rw [h, List.concat_eq_append, smS_snoc]; exact Nat.mod_lt _ hp
/-- the power sum -/
def pwT (p d k : Nat) : Nat → Nat := smS p oneP (fun _ => 0) k (monL p d)
end Go.Proofs.Ytobcdekochenfaa
end
