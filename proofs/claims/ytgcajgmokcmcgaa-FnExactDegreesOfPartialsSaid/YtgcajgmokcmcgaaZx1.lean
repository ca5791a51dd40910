/-
  What the rows of this claim rest on: arrays of bytes, walks of the functions, plain mathematics.
-/
import Derived.WalkKit
import Derived.WalkSpells
import Derived.WalkLawsBesides
import Derived.Lib.Hide
import Derived.Laws.Rows
import Derived.Laws.CopyOwn
import Derived.Deep.QuietTactic
import Derived.Deep.WholeRow
import Derived.Deep.Draws
import Derived.Deep.MidRow
import Derived.Deep.CutRange
import Derived.Deep.DeepCutAuto
import Derived.Deep.RegionHeld3
import Derived.BigQuiet
import Derived.BigRegion
import Derived.Great.BuildSlice
import Derived.Test.YtgcajgmokcmcgaaRows
import Derived.ScopeJumps
import Derived.Laws.StructEq
import Derived.Laws.Tables
import Derived.Maps.OwnOps
import Derived.DeepKeys4
import Derived.Carry
import Derived.Test.YtgcajgmokcmcgaaProg
section
namespace Go.Proofs.Ytgcajgmokcmcgaa
open Go.RowKit
theorem pA {α : Type} (l : List α) (i : Nat) (a : α) : l.toArray.setIfInBounds i a = (l.set i a).toArray := List.setIfInBounds_toArray ..
theorem pB {α : Type} (xs : List α) (x a : α) : (x :: xs).set 0 a = a :: xs := List.set_cons_zero
theorem pC {α : Type} (xs : List α) (x a : α) (i : Nat) : (x :: xs).set (i + 1) a = x :: xs.set i a := List.set_cons_succ
/-- the cells of an array of n bytes -/
def bl (n : Nat) (f : Nat → Nat) : List Value := (List.range n).map fun i => Value.int .u8 (f i : Int)
abbrev zb (n : Nat) (f : Nat → Nat) : Array Value := (bl n f).toArray
theorem zl (n : Nat) (f : Nat → Nat) : (bl n f).length = n := by simp [bl]
theorem bl_one {n : Nat} {f : Nat → Nat} : ∀ v ∈ bl n f, v.oneCell' = true := by
 intro v hv
 simp only [bl, List.mem_map] at hv
 obtain ⟨i, _, rfl⟩ := hv
 rfl

theorem zbs (n : Nat) (f : Nat → Nat) : (zb n f).size = n := by simp [bl]
theorem bcells_get {n : Nat} {f : Nat → Nat} {i : Nat} (h : i < n) : (zb n f)[i]? = some (.int .u8 (f i : Int)) := by
 simp [bl, h]
def upd (f : Nat → Nat) (i v : Nat) : Nat → Nat := fun j => if j = i then v else f j
theorem bcells_set {n : Nat} {f : Nat → Nat} {i v : Nat} : (zb n f).setIfInBounds i (.int .u8 (v : Int)) = zb n (upd f i v) := by
 apply Array.ext
 · simp [bl]
 · intro j h1 h2
   have hj : j < n := by simpa [bl] using h2
   rw [Array.getElem_setIfInBounds (by simpa [bl] using hj)]
   by_cases e : i = j
   · subst e; simp [bl, upd]
   · have e' : ¬ j = i := fun h => e h.symm
     simp [bl, upd, e, e']
theorem upd_lt {a b : Nat → Nat} {k v : Nat} (hv : v = a k) : ∀ i, upd (fun i => if i < k then a i else b i) k v i = if i < k + 1 then a i else b i := by
 intro i; subst hv; unfold upd
 by_cases e : i = k
 · subst e; simp
 · have : (i < k + 1) ↔ i < k := by omega
   simp [e, this]
theorem zbc {n : Nat} {f g : Nat → Nat} (h : ∀ i, i < n → f i = g i) : zb n f = zb n g := by
 unfold zb bl
 congr 1
 apply List.map_congr_left
 intro i hi
 rw [h i (by simpa using hi)]
theorem bcells_one (n : Nat) (f : Nat → Nat) : (zb n f).all (·.oneCell') = true :=
 Array.all_eq_true_iff_forall_mem.2 fun v hv => bl_one v (by simpa using hv)
/-- block b holds the bytes f -/
def Blk (w : World) (b n : Nat) (t : TypeId) (f : Nat → Nat) : Prop := w.heap[b]? = some (.cells (zb n f) t (0, 0))

theorem Blk.new (w : World) (n : Nat) (t : TypeId) (f : Nat → Nat) : Blk (w.alloc (.cells (zb n f) t)) w.heap.size n t f := heap_alloc_last w _
theorem Blk.lt {w : World} {b n : Nat} {t : TypeId} {f : Nat → Nat} (h : Blk w b n t f) : b < w.heap.size := by
 unfold Blk at h
 exact (Array.getElem?_eq_some_iff.1 h).1
theorem Blk.cell {w : World} {b n : Nat} {t : TypeId} {f : Nat → Nat} (h : Blk w b n t f) {i : Nat} (hi : i < n) : w.cell? ⟨b, i, none⟩ = some (.int .u8 (f i : Int)) := by
 rw [cell_of_row _ _ _ _ _ _ h]; exact bcells_get hi
theorem Blk.frozen {w : World} {b n : Nat} {t : TypeId} {f : Nat → Nat} (h : Blk w b n t f) (i : Nat) : w.frozen? ⟨b, i, none⟩ = false := frozen_of_row _ _ _ _ _ h
theorem Blk.congr {w : World} {b n : Nat} {t : TypeId} {f g : Nat → Nat} (h : Blk w b n t f) (e : ∀ i, i < n → f i = g i) : Blk w b n t g := by
 unfold Blk at *; rw [h, zbc e]
theorem Blk.set {w : World} {b n : Nat} {t : TypeId} {f : Nat → Nat} (h : Blk w b n t f) {i v : Nat} {x : Int} (e : x = (v : Int)) : Blk (w.setCell ⟨b, i, none⟩ (.int .u8 x)) b n t (upd f i v) := by
 subst e; unfold Blk at *
 rw [heap_setCell_same _ _ _ _ _ _ h, bcells_set]
theorem Blk.setOther {w : World} {b n : Nat} {t : TypeId} {f : Nat → Nat} (h : Blk w b n t f) {a : Addr} {v : Value} (e : b ≠ a.block) : Blk (w.setCell a v) b n t f := by
 unfold Blk at *; rw [heap_setCell_other _ _ _ _ e]; exact h
theorem Blk.alloc {w : World} {b n : Nat} {t : TypeId} {f : Nat → Nat} (h : Blk w b n t f) (o : Obj) : Blk (w.alloc o) b n t f := by
 have := h.lt
 unfold Blk at *; rw [Below.heap_alloc _ _ _ this]; exact h
theorem Blk.drew {w : World} {b n : Nat} {t : TypeId} {f : Nat → Nat} (h : Blk w b n t f) : Blk w.drew b n t f := h
theorem Blk.drewN {w : World} {b n : Nat} {t : TypeId} {f : Nat → Nat} (h : Blk w b n t f) (k : Nat) : Blk (w.drewN k) b n t f := by unfold Blk at *; exact h
theorem Blk.row {w : World} {b n : Nat} {t : TypeId} {f : Nat → Nat} (h : Blk w b n t f) (g : Nat → Nat) : Blk (w.setRow b (zb n g)) b n t g := setRow_heap _ _ _ _ _ _ h
theorem Blk.rowOther {w : World} {b n : Nat} {t : TypeId} {f : Nat → Nat} (h : Blk w b n t f) {k : Nat} {cs : Array Value} (e : b ≠ k) : Blk (w.setRow k cs) b n t f := by
 unfold Blk at *; rw [setRow_other _ _ _ _ e]; exact h
theorem Blk.below {w w' : World} {B b n : Nat} {t : TypeId} {f : Nat → Nat} (h : Blk w b n t f) (hb : Below B w w') (e : b < B) : Blk w' b n t f := by
 unfold Blk at *; rw [hb.block b e]; exact h

theorem Blk.zw {w w' : World} {b n : Nat} {t : TypeId} {f : Nat → Nat} (h : Blk w b n t f) (hb : Below w.heap.size w w') : Blk w' b n t f := Blk.below h hb (Blk.lt h)
theorem Blk.range {w : World} {b n : Nat} {t : TypeId} {f : Nat → Nat} (h : Blk w b n t f) : w.rangeAt b 0 (bl n f) := by
 intro j v hv
 rw [Nat.zero_add, cell_of_row _ _ _ _ _ _ h]
 simpa using hv
theorem below_drewN' {B : Nat} {a w : World} (h : Below B a w) (n : Nat) : Below B a (w.drewN n) := ⟨h.os, h.tape, h.output, h.size, h.block⟩

theorem addr_zero_add (b i : Nat) : (⟨b, 0, none⟩ : Addr).add i = ⟨b, i, none⟩ := by unfold Addr.add; split <;> simp_all

theorem zal (w : World) (o : Obj) : Below w.heap.size w (w.alloc o) := (Below.refl _ _).alloc (Nat.le_refl _) _
/-- y points to a block from N on that holds g -/
def PF (y : Value) (w : World) (N n : Nat) (t : TypeId) (g : Nat → Nat) : Prop := ∃ b, y = .pointer (some ⟨b, 0, none⟩) ∧ N ≤ b ∧ Blk w b n t g
def AF (y : Value) (w : World) (N n : Nat) (t : TypeId) : Prop := ∃ g, PF y w N n t g
theorem PF.below {y : Value} {w w' : World} {N n : Nat} {t : TypeId} {g : Nat → Nat} (h : PF y w N n t g) (hb : Below w.heap.size w w') : PF y w' N n t g := by
 obtain ⟨b, e, hN, hk⟩ := h
 exact ⟨b, e, hN, hk.zw hb⟩
theorem AF.below {y : Value} {w w' : World} {N n : Nat} {t : TypeId} (h : AF y w N n t) (hb : Below w.heap.size w w') : AF y w' N n t := by
 obtain ⟨g, h⟩ := h
 exact ⟨g, h.below hb⟩
theorem PF.new (w : World) {N : Nat} (n : Nat) (t : TypeId) (g : Nat → Nat) (h : N ≤ w.heap.size) : PF (.pointer (some ⟨w.heap.size, 0, none⟩)) (w.alloc (.cells (zb n g) t)) N n t g := ⟨_, rfl, h, Blk.new _ _ _ _⟩
theorem PF.row {w : World} {b N n : Nat} {t : TypeId} {f : Nat → Nat} (hb : Blk w b n t f) (hN : N ≤ b) (g : Nat → Nat) : PF (.pointer (some ⟨b, 0, none⟩)) (w.setRow b (zb n g)) N n t g := ⟨b, rfl, hN, hb.row g⟩
theorem PF.rowOther {y : Value} {w : World} {b N n : Nat} {t : TypeId} {g : Nat → Nat} {cs : Array Value} (h : PF y w N n t g) (e : y ≠ .pointer (some ⟨b, 0, none⟩)) : PF y (w.setRow b cs) N n t g := by
 obtain ⟨b', e', hN, hk⟩ := h
 refine ⟨b', e', hN, hk.rowOther ?_⟩
 rintro rfl
 exact e e'
theorem AF.row {y : Value} {w : World} {b N n m : Nat} {t u : TypeId} {f g : Nat → Nat} (h : AF y w N n t) (hb : Blk w b m u f) : AF y (w.setRow b (zb m g)) N n t := by
 obtain ⟨g', b', e', hN, hk⟩ := h
 by_cases e : b' = b
 · subst e
   have h1 := hk.symm.trans hb
   simp only [Option.some.injEq, Obj.cells.injEq, and_true] at h1
   obtain ⟨h1, h2⟩ := h1
   have h3 : n = m := by have := congrArg Array.size h1; rwa [zbs, zbs] at this
   subst h3; subst h2
   exact ⟨g, b', e', hN, hk.row g⟩
 · exact ⟨g', b', e', hN, hk.rowOther e⟩
theorem PF.out {y : Value} {w : World} {N n : Nat} {t : TypeId} {g : Nat → Nat} (h : PF y w N n t g) : ∃ b, y = .pointer (some ⟨b, 0, none⟩) ∧ N ≤ b ∧ Blk w b n t g := h
theorem AF.out {y : Value} {w : World} {N n : Nat} {t : TypeId} (h : AF y w N n t) : ∃ g b, y = .pointer (some ⟨b, 0, none⟩) ∧ N ≤ b ∧ Blk w b n t g := h
theorem zr {N b : Nat} {w0 w : World} (hb : Below N w0 w) (h : N ≤ b) (cs : Array Value) : Below N w0 (w.setRow b cs) := below_setRow hb h cs

theorem acc {P : Program} {k : FuncId} {args : Array Value} {w W0 : World} {v : Ending} (h : Calls P k args w fun e w' => e = v ∧ Below w.heap.size w w') (ha : Below W0.heap.size W0 w) :
 Calls P k args w fun e w' => e = v ∧ Below w.heap.size w w' ∧ Below W0.heap.size W0 w' :=
 h.mono fun _ _ ⟨he, hb⟩ => ⟨he, hb, ha.trans (hb.mono ha.size)⟩
section
variable {P : Program}
theorem run_index_blk (t e n : Nat) (f : Nat → Nat) (k : IntKind) (i : Nat) (hu : P.underlying t = some (.array n e)) (he : P.underlying e = some (.int .u8)) (hs : (P.info? e).map (·.size) = some 1) (hi : i < n) (w : World) :
 (Instr.index t (.agg (zb n f)) (.int k (i : Int))).run P w = .ok (.int .u8 (f i : Int)) w := by
 cases hq : P.info? e with
 | none => simp [hq] at hs
 | some ie =>
  have hsz : ie.size = 1 := by simpa [hq] using hs
  have hin : (0 : Int) ≤ (i : Int) ∧ (i : Int) < (n : Int) := by omega
  have hagg : (isAgg e).run P w = .ok false w := by
   unfold isAgg
   rw [Sem.run_bind, run_underlying he w]
   rfl
  have hg : (bl n f)[i]? = some (.int .u8 (f i : Int)) := by simp [bl, hi]
  simp [Instr.index, asIntOf, Sem.run_bind, run_underlying hu, sizeOf, typeInfo, hq, hsz, part, hagg, hg]
  intro h; omega
theorem wp_load_blk {o : Oper} {a : Act} {w : World} {K : Act → World → Prop} {Q : Exit → Act → World → Prop} (ty : TypeId) (x : Operand) (ho : o.op = .load ty x)
 (b : Nat) (hx : a.eval x = .pointer (some ⟨b, 0, none⟩)) (n : Nat) (t : TypeId) (f : Nat → Nat) (hb : Blk w b n t f) (e : TypeId)
 (hu : P.underlying ty = some (.array n e)) (hi : (P.info? ty).map (·.size) = some n) (h : K (a.put o.dst (.agg (zb n f))) w) : o.wp P a w K Q :=
 wp_load_row ty x ho b hx t _ (0, 0) _ hb hu rfl (by rw [zbs]; exact hi) h
theorem zsb {o : Oper} {a : Act} {w : World} {K : Act → World → Prop} {Q : Exit → Act → World → Prop} (ty : TypeId) (x y : Operand) (ho : o.op = .store ty x y)
 (b : Nat) (n : Nat) (g : Nat → Nat) (hx : a.eval x = .pointer (some ⟨b, 0, none⟩)) (hy : a.eval y = .agg (zb n g)) (t : TypeId) (f : Nat → Nat) (hb : Blk w b n t f)
 (hi : (P.info? ty).map (·.size) = some n) (h : K (a.put o.dst undef) (w.setRow b (zb n g))) : o.wp P a w K Q :=
 wp_store_row ty x y ho b _ hx hy t _ hb (by rw [zbs]; exact hi) (by rw [zbs, zbs]) (bcells_one n g) h
theorem wpList_store_new {ops : Array Oper} {rest : List Oper} {o : Oper} {a : Act} {w : World} {Q : Exit → Act → World → Prop} (hgd : o.guard = none) (ty : TypeId) (x y : Operand) (ho : o.op = .store ty x y)
 (old : Array Value) (t : TypeId) (n : Nat) (g : Nat → Nat) (hx : a.eval x = .pointer (some ⟨w.heap.size, 0, none⟩)) (hy : a.eval y = .agg (zb n g)) (hold : old.size = n)
 (hi : (P.info? ty).map (·.size) = some n)
 (h : wpList P ops Q rest (a.put o.dst undef) (w.alloc (.cells (zb n g) t))) : wpList P ops Q (o :: rest) a (w.alloc (.cells old t)) :=
 wpList_store_row hgd ty x y ho _ _ hx hy t old (heap_alloc_last w _) (by rw [zbs]; exact hi) (by rw [zbs]; exact hold) (bcells_one n g) (by rw [World.setRow_alloc_new]; exact h)
theorem zlb {ops : Array Oper} {rest : List Oper} {o : Oper} {a : Act} {w : World} {Q : Exit → Act → World → Prop} (hgd : o.guard = none) (ty : TypeId) (x : Operand) (ho : o.op = .load ty x)
 (b : Nat) (hx : a.eval x = .pointer (some ⟨b, 0, none⟩)) (n : Nat) (t : TypeId) (f : Nat → Nat) (hb : Blk w b n t f) (e : TypeId)
 (hu : P.underlying ty = some (.array n e)) (hi : (P.info? ty).map (·.size) = some n)
 (h : wpList P ops Q rest (a.put o.dst (.agg (zb n f))) w) : wpList P ops Q (o :: rest) a w :=
 wpList_load_row hgd ty x ho b hx t _ (0, 0) _ hb hu rfl (by rw [zbs]; exact hi) h
theorem wpList_store_blk {ops : Array Oper} {rest : List Oper} {o : Oper} {a : Act} {w : World} {Q : Exit → Act → World → Prop} (hgd : o.guard = none) (ty : TypeId) (x y : Operand) (ho : o.op = .store ty x y)
 (b : Nat) (n : Nat) (g : Nat → Nat) (hx : a.eval x = .pointer (some ⟨b, 0, none⟩)) (hy : a.eval y = .agg (zb n g)) (t : TypeId) (f : Nat → Nat) (hb : Blk w b n t f)
 (hi : (P.info? ty).map (·.size) = some n)
 (h : wpList P ops Q rest (a.put o.dst undef) (w.setRow b (zb n g))) : wpList P ops Q (o :: rest) a w :=
 wpList_store_row hgd ty x y ho b _ hx hy t _ hb (by rw [zbs]; exact hi) (by rw [zbs, zbs]) (bcells_one n g) h
theorem run_loadVar_blk (w : World) (b n : Nat) (t ty e : TypeId) (f : Nat → Nat) (hb : Blk w b n t f) (hu : P.underlying ty = some (.array n e)) (hi : (P.info? ty).map (·.size) = some n) :
 (loadVar ty ⟨b, 0, none⟩).run P w = .ok (.agg (zb n f)) w :=
 run_loadVar_row w b t ty _ (0, 0) _ hb hu rfl (by rw [zbs]; exact hi)
theorem zrb {fn : Func} {p : Tmp} {ty : TypeId} (h : fn.results = #[.cell p ty]) (tmps : Array Value) (w : World) (b n : Nat) (t e : TypeId) (f : Nat → Nat)
 (hp : tmps.getD p undef = .pointer (some ⟨b, 0, none⟩)) (hb : Blk w b n t f) (hu : P.underlying ty = some (.array n e)) (hi : (P.info? ty).map (·.size) = some n) :
 (results fn tmps).run P w = .ok (.agg (zb n f)) w :=
 results_cell_row h tmps w b t _ (0, 0) _ hp hb hu rfl (by rw [zbs]; exact hi)
theorem results_bb {fn : Func} {p p2 : Tmp} {ty ty2 : TypeId} (h : fn.results = #[.cell p ty, .cell p2 ty2]) (tmps : Array Value) (w : World) (b n : Nat) (t e : TypeId) (f : Nat → Nat) (b2 n2 : Nat) (t2 e2 : TypeId) (f2 : Nat → Nat)
 (hp : tmps.getD p undef = .pointer (some ⟨b, 0, none⟩)) (hb : Blk w b n t f) (hu : P.underlying ty = some (.array n e)) (hi : (P.info? ty).map (·.size) = some n)
 (hp2 : tmps.getD p2 undef = .pointer (some ⟨b2, 0, none⟩)) (hb2 : Blk w b2 n2 t2 f2) (hu2 : P.underlying ty2 = some (.array n2 e2)) (hi2 : (P.info? ty2).map (·.size) = some n2) :
 (results fn tmps).run P w = .ok (.tuple #[.agg (zb n f), .agg (zb n2 f2)]) w := by
 have hp' : tmps[p]?.getD undef = .pointer (some ⟨b, 0, none⟩) := by simpa using hp
 have hp2' : tmps[p2]?.getD undef = .pointer (some ⟨b2, 0, none⟩) := by simpa using hp2
 simp [results, h, hp', hp2', asAddr, run_loadVar_blk w b n t ty e f hb hu hi, run_loadVar_blk w b2 n2 t2 ty2 e2 f2 hb2 hu2 hi2]
end
theorem z64 : zb 64 (fun _ => 0) = #[.int .u8 0, .int .u8 0, .int .u8 0, .int .u8 0, .int .u8 0, .int .u8 0, .int .u8 0, .int .u8 0, .int .u8 0, .int .u8 0, .int .u8 0, .int .u8 0, .int .u8 0, .int .u8 0, .int .u8 0, .int .u8 0, .int .u8 0, .int .u8 0, .int .u8 0, .int .u8 0, .int .u8 0, .int .u8 0, .int .u8 0, .int .u8 0, .int .u8 0, .int .u8 0, .int .u8 0, .int .u8 0, .int .u8 0, .int .u8 0, .int .u8 0, .int .u8 0, .int .u8 0, .int .u8 0, .int .u8 0, .int .u8 0, .int .u8 0, .int .u8 0, .int .u8 0, .int .u8 0, .int .u8 0, .int .u8 0, .int .u8 0, .int .u8 0, .int .u8 0, .int .u8 0, .int .u8 0, .int .u8 0, .int .u8 0, .int .u8 0, .int .u8 0, .int .u8 0, .int .u8 0, .int .u8 0, .int .u8 0, .int .u8 0, .int .u8 0, .int .u8 0, .int .u8 0, .int .u8 0, .int .u8 0, .int .u8 0, .int .u8 0, .int .u8 0] := by rfl
attribute [irreducible] Blk PF AF bl
end Go.Proofs.Ytgcajgmokcmcgaa
end
section
namespace Go.Proofs.Ytgcajgmokcmcgaa
def okP (p : Int) : Bool := p == 2 || p == 3 || p == 5 || p == 7
def okA (p : Int) (f : Nat → Nat) : Bool := okP p && (List.range 64).all fun i => decide ((f i : Int) < p)
theorem okP_cases {p : Int} (h : okP p = true) : p = 2 ∨ p = 3 ∨ p = 5 ∨ p = 7 := by
 simp only [okP, Bool.or_eq_true, beq_iff_eq] at h
 rcases h with ((h | h) | h) | h <;> simp [h]
theorem okP_false {p : Int} (h : okP p = false) : (p == 2) = false ∧ (p == 3) = false ∧ (p == 5) = false ∧ (p == 7) = false := by
 simp only [okP, Bool.or_eq_false_iff] at h
 exact ⟨h.1.1.1, h.1.1.2, h.1.2, h.2⟩
theorem okP_le {p : Int} (h : okP p = true) : 2 ≤ p ∧ p ≤ 7 := by rcases okP_cases h with h | h | h | h <;> subst h <;> decide
theorem okA_iff {p : Int} {f : Nat → Nat} : okA p f = true ↔ okP p = true ∧ ∀ i, i < 64 → (f i : Int) < p := by
 simp [okA, List.all_eq_true]
theorem okA_lt {p : Int} {f : Nat → Nat} (h : okA p f = true) {i : Nat} (hi : i < 64) : (f i : Int) < p := (okA_iff.1 h).2 i hi
/-- the code of a list of polynomials -/
def codeL (p : Int) (fs : List (Nat → Nat)) : Int := if okP p && fs.all (okA p) then 0 else 1
/-- f cut off at 64 -/
def cut (f : Nat → Nat) : Nat → Nat := fun i => if i < 64 then f i else 0
/-- a byte -/
def byte (f : Nat → Nat) : Prop := ∀ i, f i < 256
end Go.Proofs.Ytgcajgmokcmcgaa
end
section
namespace Go.Proofs.Ytgcajgmokcmcgaa
open Go.RowKit
theorem foldl_set : ∀ (vs : List Value) (k : Nat) (pre post old : List Value), old.length = vs.length → pre.length = k →
 (vs.zipIdx 0).foldl (fun (cs : Array Value) (x : Value × Nat) => cs.setIfInBounds (k + x.2) x.1) (pre ++ old ++ post).toArray = (pre ++ vs ++ post).toArray := by
 have key : ∀ (vs : List Value) (j k : Nat) (pre post old : List Value), old.length = vs.length → pre.length = k + j →
  (vs.zipIdx j).foldl (fun (cs : Array Value) (x : Value × Nat) => cs.setIfInBounds (k + x.2) x.1) (pre ++ old ++ post).toArray = (pre ++ vs ++ post).toArray := by
  intro vs
  induction vs with
  | nil => intro j k pre post old h _; have : old = [] := List.length_eq_zero_iff.1 h; subst this; rfl
  | cons v vs ih =>
   intro j k pre post old h hp
   cases old with
   | nil => simp at h
   | cons o old =>
    simp only [List.zipIdx_cons, List.foldl_cons]
    have e : (pre ++ o :: old ++ post).toArray.setIfInBounds (k + j) v = ((pre ++ [v]) ++ old ++ post).toArray := by
     rw [List.setIfInBounds_toArray]
     congr 1
     rw [← hp]
     simp
    rw [e, ih (j + 1) k (pre ++ [v]) post old (by simpa using h) (by simp; omega)]
    simp
 intro vs k pre post old h hp
 exact key vs 0 k pre post old h (by omega)
theorem fill_cat (sz : Nat) : ∀ (vss : List (List Value)) (k : Nat) (pre old : List Value), (∀ vs ∈ vss, vs.length = sz) → pre.length = k * sz → old.length = vss.length * sz →
 Instr.fill (fun i => some (i * sz, sz)) (pre ++ old).toArray ((vss.zipIdx k).map fun x => (x.2, Value.agg x.1.toArray)) = some (pre ++ vss.flatten).toArray := by
 intro vss
 induction vss with
 | nil => intro k pre old _ _ h; have : old = [] := List.length_eq_zero_iff.1 (by simpa using h); subst this; simp [Instr.fill]
 | cons vs vss ih =>
  intro k pre old hs hp ho
  have h1 : vs.length = sz := hs vs (by simp)
  have hlen : sz ≤ old.length := by rw [ho, List.length_cons, Nat.succ_mul]; omega
  simp only [List.zipIdx_cons, List.map_cons, Instr.fill]
  have hc : (Value.agg vs.toArray).cells = vs.toArray := rfl
  rw [hc, if_neg (by simp; omega)]
  have := foldl_set vs (k * sz) pre (old.drop sz) (old.take sz) (by simp; omega) hp
  rw [List.append_assoc, List.take_append_drop] at this
  have e : ∀ (cs : Array Value), vs.toArray.zipIdx.foldl (fun cs x => cs.setIfInBounds (k * sz + x.2) x.1) cs = (vs.zipIdx 0).foldl (fun cs x => cs.setIfInBounds (k * sz + x.2) x.1) cs := by
   intro cs
   rw [← Array.foldl_toList]
   simp
  rw [e, this]
  have := ih (k + 1) (pre ++ vs) (old.drop sz) (fun v hv => hs v (by simp [hv])) (by simp [hp, h1, Nat.succ_mul]) (by simp [ho, Nat.succ_mul])
  rw [this]
  simp

/-- block b holds the polynomials fs, one behind the other -/
def PolS (w : World) (b : Nat) (fs : List (Nat → Nat)) : Prop := w.heap[b]? = some (.cells ((fs.map (bl 64)).flatten).toArray 26 (0, 0))
theorem PolS.lt {w : World} {b : Nat} {fs : List (Nat → Nat)} (h : PolS w b fs) : b < w.heap.size := by
 unfold PolS at h
 exact (Array.getElem?_eq_some_iff.1 h).1
theorem PolS.below {w w' : World} {B b : Nat} {fs : List (Nat → Nat)} (h : PolS w b fs) (hb : Below B w w') (e : b < B) : PolS w' b fs := by
 unfold PolS at *; rw [hb.block b e]; exact h
theorem PolS.zw {w w' : World} {b : Nat} {fs : List (Nat → Nat)} (h : PolS w b fs) (hb : Below w.heap.size w w') : PolS w' b fs := PolS.below h hb (PolS.lt h)
theorem flat_get : ∀ (fs : List (Nat → Nat)) (i : Nat) (f : Nat → Nat) (j : Nat), fs[i]? = some f → j < 64 → ((fs.map (bl 64)).flatten)[i * 64 + j]? = some (.int .u8 (f j : Int))
 | [], _, _, _, h, _ => by simp at h
 | g :: fs, 0, f, j, h, hj => by
  simp only [List.getElem?_cons_zero, Option.some.injEq] at h
  subst h
  rw [List.map_cons, List.flatten_cons, Nat.zero_mul, Nat.zero_add, List.getElem?_append_left (by rw [zl]; exact hj)]
  simp [bl, hj]
 | g :: fs, i + 1, f, j, h, hj => by
  rw [List.map_cons, List.flatten_cons, List.getElem?_append_right (by rw [zl]; omega), zl]
  have := flat_get fs i f j (by simpa using h) hj
  rw [show (i + 1) * 64 + j - 64 = i * 64 + j by omega]
  exact this
theorem PolS.range {w : World} {b : Nat} {fs : List (Nat → Nat)} (h : PolS w b fs) {i : Nat} {f : Nat → Nat} (hi : fs[i]? = some f) : w.rangeAt b (i * 64) (bl 64 f) := by
 intro j v hv
 have hj : j < 64 := by
  have := (List.getElem?_eq_some_iff.1 hv).1
  rwa [zl] at this
 rw [cell_of_row _ _ _ _ _ _ h]
 have e : (bl 64 f)[j]? = some (.int .u8 (f j : Int)) := by simp [bl, hj]
 rw [e] at hv
 injection hv with hv
 subst hv
 simpa using flat_get fs i f j hi hj
section
variable {P : Program}
theorem wpList_build_polys {ops : Array Oper} {rest : List Oper} {o : Oper} {a : Act} {w : World} {Q : Exit → Act → World → Prop} (hg : o.guard = none) (t : TypeId) (parts : Array (Nat × Operand)) (fs : List (Nat → Nat))
 (ho : o.op = .buildSlice t fs.length parts) (e : TypeId) (he : e = 26)
 (hu : P.underlying t = some (.slice e)) (hie : (P.info? e).map (fun i => (i.size, i.zero.isSome)) = some (64, true)) (hpos : 0 < fs.length) (hsm : fs.length ≤ 8)
 (hp : (parts.toList.map fun x => (x.1, a.eval x.2)) = ((fs.map (bl 64)).zipIdx 0).map fun x => (x.2, Value.agg x.1.toArray))
 (h : ∀ w', w' = w.alloc (.cells ((fs.map (bl 64)).flatten).toArray e) → PolS w' w.heap.size fs → Below w.heap.size w w' → wpList P ops Q rest (a.put o.dst (.slice (some ⟨w.heap.size, 0, none⟩) fs.length fs.length)) w') : wpList P ops Q (o :: rest) a w := by
 subst he
 cases hi : P.info? 26 with
 | none => simp [hi] at hie
 | some ie =>
  simp only [hi, Option.map_some, Option.some.injEq, Prod.mk.injEq] at hie
  obtain ⟨hs, hz⟩ := hie
  obtain ⟨z, hzz⟩ := Option.isSome_iff_exists.1 hz
  refine wpList_buildSlice hg t 26 fs.length parts ho _ ie z hu hi hzz (by rw [hs]; omega) (by rw [hs]; omega) ?_ (h _ rfl (heap_alloc_last w _) (zal _ _))
  rw [Array.toList_map, hp, hs]
  have := fill_cat 64 (fs.map (bl 64)) 0 [] ((Array.range (fs.length * 64)).map (z.cells[· % z.cells.size]!)).toList (by
   intro vs hv
   obtain ⟨f, _, rfl⟩ := List.mem_map.1 hv
   exact zl _ _) (by simp) (by simp)
  rw [List.nil_append, List.nil_append, Array.toArray_toList] at this
  exact this
end
attribute [irreducible] PolS
end Go.Proofs.Ytgcajgmokcmcgaa
end
section
namespace Go.Proofs.Ytgcajgmokcmcgaa
open Go.RowKit
theorem Try.size22 : (Try.prog.info? 22).map (·.size) = some 64 := by kernel_rfl
theorem Try.size26 : (Try.prog.info? 26).map (·.size) = some 64 := by kernel_rfl
theorem Try.size5 : (Try.prog.info? 5).map (·.size) = some 1 := by kernel_rfl
theorem Try.mixed : Try.prog.follows .mixedOrders = true := by kernel_rfl
theorem ret_int {k : IntKind} {a b : Int} (h : a = b) : Ending.returned (.int k a) = .returned (.int k b) := by rw [h]
theorem ret_bool {a b : Bool} (h : a = b) : Ending.returned (.bool a) = .returned (.bool b) := by rw [h]

theorem isPrime_any (p : Int) (w : World) : Calls Try.prog 123 #[.int .i64 p] w fun e w' => e = .returned (.bool (okP p)) ∧ w = w' := by
 cases hp : okP p with
 | true =>
  rcases okP_cases hp with rfl | rfl | rfl | rfl <;>
  · go_enter Try.func123, Try.ntmps123
    go_wp2
    go_ret
    exact ⟨rfl, rfl⟩
 | false =>
  obtain ⟨h2, h3, h5, h7⟩ := okP_false hp
  go_enter Try.func123, Try.ntmps123
  go_wp2
  go_ret
  exact ⟨rfl, rfl⟩
theorem l01Prime_any (p : Int) (w : World) : Calls Try.prog 119 #[.int .i64 p] w fun e w' => e = .returned (.bool (okP p)) ∧ w = w' := by
 cases hp : okP p with
 | true =>
  rcases okP_cases hp with rfl | rfl | rfl | rfl <;>
  · go_enter Try.func119, Try.ntmps119
    go_wp2
    go_ret
    exact ⟨rfl, rfl⟩
 | false =>
  obtain ⟨h2, h3, h5, h7⟩ := okP_false hp
  go_enter Try.func119, Try.ntmps119
  go_wp2
  go_ret
  exact ⟨rfl, rfl⟩

theorem byteOk (f : Nat → Nat) (hf : byte f) (k : Nat) : (0 : Int) ≤ (f k : Int) ∧ (f k : Int) ≤ 255 := by have := hf k; omega

set_option maxHeartbeats 800000 in
theorem IsPoly_any (p : Int) (f : Nat → Nat) (hf : byte f) (w : World) : Calls Try.prog 124 #[.int .i64 p, .agg (zb 64 f)] w fun e w' => e = .returned (.bool (okA p f)) ∧ Below w.heap.size w w' := by
 cases hp : okP p with
 | false =>
  go_enter Try.func124, Try.ntmps124
  go_wp2_with (go_at_call 123; refine (isPrime_any _ _).mono ?_; rintro e w' ⟨rfl, rfl⟩)
  go_ret
  exact ⟨ret_bool (by simp [okA, hp]), (Below.refl _ _).alloc (Nat.le_refl _) _⟩
 | true =>
  have hb := okP_le hp
  go_enter Try.func124, Try.ntmps124
  go_wp2_with (first | (go_at_call 123; refine (isPrime_any _ _).mono ?_; rintro e w' ⟨rfl, rfl⟩) | refine zlb rfl 26 _ rfl _ rfl 64 26 _ (Blk.new _ _ _ _) 5 Try.underlying26 Try.size26 ?_)
  go_loop [11] (fun i => ∃ k : Nat, k ≤ 64 ∧ (∀ j, j < k → (f j : Int) < p) ∧ i = .int .i64 (k : Int)) (fun i => 64 - (intOf i).toNat)
  case atStart => exact ⟨0, by omega, fun j hj => by omega, rfl⟩
  case round =>
   obtain ⟨k, hk, hall, rfl⟩ := hrel
   have HA := Lib.hid hall; clear hall
   by_cases hlt : k < 64
   · have hx := fun W => run_index_blk (P := Try.prog) 26 5 64 f .i64 k Try.underlying26 Try.underlying5 Try.size5 hlt W
     have hfk := byteOk f hf k
     by_cases hge : p ≤ (f k : Int)
     · go_wp2_with fail
       go_ret
       refine ⟨ret_bool ?_, (Below.refl _ _).alloc (Nat.le_refl _) _⟩
       cases h : okA p f with
       | false => rfl
       | true => have := okA_lt h hlt; omega
     · go_wp2_with fail
       go_round
       case rel =>
        refine ⟨k + 1, by omega, fun j hj => ?_, by go_num⟩
        by_cases e : j = k
        · subst e; omega
        · exact HA.out j (by omega)
       case measure => simp [intOf]; omega
   · go_wp2_with fail
     go_ret
     refine ⟨ret_bool ?_, (Below.refl _ _).alloc (Nat.le_refl _) _⟩
     exact (okA_iff.2 ⟨hp, fun i hi => HA.out i (by omega)⟩).symm

set_option maxHeartbeats 800000 in
theorem l01Is_any (p : Int) (f : Nat → Nat) (hf : byte f) (w : World) : Calls Try.prog 120 #[.int .i64 p, .agg (zb 64 f)] w fun e w' => e = .returned (.bool (okA p f)) ∧ Below w.heap.size w w' := by
 go_enter Try.func120, Try.ntmps120
 go_wp2_with fail
 go_loop [5] (fun i => ∃ k : Nat, k ≤ 64 ∧ (∀ j, j < k → (f j : Int) < p) ∧ i = .int .i64 (k : Int)) (fun i => 64 - (intOf i).toNat)
 case atStart => exact ⟨0, by omega, fun j hj => by omega, rfl⟩
 case round =>
  obtain ⟨k, hk, hall, rfl⟩ := hrel
  have HA := Lib.hid hall; clear hall
  by_cases hlt : k < 64
  · have hc := (Blk.new w 64 26 f).cell hlt
    have hfk := byteOk f hf k
    by_cases hge : p ≤ (f k : Int)
    · go_wp2_with fail
      go_ret
      refine ⟨ret_bool ?_, (Below.refl _ _).alloc (Nat.le_refl _) _⟩
      cases h : okA p f with
      | false => rfl
      | true => have := okA_lt h hlt; omega
    · go_wp2_with fail
      go_round
      case rel =>
       refine ⟨k + 1, by omega, fun j hj => ?_, by go_num⟩
       by_cases e : j = k
       · subst e; omega
       · exact HA.out j (by omega)
      case measure => simp [intOf]; omega
  · go_wp2_with (go_at_call 119; refine (l01Prime_any _ _).mono ?_; rintro e w' ⟨rfl, rfl⟩)
    go_ret
    refine ⟨ret_bool ?_, (Below.refl _ _).alloc (Nat.le_refl _) _⟩
    cases hp : okP p with
    | false => simp [okA, hp]
    | true => exact (okA_iff.2 ⟨hp, fun i hi => HA.out i (by omega)⟩).symm
end Go.Proofs.Ytgcajgmokcmcgaa
end
section
namespace Go.Proofs.Ytgcajgmokcmcgaa
open Go.RowKit
theorem codeL_p {p : Int} {fs : List (Nat → Nat)} (h : okP p = false) : codeL p fs = 1 := by simp [codeL, h]
theorem codeL_bad {p : Int} {fs : List (Nat → Nat)} {k : Nat} {f : Nat → Nat} (hk : fs[k]? = some f) (h : okA p f = false) : codeL p fs = 1 := by
 have : ¬ (fs.all (okA p) = true) := by
  rw [List.all_eq_true]
  intro h2
  have := h2 f (List.mem_of_getElem? hk)
  rw [h] at this; cases this
 simp [codeL, this]
theorem codeL_ok {p : Int} {fs : List (Nat → Nat)} (hp : okP p = true) (h : ∀ (j : Nat) (f : Nat → Nat), fs[j]? = some f → okA p f = true) : codeL p fs = 0 := by
 have : fs.all (okA p) = true := by
  rw [List.all_eq_true]
  intro f hf
  obtain ⟨j, hj⟩ := List.getElem?_of_mem hf
  exact h j f hj
 simp [codeL, hp, this]
set_option maxRecDepth 100000 in
set_option maxHeartbeats 800000 in
theorem checkPolys_any (p : Int) (fs : List (Nat → Nat)) (hf : ∀ f ∈ fs, byte f) (b : Nat) (w : World) (hs : PolS w b fs) (hl : fs.length ≤ 8) :
 Calls Try.prog 76 #[.int .i64 p, .slice (some ⟨b, 0, none⟩) fs.length fs.length] w fun e w' => e = .returned (.int .i64 (codeL p fs)) ∧ Below w.heap.size w w' := by
 cases hp : okP p with
 | false =>
  go_enter Try.func76, Try.ntmps76
  go_wp2_with (go_at_call 123; refine (isPrime_any _ _).mono ?_; rintro e w' ⟨rfl, rfl⟩)
  go_ret
  exact ⟨ret_int (codeL_p hp).symm, Below.refl _ _⟩
 | true =>
  go_enter Try.func76, Try.ntmps76
  go_wp2_with (go_at_call 123; refine (isPrime_any _ _).mono ?_; rintro e w' ⟨rfl, rfl⟩)
  go_loopw [12] (fun i wr => ∃ k : Nat, k ≤ fs.length ∧ (∀ j f, j < k → fs[j]? = some f → okA p f = true) ∧ i = .int .i64 (k : Int) ∧ Below w.heap.size w wr) (fun i _ => fs.length - (intOf i).toNat)
  case atStart => exact ⟨0, by omega, fun j f hj => by omega, rfl, Below.refl _ _⟩
  case round =>
   obtain ⟨k, hk, hall, rfl, hb⟩ := hrel
   have HA := Lib.hid hall; clear hall
   by_cases hlt : k < fs.length
   · obtain ⟨f, hfk⟩ : ∃ f, fs[k]? = some f := ⟨_, List.getElem?_eq_getElem hlt⟩
     have hr := (hs.zw hb).range hfk
     have HK := Lib.hid hfk
     have hbf := hf f (List.mem_of_getElem? hfk)
     clear hfk
     have hb2 := okP_le hp
     cases hkk : okA p f with
     | false =>
      go_wp2_with (first | refine wpList_load_mid rfl 26 _ rfl b (k * 64) rfl _ _ hr Try.underlying26 rfl (by rw [zl]; exact Try.size26) ?_ | refine wpList_store_new rfl 26 _ _ rfl _ 26 64 f rfl rfl rfl Try.size26 ?_ | refine zlb rfl 26 _ rfl _ rfl 64 26 _ (Blk.new _ _ _ _) 5 Try.underlying26 Try.size26 ?_ | (go_at_call 124; refine (IsPoly_any _ _ hbf _).mono ?_; rintro e w' ⟨rfl, hw⟩))
      go_ret
      exact ⟨ret_int (codeL_bad HK.out hkk).symm, hb.trans (((zal _ _).trans (hw.mono (by simp))).mono hb.size)⟩
     | true =>
      go_wp2_with (first | refine wpList_load_mid rfl 26 _ rfl b (k * 64) rfl _ _ hr Try.underlying26 rfl (by rw [zl]; exact Try.size26) ?_ | refine wpList_store_new rfl 26 _ _ rfl _ 26 64 f rfl rfl rfl Try.size26 ?_ | refine zlb rfl 26 _ rfl _ rfl 64 26 _ (Blk.new _ _ _ _) 5 Try.underlying26 Try.size26 ?_ | (go_at_call 124; refine (IsPoly_any _ _ hbf _).mono ?_; rintro e w' ⟨rfl, hw⟩))
      go_roundw
      case rel =>
       refine ⟨k + 1, by omega, fun j g hj hg => ?_, by go_num, hb.trans (((zal _ _).trans (hw.mono (by simp))).mono hb.size)⟩
       by_cases e : j = k
       · subst e
         have := HK.out
         rw [hg] at this
         injection this with this
         subst this
         exact hkk
       · exact HA.out j g (by omega) hg
      case measure => simp [intOf]; omega
   · go_wp2_with fail
     go_ret
     refine ⟨ret_int (codeL_ok hp fun j f hj => HA.out j f ?_ hj).symm, hb⟩
     have := (List.getElem?_eq_some_iff.1 hj).1
     omega
set_option maxRecDepth 100000 in
set_option maxHeartbeats 800000 in
theorem l01Code_any (p : Int) (fs : List (Nat → Nat)) (hf : ∀ f ∈ fs, byte f) (b : Nat) (w : World) (hs : PolS w b fs) (hl : fs.length ≤ 8) :
 Calls Try.prog 74 #[.int .i64 p, .slice (some ⟨b, 0, none⟩) fs.length fs.length] w fun e w' => e = .returned (.int .i64 (codeL p fs)) ∧ Below w.heap.size w w' := by
 cases hp : okP p with
 | false =>
  go_enter Try.func74, Try.ntmps74
  go_wp2_with (go_at_call 119; refine (l01Prime_any _ _).mono ?_; rintro e w' ⟨rfl, rfl⟩)
  go_ret
  exact ⟨ret_int (codeL_p hp).symm, Below.refl _ _⟩
 | true =>
  go_enter Try.func74, Try.ntmps74
  go_wp2_with (go_at_call 119; refine (l01Prime_any _ _).mono ?_; rintro e w' ⟨rfl, rfl⟩)
  go_loopw [5] (fun i wr => ∃ k : Nat, k ≤ fs.length ∧ (∀ j f, j < k → fs[j]? = some f → okA p f = true) ∧ i = .int .i64 (k : Int) ∧ Below w.heap.size w wr) (fun i _ => fs.length - (intOf i).toNat)
  case atStart => exact ⟨0, by omega, fun j f hj => by omega, rfl, Below.refl _ _⟩
  case round =>
   obtain ⟨k, hk, hall, rfl, hb⟩ := hrel
   have HA := Lib.hid hall; clear hall
   by_cases hlt : k < fs.length
   · obtain ⟨f, hfk⟩ : ∃ f, fs[k]? = some f := ⟨_, List.getElem?_eq_getElem hlt⟩
     have hr := (hs.zw hb).range hfk
     have HK := Lib.hid hfk
     have hbf := hf f (List.mem_of_getElem? hfk)
     clear hfk
     cases hkk : okA p f with
     | false =>
      go_wp2_with (first | refine wpList_load_mid rfl 26 _ rfl b (k * 64) rfl _ _ hr Try.underlying26 rfl (by rw [zl]; exact Try.size26) ?_ | (go_at_call 120; refine (l01Is_any _ _ hbf _).mono ?_; rintro e w' ⟨rfl, hw⟩))
      go_ret
      exact ⟨ret_int (codeL_bad HK.out hkk).symm, hb.trans (hw.mono hb.size)⟩
     | true =>
      go_wp2_with (first | refine wpList_load_mid rfl 26 _ rfl b (k * 64) rfl _ _ hr Try.underlying26 rfl (by rw [zl]; exact Try.size26) ?_ | (go_at_call 120; refine (l01Is_any _ _ hbf _).mono ?_; rintro e w' ⟨rfl, hw⟩))
      go_roundw
      case rel =>
       refine ⟨k + 1, by omega, fun j g hj hg => ?_, by go_num, hb.trans (hw.mono hb.size)⟩
       by_cases e : j = k
       · subst e
         have := HK.out
         rw [hg] at this
         injection this with this
         subst this
         exact hkk
       · exact HA.out j g (by omega) hg
      case measure => simp [intOf]; omega
   · go_wp2_with fail
     go_ret
     refine ⟨ret_int (codeL_ok hp fun j f hj => HA.out j f ?_ hj).symm, hb⟩
     have := (List.getElem?_eq_some_iff.1 hj).1
     omega
end Go.Proofs.Ytgcajgmokcmcgaa
end
section
namespace Go.Proofs.Ytgcajgmokcmcgaa
open Go.RowKit
set_option linter.unusedVariables false
set_option maxRecDepth 100000 in
set_option maxHeartbeats 400000 in
theorem toPoly_any (f : Nat → Nat) (hf : byte f) (w : World) : Calls Try.prog 19 #[.agg (zb 64 f)] w fun e w' => e = .returned (.agg (zb 64 f)) ∧ Below w.heap.size w w' := by
 go_enter Try.func19, Try.ntmps19
 go_wp2_with fail
 rw [← z64]
 go_loopw [4] (fun i wr => ∃ k : Nat, k ≤ 64 ∧ i = .int .i64 (k : Int) ∧ Below w.heap.size w wr ∧ Blk wr w.heap.size 64 22 f ∧ Blk wr (w.heap.size + 1) 64 26 (fun _ => 0) ∧ Blk wr (w.heap.size + 1 + 1) 64 26 (fun i => if i < k then f i else 0)) (fun i _ => 64 - (intOf i).toNat)
 case atStart =>
  refine ⟨0, by omega, rfl, (((Below.refl _ _).alloc (Nat.le_refl _) _).alloc (by simp) _).alloc (by simp; omega) _, ?_, ?_, ?_⟩
  · exact (((Blk.new w _ _ _).alloc _).alloc _)
  · have := ((Blk.new (w.alloc (.cells (zb 64 f) 22)) 64 26 (fun _ => 0)).alloc (.cells (zb 64 fun _ => 0) 26)); simpa using this
  · have := (Blk.new ((w.alloc (.cells (zb 64 f) 22)).alloc (.cells (zb 64 fun _ => 0) 26)) 64 26 (fun _ => 0)); simpa using this
 case round =>
  obtain ⟨k, hk, rfl, hb, h0, h1, h2⟩ := hrel
  by_cases hlt : k < 64
  · have c4 := h0.cell hlt
    have c5 := h2.cell hlt
    have z4 := h2.frozen k
    have b1 := byteOk f hf k
    go_wp2_with fail
    go_roundw
    case rel =>
     refine ⟨k + 1, by omega, by go_num, hb.setCell (by simp; omega) _, ?_, ?_, ?_⟩
     · exact h0.setOther (by simp; omega)
     · exact h1.setOther (by simp)
     · exact (h2.set (v := f k) rfl).congr (fun i _ => upd_lt (a := f) rfl i)
    case measure => simp [intOf]; omega
  · have e : k = 64 := by omega
    subst e
    go_wp2_with (first | refine zlb rfl 26 _ rfl _ rfl 64 26 _ (h2) 5 Try.underlying26 Try.size26 ?_ | refine wpList_store_blk rfl 26 _ _ rfl _ 64 ((fun i => if i < 64 then f i else 0)) rfl rfl 26 _ (h1) Try.size26 ?_)
    refine bodyPost_ret (zrb rfl _ _ _ 64 26 5 _ rfl (h1.row _) Try.underlying26 Try.size26) rfl ⟨?_, ?_⟩
    · rw [zbc (g := f)]
      intro i hi; simp [hi]
    · exact below_setRow hb (by omega) _

/-- f and k times g, modulo p -/
def addK (p : Nat) (f g : Nat → Nat) (k : Int) : Nat → Nat := fun i => (((f i : Int) + k * (g i : Int)) % (p : Int)).toNat
theorem tmod_twice (x : Int) (p : Nat) (hp : 0 < p) : (x.tmod p + p).tmod p = x % (p : Int) := by
 have h1 : -(p : Int) < x.tmod p := by
  have := Int.tmod_lt_of_pos (-x) (b := (p : Int)) (by omega)
  rw [Int.neg_tmod] at this; omega
 rw [Int.tmod_eq_emod_of_nonneg (by omega), Int.add_emod_right]
 rw [Int.tmod_def, Int.sub_mul_emod_self_left]
end Go.Proofs.Ytgcajgmokcmcgaa
end
section
namespace Go.Proofs.Ytgcajgmokcmcgaa
open Go.RowKit
set_option linter.unusedVariables false
theorem Try.elem26 : (Try.prog.info? 26).map (fun i => (i.size, i.zero.isSome)) = some (64, true) := by kernel_rfl
theorem codeL_two (p : Int) (fs : List (Nat → Nat)) : codeL p fs = 0 ∨ codeL p fs = 1 := by
 unfold codeL; split <;> simp
theorem codeL_zero {p : Int} {fs : List (Nat → Nat)} (h : codeL p fs = 0) : okP p = true ∧ ∀ f ∈ fs, okA p f = true := by
 unfold codeL at h
 split at h
 · rename_i h'
   simpa [List.all_eq_true] using h'
 · cases h
end Go.Proofs.Ytgcajgmokcmcgaa
end
section
namespace Go.Proofs.Ytgcajgmokcmcgaa
open Go.RowKit
set_option linter.unusedVariables false
theorem okP_nat {p : Int} (h : okP p = true) : ∃ n : Nat, p = (n : Int) ∧ 2 ≤ n ∧ n ≤ 7 := by
 have := okP_le h
 exact ⟨p.toNat, by omega, by omega, by omega⟩
theorem lt_of_code {n : Nat} {fs : List (Nat → Nat)} (hc : codeL (n : Int) fs = 0) {f : Nat → Nat} (h : f ∈ fs) : ∀ i, i < 64 → f i < n := by
 intro i hi
 have := okA_lt ((codeL_zero hc).2 f h) hi
 omega
def degB (f : Nat → Nat) : Nat → Int
 | 0 => -1
 | n + 1 => if f n ≠ 0 then (n : Int) else degB f n
def deg (f : Nat → Nat) : Int := degB f 64
theorem degB_step {f : Nat → Nat} {k : Nat} (h : f k = 0) : degB f (k + 1) = degB f k := by simp [degB, h]
theorem degB_hit {f : Nat → Nat} {k : Nat} (h : f k ≠ 0) : degB f (k + 1) = (k : Int) := by simp [degB, h]
set_option maxHeartbeats 400000 in
theorem degree_any (f : Nat → Nat) (w : World) :
 Calls Try.prog 69 #[.agg (zb 64 f)] w fun e w' => e = .returned (.int .i64 (deg f)) ∧ Below w.heap.size w w' := by
 go_enter Try.func69, Try.ntmps69
 go_wp2_with fail
 go_loop [3] (fun i => ∃ k : Nat, k ≤ 64 ∧ degB f 64 = degB f k ∧ i = .int .i64 ((k : Int) - 1)) (fun i => (intOf i + 1).toNat)
 case atStart => exact ⟨64, by omega, rfl, by rfl⟩
 case round =>
  obtain ⟨k, hk, hd, rfl⟩ := hrel
  have hD := Lib.hid hd; clear hd
  rcases k with _ | k
  · go_wp2
    go_ret
    exact ⟨ret_int (by rw [deg, hD.out]; rfl), (Below.refl _ _).alloc (Nat.le_refl _) _⟩
  · have hc := (Blk.new w 64 26 f).cell (i := k) (by omega)
    have e1 : ((k + 1 : Nat) : Int) - 1 = (k : Int) := by omega
    rw [e1]
    by_cases h0 : f k = 0
    · have hb : ((f k : Int) != 0) = false := by simp [h0]
      go_wp2
      go_round
      case rel => exact ⟨k, by omega, by rw [hD.out, degB_step h0], by go_num⟩
      case measure => simp [intOf]
    · have hb : ((f k : Int) != 0) = true := by simpa using h0
      go_wp2
      go_ret
      exact ⟨ret_int (by rw [deg, hD.out, degB_hit h0]), (Below.refl _ _).alloc (Nat.le_refl _) _⟩
set_option maxHeartbeats 400000 in
theorem l01Deg_any (f : Nat → Nat) (w : World) :
 Calls Try.prog 63 #[.agg (zb 64 f)] w fun e w' => e = .returned (.int .i64 (deg f)) ∧ Below w.heap.size w w' := by
 go_enter Try.func63, Try.ntmps63
 go_wp2_with fail
 go_loop [3] (fun i => ∃ k : Nat, k ≤ 64 ∧ degB f 64 = degB f k ∧ i = .int .i64 ((k : Int) - 1)) (fun i => (intOf i + 1).toNat)
 case atStart => exact ⟨64, by omega, rfl, by rfl⟩
 case round =>
  obtain ⟨k, hk, hd, rfl⟩ := hrel
  have hD := Lib.hid hd; clear hd
  rcases k with _ | k
  · go_wp2
    go_ret
    exact ⟨ret_int (by rw [deg, hD.out]; rfl), (Below.refl _ _).alloc (Nat.le_refl _) _⟩
  · have hc := (Blk.new w 64 26 f).cell (i := k) (by omega)
    have e1 : ((k + 1 : Nat) : Int) - 1 = (k : Int) := by omega
    rw [e1]
    by_cases h0 : f k = 0
    · have hb : ((f k : Int) == 0) = true := by simp [h0]
      go_wp2
      go_round
      case rel => exact ⟨k, by omega, by rw [hD.out, degB_step h0], by go_num⟩
      case measure => simp [intOf]
    · have hb : ((f k : Int) == 0) = false := by simpa using h0
      go_wp2
      go_ret
      exact ⟨ret_int (by rw [deg, hD.out, degB_hit h0]), (Below.refl _ _).alloc (Nat.le_refl _) _⟩
end Go.Proofs.Ytgcajgmokcmcgaa
end
section
namespace Go.Proofs.Ytgcajgmokcmcgaa
open Go.RowKit
set_option linter.unusedVariables false
theorem degB_spec (f : Nat → Nat) : ∀ k, (degB f k = -1 ∧ ∀ j, j < k → f j = 0) ∨ ∃ d, d < k ∧ degB f k = (d : Int) ∧ f d ≠ 0 ∧ ∀ j, d < j → j < k → f j = 0
 | 0 => .inl ⟨rfl, fun j hj => by omega⟩
 | k + 1 => by
  by_cases h : f k = 0
  · rw [degB_step h]
    rcases degB_spec f k with ⟨e, hz⟩ | ⟨d, hd, e, hne, hz⟩
    · refine .inl ⟨e, fun j hj => ?_⟩
      by_cases hj2 : j = k
      · rw [hj2]; exact h
      · exact hz j (by omega)
    · refine .inr ⟨d, by omega, e, hne, fun j h1 h2 => ?_⟩
      by_cases hj2 : j = k
      · rw [hj2]; exact h
      · exact hz j h1 (by omega)
  · exact .inr ⟨k, by omega, degB_hit h, h, fun j h1 h2 => by omega⟩
theorem deg_spec (f : Nat → Nat) : (deg f = -1 ∧ ∀ j, j < 64 → f j = 0) ∨ ∃ d : Nat, d < 64 ∧ deg f = (d : Int) ∧ f d ≠ 0 ∧ ∀ j : Nat, d < j → j < 64 → f j = 0 := degB_spec f 64
end Go.Proofs.Ytgcajgmokcmcgaa
end
section
namespace Go.Proofs.Ytgcajgmokcmcgaa
open Go.RowKit
set_option linter.unusedVariables false
/-- digit i of n at base p -/
def dgt (p n i : Nat) : Nat := n / p ^ i % p
def ofN (p : Nat) (n : Nat) : Nat → Nat := fun i => dgt p n i
end Go.Proofs.Ytgcajgmokcmcgaa
end
section
namespace Go.Proofs.Ytgcajgmokcmcgaa
open Go.RowKit
set_option linter.unusedVariables false
theorem small_nat_mul {a b p : Nat} (hp : p ≤ 7) (ha : a < p) (hb : b < p) : (a : Int) * (b : Int) ≤ 36 ∧ 0 ≤ (a : Int) * (b : Int) := by
 refine ⟨?_, Int.mul_nonneg (by omega) (by omega)⟩
 have : a * b ≤ 6 * 6 := Nat.mul_le_mul (by omega) (by omega)
 have h : ((a * b : Nat) : Int) ≤ 36 := by omega
 rwa [Int.natCast_mul] at h
end Go.Proofs.Ytgcajgmokcmcgaa
end
section
namespace Go.Proofs.Ytgcajgmokcmcgaa
theorem zcz (f : Nat → Nat) {i : Nat} (h : 64 ≤ i) : cut f i = 0 := by unfold cut; rw [if_neg (by omega)]
theorem cut_in (f : Nat → Nat) {i : Nat} (h : i < 64) : cut f i = f i := by unfold cut; rw [if_pos h]
end Go.Proofs.Ytgcajgmokcmcgaa
end
section
namespace Go.Proofs.Ytgcajgmokcmcgaa
open Go.RowKit
set_option linter.unusedVariables false
attribute [local irreducible] deg
theorem Try.size141 : (Try.prog.info? 141).map (·.size) = some 128 := by kernel_rfl
theorem zero128 : zb 128 (fun _ => 0) = Try.zeroCells141 := by simp only [zb, bl]; kernel_rfl
end Go.Proofs.Ytgcajgmokcmcgaa
end
section
namespace Go.Proofs.Ytgcajgmokcmcgaa
open Go.RowKit
def setL (L : Nat → Bool) (i : Nat) : Nat → Bool := fun j => if j = i then true else L j
def updV (v : Nat → Value) (i : Nat) (y : Value) : Nat → Value := fun j => if j = i then y else v j
/-- the frame a0 with the value v i laid into the slot of operation i, for each i -/
def frL (a0 : Act) : List Oper → Nat → (Nat → Value) → Act
 | [], _, _ => a0
 | o :: os, k, v => frL (a0.put o.dst (v k)) os (k + 1) v
theorem zdq {A : Array Edge} {L : Nat → Bool} (hd : ∀ e, e ∈ A → Region.binds .any e = true → L e.on = true) (i : Nat) (h : A.toList.any (fun e => e.on == i && Region.binds .any e) = true) : L i = true := by
 obtain ⟨e, he, h2⟩ := List.any_eq_true.1 h
 simp only [Bool.and_eq_true, beq_iff_eq] at h2
 rw [← h2.1]
 exact hd e (by simpa using he) h2.2
def fr (a0 : Act) (ops : Array Oper) (v : Nat → Value) : Act := frL a0 ops.toList 0 v

/-- all later edges lead back; no slot is written twice -/
def edgesOk (ops : Array Oper) : Bool := (List.range ops.size).all fun i => (ops[i]?.map fun o => o.after.all fun e => !Region.binds .any e || decide (e.on < i)).getD true
def dstsOkL : List Oper → Bool
 | [] => true
 | o :: os => (match o.dst with | none => true | some d => os.all fun q => q.dst != some d) && dstsOkL os
theorem put_comm {a : Act} {d e : Option Tmp} {x y : Value} (h : d = none ∨ d ≠ e) : (a.put d x).put e y = (a.put e y).put d x := by
 cases d with
 | none => cases e <;> rfl
 | some d =>
  cases e with
  | none => rfl
  | some e =>
   have hne : d ≠ e := by
    rcases h with h | h
    · cases h
    · exact fun h' => h (by rw [h'])
   simp only [Act.put]
   congr 1
   apply Array.ext_getElem?
   intro j
   simp only [Array.getElem?_setIfInBounds, Array.size_setIfInBounds]
   by_cases h1 : e = j <;> by_cases h2 : d = j <;> simp_all
theorem put_twice {a : Act} {d : Option Tmp} {x y : Value} : (a.put d x).put d y = a.put d y := by
 cases d with
 | none => rfl
 | some d => simp [Act.put]
theorem frL_congr : ∀ (os : List Oper) (a0 : Act) (k : Nat) (v v' : Nat → Value), (∀ j, k ≤ j → v j = v' j) → frL a0 os k v = frL a0 os k v'
 | [], _, _, _, _, _ => rfl
 | o :: os, a0, k, v, v', h => by
  simp only [frL]
  rw [h k (Nat.le_refl _)]
  exact frL_congr os _ (k + 1) v v' fun j hj => h j (by omega)
theorem frL_put : ∀ (os : List Oper) (a0 : Act) (k : Nat) (v : Nat → Value) (d : Option Tmp) (y : Value), (d = none ∨ os.all (fun q => q.dst != d) = true) → (frL a0 os k v).put d y = frL (a0.put d y) os k v
 | [], _, _, _, _, _, _ => rfl
 | o :: os, a0, k, v, d, y, h => by
  simp only [frL]
  have h' : d = none ∨ os.all (fun q => q.dst != d) = true := by
   rcases h with h | h
   · exact .inl h
   · simp only [List.all_cons, Bool.and_eq_true] at h; exact .inr h.2
  rw [frL_put os _ (k + 1) v d y h']
  congr 1
  rcases h with h | h
  · subst h; rfl
  · simp only [List.all_cons, Bool.and_eq_true] at h
    have : o.dst ≠ d := by simpa using h.1
    exact put_comm (.inr this)
theorem frL_step : ∀ (os : List Oper) (a0 : Act) (k : Nat) (v : Nat → Value) (i : Nat) (o : Oper) (y : Value), dstsOkL os = true → os[i]? = some o → (frL a0 os k v).put o.dst y = frL a0 os k (updV v (k + i) y)
 | [], _, _, _, _, _, _, _, h => by simp at h
 | p :: os, a0, k, v, 0, o, y, hd, h => by
  simp only [List.getElem?_cons_zero, Option.some.injEq] at h
  subst h
  simp only [dstsOkL, Bool.and_eq_true] at hd
  have h' : p.dst = none ∨ os.all (fun q => q.dst != p.dst) = true := by
   cases hp : p.dst with
   | none => exact .inl rfl
   | some d => right; have := hd.1; rw [hp] at this; exact this
  simp only [frL, Nat.add_zero]
  rw [frL_put os _ (k + 1) v p.dst y h', put_twice]
  have : updV v k y k = y := by simp [updV]
  rw [this]
  exact frL_congr os _ (k + 1) _ _ fun j hj => by simp [updV, show j ≠ k by omega]
 | p :: os, a0, k, v, i + 1, o, y, hd, h => by
  simp only [dstsOkL, Bool.and_eq_true] at hd
  simp only [List.getElem?_cons_succ] at h
  simp only [frL]
  rw [frL_step os _ (k + 1) v i o y hd.2 h]
  have e1 : updV v (k + (i + 1)) y k = v k := by simp [updV]
  have e2 : k + 1 + i = k + (i + 1) := by omega
  rw [e1, e2]
theorem put_self {a : Act} {d : Option Tmp} : (a.put d ((d.map fun t => a.tmps.getD t undef).getD undef)) = a := by
 cases d with
 | none => rfl
 | some d =>
  simp only [Act.put, Option.map_some, Option.getD_some]
  cases a with
  | mk t ds =>
   congr 1
   apply Array.ext_getElem?
   intro j
   simp only [Array.getElem?_setIfInBounds]
   by_cases h : d = j
   · subst h
     by_cases hs : d < t.size <;> simp [hs]
   · simp [h]
theorem frL_start : ∀ (os : List Oper) (a0 : Act) (k : Nat) (v : Nat → Value), (∀ i o, os[i]? = some o → v (k + i) = ((o.dst.map fun t => a0.tmps.getD t undef).getD undef)) → frL a0 os k v = a0
 | [], _, _, _, _ => rfl
 | o :: os, a0, k, v, h => by
  simp only [frL]
  have h0 := h 0 o rfl
  rw [Nat.add_zero] at h0
  rw [h0, put_self]
  exact frL_start os a0 (k + 1) v fun i p hp => by
   have := h (i + 1) p (by simpa using hp)
   rw [show k + 1 + i = k + (i + 1) by omega]
   exact this
section
variable {P : Program} {ops : Array Oper} {Q : Exit → Act → World → Prop}
/-- what is asked of operation i -/
def StepOk (P : Program) (ops : Array Oper) (Q : Exit → Act → World → Prop) (a0 : Act) (Ψ : (Nat → Bool) → (Nat → Value) → World → Prop) (i : Nat) (o : Oper) : Prop :=
 ∀ (L : Nat → Bool) (v : Nat → Value) (w : World), (∀ e, e ∈ o.after → Region.binds .any e = true → L e.on = true) →
  (∀ j p, ops[j]? = some p → L j = true → ∀ e, e ∈ p.after → Region.binds .any e = true → e.on ≠ i) → Ψ L v w →
  ∀ K : Act → World → Prop, (∀ a' y w', a' = (fr a0 ops v).put o.dst y → Ψ (setL L i) (updV v i y) w' → K a' w') →
   if Region.wanted o (yielded ops (fr a0 ops v).tmps) = true then Oper.wp P o (fr a0 ops v) w K Q else K ((fr a0 ops v).put o.dst undef) w

theorem wpAny_inv {a0 : Act} {Ψ : (Nat → Bool) → (Nat → Value) → World → Prop} (hd : dstsOkL ops.toList = true) (he : edgesOk ops = true)
 (hstep : ∀ i o, ops[i]? = some o → StepOk P ops Q a0 Ψ i o)
 (hend : ∀ L v w, (∀ i, i < ops.size → L i = true) → Ψ L v w → Q .normal (fr a0 ops v) w) :
 ∀ (fuel : Nat) (listed : Array Bool) (v : Nat → Value) (w : World), listed.size = ops.size → (listed.toList.filter (!·)).length = fuel → Ψ (fun j => listed.getD j false) v w →
  (∀ j p, ops[j]? = some p → listed.getD j false = true → ∀ e, e ∈ p.after → Region.binds .any e = true → listed.getD e.on false = true) →
  wpAny P .any ops Q fuel listed (fr a0 ops v) w := by
 have hall : ∀ listed : Array Bool, listed.size = ops.size → Region.ready .any ops listed = [] → ∀ i, i < ops.size → listed.getD i false = true := by
  intro listed hs hr i
  induction i using Nat.strongRecOn with
  | _ i ih =>
   intro hi
   cases hb : listed.getD i false with
   | true => rfl
   | false =>
    exfalso
    have hmem : i ∈ Region.ready .any ops listed := by
     unfold Region.ready
     simp only [List.mem_filter, List.mem_range, hi, true_and, Bool.and_eq_true]
     have ho : ops[i]? = some ops[i] := Array.getElem?_eq_getElem hi
     constructor
     · have : listed.getD i true = false := by
        have h2 : i < listed.size := by omega
        simpa [Array.getD, h2] using hb
       simp [this]
     · rw [ho]
       simp only [Option.map_some, Option.getD_some, Array.all_eq_true_iff_forall_mem]
       intro e hem
       have hE := he
       unfold edgesOk at hE
       rw [List.all_eq_true] at hE
       have := hE i (by simpa using hi)
       rw [ho] at this
       simp only [Option.map_some, Option.getD_some, Array.all_eq_true_iff_forall_mem] at this
       have h3 := this e hem
       cases hbd : Region.binds .any e with
       | false => simp
       | true =>
        simp only [hbd, Bool.not_true, Bool.false_or, decide_eq_true_eq] at h3
        simp [ih e.on h3 (by omega)]
    rw [hr] at hmem
    cases hmem
 intro fuel
 induction fuel with
 | zero =>
  intro listed v w hs hc hI _
  have hl : ∀ i, i < ops.size → listed.getD i false = true := by
   intro i hi
   have h2 : i < listed.size := by omega
   cases hb : listed[i] with
   | true => simp [Array.getD, h2, hb]
   | false =>
    exfalso
    have : false ∈ listed.toList.filter (!·) := by
     rw [List.mem_filter]
     exact ⟨by rw [← hb]; simp, rfl⟩
    rw [List.length_eq_zero_iff.1 hc] at this
    cases this
  refine ⟨?_, hend _ v w hl hI⟩
  unfold Region.ready
  rw [List.filter_eq_nil_iff]
  intro i hi
  have hi' : i < ops.size := by simpa using hi
  have h2 : i < listed.size := by omega
  have := hl i hi'
  have h4 : listed.getD i true = true := by simpa [Array.getD, h2] using this
  simp [h4]
 | succ fuel ih =>
  intro listed v w hs hc hI hcl
  refine ⟨fun hr => hend _ v w (hall listed hs hr) hI, ?_⟩
  intro i hi
  unfold Region.ready at hi
  simp only [List.mem_filter, List.mem_range, Bool.and_eq_true] at hi
  obtain ⟨hin, hnl, haf⟩ := hi
  have ho : ops[i]? = some ops[i] := Array.getElem?_eq_getElem hin
  rw [ho] at haf
  simp only [Option.map_some, Option.getD_some, Array.all_eq_true_iff_forall_mem] at haf
  have h2 : i < listed.size := by omega
  have hfalse : listed[i] = false := by
   have : listed.getD i true = false := by simpa using hnl
   simpa [Array.getD, h2] using this
  refine wpOp_step ho fun K' hK => ?_
  refine hstep i _ ho _ v w ?_ ?_ hI K' ?_
  · intro e hem hb
    have := haf e hem
    simpa [hb] using this
  · intro j p hp hj e hem hb he'
    have := hcl j p hp hj e hem hb
    rw [he'] at this
    simp [Array.getD, h2, hfalse] at this
  · intro a' y w' ha' hΨ
    subst ha'
    refine hK _ _ ?_
    have hst : (fr a0 ops v).put ops[i].dst y = fr a0 ops (updV v i y) := by
     have := frL_step ops.toList a0 0 v i ops[i] y hd (by simp [hin])
     rw [Nat.zero_add] at this
     exact this
    rw [hst]
    have e : (fun j => (listed.setIfInBounds i true).getD j false) = setL (fun j => listed.getD j false) i := by
     funext j
     unfold setL
     by_cases h : j = i
     · subst h; simp [Array.getD, h2]
     · have h' : ¬ i = j := fun e => h e.symm
       simp only [h, if_false, Array.getD, Array.size_setIfInBounds]
       by_cases h3 : j < listed.size
       · simp [h3, h']
       · simp [h3]
    refine ih _ _ _ (by simpa using hs) ?_ ?_ ?_
    · have : ∀ (l : List Bool) (i : Nat) (h : i < l.length), l[i] = false → ((l.set i true).filter (!·)).length + 1 = (l.filter (!·)).length := by
       intro l
       induction l with
       | nil => intro i h; simp at h
       | cons b l ihl =>
        intro i h hf
        cases i with
        | zero => simp at hf; subst hf; simp
        | succ i =>
         simp only [List.set_cons_succ]
         have := ihl i (by simpa using h) (by simpa using hf)
         cases b <;> simp <;> omega
      have := this listed.toList i (by simpa using h2) (by simpa using hfalse)
      rw [Array.toList_setIfInBounds]
      omega
    · rw [e]
      exact hΨ
    · intro j p hp hj e2 hem hb
      have ej := congrFun e j
      have ee := congrFun e e2.on
      skip
      rw [ej] at hj
      rw [ee]
      unfold setL at hj ⊢
      by_cases h1 : e2.on = i
      · simp [h1]
      · simp only [h1, if_false]
        by_cases h2 : j = i
        · subst h2
          rw [ho] at hp
          simp only [Option.some.injEq] at hp
          subst hp
          have := haf e2 hem
          simpa [hb] using this
        · simp only [h2, if_false] at hj
          exact hcl j p hp hj e2 hem hb

/-- what is asked of operation i, no guard before it; F: the frame, written out -/
def StepU (P : Program) (ops : Array Oper) (Q : Exit → Act → World → Prop) (F : (Nat → Value) → Act) (Ψ : (Nat → Bool) → (Nat → Value) → World → Prop) (i : Nat) (o : Oper) : Prop :=
 ∀ (L : Nat → Bool) (v : Nat → Value) (w : World), (∀ e, e ∈ o.after → Region.binds .any e = true → L e.on = true) →
  (∀ j p, ops[j]? = some p → L j = true → ∀ e, e ∈ p.after → Region.binds .any e = true → e.on ≠ i) → Ψ L v w →
  ∀ K : Act → World → Prop, (∀ a' y w', a' = (F v).put o.dst y → Ψ (setL L i) (updV v i y) w' → K a' w') → Oper.wp P o (F v) w K Q
inductive Steps (P : Program) (ops : Array Oper) (Q : Exit → Act → World → Prop) (F : (Nat → Value) → Act) (Ψ : (Nat → Bool) → (Nat → Value) → World → Prop) : List Oper → Nat → Prop
 | nil (k : Nat) : Steps P ops Q F Ψ [] k
 | cons {o : Oper} {os : List Oper} {k : Nat} (hg : o.guard = none) (h : StepU P ops Q F Ψ k o) (hs : Steps P ops Q F Ψ os (k + 1)) : Steps P ops Q F Ψ (o :: os) k
theorem steps_of {F : (Nat → Value) → Act} {Ψ : (Nat → Bool) → (Nat → Value) → World → Prop} : ∀ (os : List Oper) (k : Nat), Steps P ops Q F Ψ os k → ∀ i o, os[i]? = some o → o.guard = none ∧ StepU P ops Q F Ψ (k + i) o
 | [], _, _, _, _, h => by simp at h
 | p :: os, k, hs, 0, o, h => by
  simp only [List.getElem?_cons_zero, Option.some.injEq] at h
  subst h
  cases hs with
  | cons hg h _ => exact ⟨hg, h⟩
 | p :: os, k, hs, i + 1, o, h => by
  cases hs with
  | cons _ _ hs =>
   have := steps_of os (k + 1) hs i o (by simpa using h)
   rwa [show k + 1 + i = k + (i + 1) by omega] at this
end
end Go.Proofs.Ytgcajgmokcmcgaa
end
section
namespace Go.Proofs.Ytgcajgmokcmcgaa
open Go.RowKit
set_option linter.unusedVariables false
set_option linter.unusedSimpArgs false
attribute [local irreducible] deg
theorem Blk.pre {w : World} {b n m : Nat} {t : TypeId} {f : Nat → Nat} (h : Blk w b n t f) (hm : m ≤ n) : w.rangeAt b 0 (bl m f) := by
 intro j v hv
 have hj : j < m := by
  have := (List.getElem?_eq_some_iff.1 hv).1
  rwa [zl] at this
 have e : (bl m f)[j]? = some (.int .u8 (f j : Int)) := by have := bcells_get (f := f) hj; simpa using this
 rw [e] at hv
 injection hv with hv
 subst hv
 rw [Nat.zero_add]
 exact h.cell (by omega)
theorem zdb (f : Nat → Nat) : -1 ≤ deg f ∧ deg f ≤ 63 := by
 rcases deg_spec f with ⟨e, _⟩ | ⟨d, hd, e, _⟩ <;> omega
theorem deg_neg {f : Nat → Nat} (h : deg f < 0) : ∀ i, i < 64 → f i = 0 := by
 rcases deg_spec f with ⟨_, hz⟩ | ⟨d, hd, e, _⟩
 · exact hz
 · omega
end Go.Proofs.Ytgcajgmokcmcgaa
end
section
namespace Go.Proofs.Ytgcajgmokcmcgaa
/-- one step of the division at n: c times b, moved by n - m, is taken away -/
def stp (p inv m : Nat) (b : Nat → Nat) (n : Nat) (a : Nat → Nat) : Nat → Nat :=
 fun k => if n - m ≤ k ∧ k ≤ n then (a k + (p - a n * inv % p) * b (k - (n - m))) % p else a k
/-- inside the step, behind j cells -/
def stpr (p inv m : Nat) (b : Nat → Nat) (n : Nat) (a : Nat → Nat) (j : Nat) : Nat → Nat :=
 fun k => if n - m ≤ k ∧ k < n - m + j then (a k + (p - a n * inv % p) * b (k - (n - m))) % p else a k
theorem stpr_zero (p inv m : Nat) (b : Nat → Nat) (n : Nat) (a : Nat → Nat) (k : Nat) : stpr p inv m b n a 0 k = a k := by
 unfold stpr; rw [if_neg (by omega)]
theorem stpr_at (p inv m : Nat) (b : Nat → Nat) (n : Nat) (a : Nat → Nat) (j : Nat) : stpr p inv m b n a j (n - m + j) = a (n - m + j) := by
 unfold stpr; rw [if_neg (by omega)]
theorem stpr_next (p inv m : Nat) (b : Nat → Nat) (n : Nat) (a : Nat → Nat) (j : Nat) : ∀ k, upd (stpr p inv m b n a j) (n - m + j) ((a (n - m + j) + (p - a n * inv % p) * b j) % p) k = stpr p inv m b n a (j + 1) k := by
 intro k
 unfold upd stpr
 by_cases h : k = n - m + j
 · subst h; rw [if_pos rfl, if_pos (by omega), show n - m + j - (n - m) = j by omega]
 · rw [if_neg h]
   by_cases h2 : n - m ≤ k ∧ k < n - m + j
   · rw [if_pos h2, if_pos (by omega)]
   · rw [if_neg h2, if_neg (by omega)]
theorem stpr_full (p inv m : Nat) (b : Nat → Nat) {n : Nat} (a : Nat → Nat) (h : m ≤ n) (k : Nat) : stpr p inv m b n a (m + 1) k = stp p inv m b n a k := by
 unfold stpr stp
 by_cases h2 : n - m ≤ k ∧ k ≤ n
 · rw [if_pos h2, if_pos (by omega)]
 · rw [if_neg h2, if_neg (by omega)]
theorem stp_lt {p inv m : Nat} {b : Nat → Nat} {n : Nat} {a : Nat → Nat} (hp : 0 < p) {N : Nat} (ha : ∀ k, k < N → a k < p) : ∀ k, k < N → stp p inv m b n a k < p := by
 intro k hk
 unfold stp
 split
 · exact Nat.mod_lt _ hp
 · exact ha k hk
theorem stp_skip {p inv m : Nat} {b : Nat → Nat} {n : Nat} {a : Nat → Nat} {N : Nat} (ha : ∀ k, k < N → a k < p) (h0 : a n = 0) {k : Nat} (hk : k < N) : stp p inv m b n a k = a k := by
 unfold stp
 split
 · rw [h0, Nat.zero_mul, Nat.zero_mod, Nat.sub_zero, Nat.add_mul_mod_self_left, Nat.mod_eq_of_lt (ha k hk)]
 · rfl
/-- behind the steps at 127, .., 128 - i -/
def dS (p inv m : Nat) (b a : Nat → Nat) : Nat → Nat → Nat
 | 0 => a
 | i + 1 => stp p inv m b (127 - i) (dS p inv m b a i)
theorem dS_zero (p inv m : Nat) (b a : Nat → Nat) : dS p inv m b a 0 = a := rfl
theorem dS_succ (p inv m : Nat) (b a : Nat → Nat) (i : Nat) : dS p inv m b a (i + 1) = stp p inv m b (127 - i) (dS p inv m b a i) := rfl
theorem dS_lt {p inv m : Nat} {b a : Nat → Nat} (hp : 0 < p) {N : Nat} (ha : ∀ k, k < N → a k < p) : ∀ i k, k < N → dS p inv m b a i k < p
 | 0 => ha
 | i + 1 => stp_lt hp (dS_lt hp ha i)
/-- the quotient's digit at k, from the step at k + m -/
def qd (p inv m : Nat) (b a : Nat → Nat) (k : Nat) : Nat := dS p inv m b a (127 - (k + m)) (k + m) * inv % p
/-- the quotient behind i steps -/
def qS (p inv m : Nat) (b a : Nat → Nat) (i : Nat) : Nat → Nat := fun k => if 128 - i ≤ k + m ∧ k + m ≤ 127 then qd p inv m b a k else 0
theorem qS_zero (p inv m : Nat) (b a : Nat → Nat) (k : Nat) : qS p inv m b a 0 k = 0 := by
 unfold qS; rw [if_neg (by omega)]
theorem qS_next {p inv m : Nat} (b a : Nat → Nat) {i : Nat} (hi : i + m ≤ 127) : ∀ k, upd (qS p inv m b a i) (127 - i - m) (dS p inv m b a i (127 - i) * inv % p) k = qS p inv m b a (i + 1) k := by
 intro k
 unfold upd qS
 by_cases h : k = 127 - i - m
 · subst h
   rw [if_pos rfl, if_pos (by omega)]
   unfold qd
   rw [show 127 - i - m + m = 127 - i by omega, show 127 - (127 - i) = i by omega]
 · rw [if_neg h]
   by_cases h2 : 128 - i ≤ k + m ∧ k + m ≤ 127
   · rw [if_pos h2, if_pos (by omega)]
   · rw [if_neg h2, if_neg (by omega)]
theorem qS_skip {p inv m : Nat} (b a : Nat → Nat) {i : Nat} (hi : i + m ≤ 127) (h0 : dS p inv m b a i (127 - i) = 0) : ∀ k, qS p inv m b a (i + 1) k = qS p inv m b a i k := by
 intro k
 rw [← qS_next b a hi k]
 unfold upd
 split
 · rename_i h
   subst h
   rw [h0, Nat.zero_mul, Nat.zero_mod]
   unfold qS
   rw [if_neg (by omega)]
 · rfl
/-- quotient and rest of a (up to 127) by b, m its degree, inv the inverse of its leading coefficient -/
def quoW (p inv m : Nat) (b a : Nat → Nat) : Nat → Nat := qS p inv m b a (128 - m)
def resW (p inv m : Nat) (b a : Nat → Nat) : Nat → Nat := dS p inv m b a (128 - m)
/-- the number whose product with c is 1 -/
def invN (p c : Nat) : Nat := ((List.range 7).find? fun k => k * c % p == 1).getD 0
end Go.Proofs.Ytgcajgmokcmcgaa
end
section
namespace Go.Proofs.Ytgcajgmokcmcgaa
open Go.RowKit
set_option linter.unusedVariables false
theorem invF {p c : Nat} (hp : p = 2 ∨ p = 3 ∨ p = 5 ∨ p = 7) (h1 : 0 < c) (h2 : c < p) : 1 ≤ invN p c ∧ invN p c < p ∧ invN p c * c % p = 1 ∧ ∀ k, 1 ≤ k → k < invN p c → k * c % p ≠ 1 := by
 have hc : c = 1 ∨ c = 2 ∨ c = 3 ∨ c = 4 ∨ c = 5 ∨ c = 6 := by omega
 suffices h : 1 ≤ invN p c ∧ invN p c < p ∧ invN p c * c % p = 1 ∧ ∀ k, k < 7 → (k < 1 ∨ invN p c ≤ k ∨ k * c % p ≠ 1) by
  obtain ⟨a, b, d, e⟩ := h
  refine ⟨a, b, d, fun k k1 k2 => ?_⟩
  rcases e k (by omega) with h | h | h
  · omega
  · omega
  · exact h
 rcases hp with rfl | rfl | rfl | rfl <;> rcases hc with rfl | rfl | rfl | rfl | rfl | rfl <;> first | omega | decide
attribute [local irreducible] invN
set_option maxHeartbeats 800000 in
theorem inverseNumber_any (p c : Nat) (w : World) (hp : p = 2 ∨ p = 3 ∨ p = 5 ∨ p = 7) (hc1 : 0 < c) (hc2 : c < p) :
 Calls Try.prog 193 #[.int .i64 (p : Int), .int .u8 (c : Int)] w fun e w' => e = .returned (.int .u8 (invN p c : Int)) ∧ w = w' := by
 obtain ⟨f1, f2, f3, f4⟩ := invF hp hc1 hc2
 obtain ⟨q, hq⟩ : ∃ q, q = invN p c := ⟨_, rfl⟩
 rw [← hq] at f1 f2 f3 f4 ⊢
 clear hq
 have p2 : 2 ≤ p := by omega
 have p7 : p ≤ 7 := by omega
 go_enter Try.func193, Try.ntmps193
 go_wp2_with fail
 go_loopw [5] (fun i wr => ∃ k : Nat, 1 ≤ k ∧ k ≤ q ∧ i = .int .u8 (k : Int) ∧ wr = w) (fun i _ => 8 - (intOf i).toNat)
 case atStart => exact ⟨1, by omega, by omega, rfl, rfl⟩
 case round =>
  obtain ⟨k, hk1, hk, rfl, rfl⟩ := hrel
  have hmul : (k : Int) * (c : Int) ≤ 36 ∧ 0 ≤ (k : Int) * (c : Int) := small_nat_mul p7 (by omega) hc2
  obtain ⟨m2, m3⟩ := hmul
  have n0 : 0 ≤ (k : Int) * (c : Int) % (p : Int) := Int.emod_nonneg _ (by omega)
  have n1 : (k : Int) * (c : Int) % (p : Int) < (p : Int) := Int.emod_lt_of_pos _ (by omega)
  have he : (k : Int) * (c : Int) % (p : Int) = ((k * c % p : Nat) : Int) := by push_cast; rfl
  have hm : (k : Int) * (c : Int) % 256 % (p : Int) = (k : Int) * (c : Int) % (p : Int) := by rw [Int.emod_eq_of_lt m3 (by omega)]
  by_cases hlt : k < q
  · have hne : (k : Int) * (c : Int) % (p : Int) ≠ 1 := by have := f4 k hk1 hlt; omega
    clear he
    go_wp2_with fail
    · refine ⟨⟨k + 1, by omega, by omega, by push_cast; rfl, trivial⟩, ?_⟩
      simp only [intOf]
      omega
  · have : k = q := by omega
    subst this
    have hne : (k : Int) * (c : Int) % (p : Int) = 1 := by omega
    clear he
    go_wp2_with fail
    go_ret
    exact ⟨rfl, rfl⟩
set_option maxHeartbeats 800000 in
theorem l01Inverse_any (p c : Nat) (w : World) (hp : p = 2 ∨ p = 3 ∨ p = 5 ∨ p = 7) (hc1 : 0 < c) (hc2 : c < p) :
 Calls Try.prog 116 #[.int .i64 (p : Int), .int .u8 (c : Int)] w fun e w' => e = .returned (.int .u8 (invN p c : Int)) ∧ w = w' := by
 obtain ⟨f1, f2, f3, f4⟩ := invF hp hc1 hc2
 obtain ⟨q, hq⟩ : ∃ q, q = invN p c := ⟨_, rfl⟩
 rw [← hq] at f1 f2 f3 f4 ⊢
 clear hq
 have p2 : 2 ≤ p := by omega
 have p7 : p ≤ 7 := by omega
 go_enter Try.func116, Try.ntmps116
 go_wp2_with fail
 go_loopw [5] (fun i wr => ∃ k : Nat, 1 ≤ k ∧ k ≤ q ∧ i = .int .i64 (k : Int) ∧ wr = w) (fun i _ => 8 - (intOf i).toNat)
 case atStart => exact ⟨1, by omega, by omega, rfl, rfl⟩
 case round =>
  obtain ⟨k, hk1, hk, rfl, rfl⟩ := hrel
  have hmul : (k : Int) * (c : Int) ≤ 36 ∧ 0 ≤ (k : Int) * (c : Int) := small_nat_mul p7 (by omega) hc2
  obtain ⟨m2, m3⟩ := hmul
  have n0 : 0 ≤ (k : Int) * (c : Int) % (p : Int) := Int.emod_nonneg _ (by omega)
  have n1 : (k : Int) * (c : Int) % (p : Int) < (p : Int) := Int.emod_lt_of_pos _ (by omega)
  have he : (k : Int) * (c : Int) % (p : Int) = ((k * c % p : Nat) : Int) := by push_cast; rfl
  by_cases hlt : k < q
  · have hne : (k : Int) * (c : Int) % (p : Int) ≠ 1 := by have := f4 k hk1 hlt; omega
    clear he
    go_wp2_with fail
    refine ⟨⟨k + 1, by omega, by omega, by push_cast; rfl, trivial⟩, ?_⟩
    simp only [intOf]
    omega
  · have : k = q := by omega
    subst this
    have hne : (k : Int) * (c : Int) % (p : Int) = 1 := by omega
    clear he
    go_wp2_with fail
    go_ret
    exact ⟨rfl, rfl⟩
end Go.Proofs.Ytgcajgmokcmcgaa
end
section
namespace Go.Proofs.Ytgcajgmokcmcgaa
attribute [local irreducible] deg invN
theorem zero_above {f : Nat → Nat} {k : Nat} (h : deg f < (k : Int)) (hk : k < 64) : f k = 0 := by
 rcases deg_spec f with ⟨_, hz⟩ | ⟨d, hd, e, _, hz⟩
 · exact hz k hk
 · exact hz k (by omega) hk
theorem deg_le {f : Nat → Nat} {d : Int} (hd : -1 ≤ d) (h : ∀ k : Nat, d < (k : Int) → k < 64 → f k = 0) : deg f ≤ d := by
 rcases deg_spec f with ⟨e, _⟩ | ⟨n, hn, e, hne, _⟩
 · omega
 · by_cases hlt : d < (n : Int)
   · exact absurd (h n hlt hn) hne
   · omega
theorem deg_congr {f g : Nat → Nat} (h : ∀ k, k < 64 → f k = g k) : deg f = deg g := by
 obtain ⟨a1, a2⟩ := zdb f
 obtain ⟨b1, b2⟩ := zdb g
 have h1 : deg f ≤ deg g := deg_le b1 (fun k hk hk2 => by rw [h k hk2]; exact zero_above hk hk2)
 have h2 : deg g ≤ deg f := deg_le a1 (fun k hk hk2 => by rw [← h k hk2]; exact zero_above hk hk2)
 omega
theorem deg_neg_iff {f : Nat → Nat} : deg f < 0 ↔ ∀ k, k < 64 → f k = 0 := by
 constructor
 · exact deg_neg
 · intro h
   have := deg_le (f := f) (d := -1) (by omega) (fun k _ hk => h k hk)
   omega
theorem step_zero {p inv bm an : Nat} (hp : 0 < p) (han : an < p) (hi : inv * bm % p = 1) : (an + (p - an * inv % p) * bm) % p = 0 := by
 obtain ⟨f, hf⟩ : ∃ f, f = an * inv % p := ⟨_, rfl⟩
 have hfp : f < p := by rw [hf]; exact Nat.mod_lt _ hp
 have h1 : f * bm % p = an := by
  rw [hf, Nat.mod_mul_mod, Nat.mul_assoc, Nat.mul_mod, hi, Nat.mul_one, Nat.mod_mod, Nat.mod_eq_of_lt han]
 rw [← hf]
 have h2 := Nat.div_add_mod (f * bm) p
 rw [h1] at h2
 have h3 : f * bm ≤ p * bm := Nat.mul_le_mul_right _ (by omega)
 rw [Nat.sub_mul]
 have h4 : an + (p * bm - f * bm) = p * (bm - f * bm / p) := by
  rw [Nat.mul_sub]
  omega
 rw [h4, Nat.mul_mod_right]
theorem dS_top {p inv m : Nat} {b a : Nat → Nat} (hp : 0 < p) (ha : ∀ k, k < 128 → a k < p) (hi : inv * b m % p = 1) : ∀ i, i + m ≤ 128 → ∀ k, 128 ≤ k + i → k < 128 → dS p inv m b a i k = 0
 | 0, _, k, h1, h2 => by omega
 | i + 1, him, k, h1, h2 => by
  rw [dS_succ]
  unfold stp
  by_cases h : 127 - i - m ≤ k ∧ k ≤ 127 - i
  · have e : k = 127 - i := by omega
    subst e
    rw [if_pos (by omega), show 127 - i - (127 - i - m) = m by omega]
    exact step_zero hp (dS_lt hp ha i _ (by omega)) hi
  · rw [if_neg h]
    exact dS_top hp ha hi i (by omega) k (by omega) h2
theorem dS_stay {p inv m N : Nat} {b a : Nat → Nat} (ha : ∀ k, k < 128 → a k < p) (hz : ∀ k, N ≤ k → k < 128 → a k = 0) : ∀ i, i + N ≤ 128 → ∀ k, k < 128 → dS p inv m b a i k = a k
 | 0, _, k, _ => rfl
 | i + 1, h, k, hk => by
  have ih := dS_stay (inv := inv) (m := m) (b := b) ha hz i (by omega)
  rw [dS_succ, stp_skip (N := 128) (fun j hj => by rw [ih j hj]; exact ha j hj) (by rw [ih _ (by omega)]; exact hz _ (by omega) (by omega)) hk]
  exact ih k hk
/-- quotient and rest of a by b, other than 0 -/
def quoP (p : Nat) (a b : Nat → Nat) : Nat → Nat := quoW p (invN p (b (deg b).toNat)) (deg b).toNat b (cut a)
def resP (p : Nat) (a b : Nat → Nat) : Nat → Nat := resW p (invN p (b (deg b).toNat)) (deg b).toNat b (cut a)
theorem quoP_at {p m : Nat} {a b : Nat → Nat} (h : deg b = (m : Int)) : quoP p a b = quoW p (invN p (b m)) m b (cut a) := by
 unfold quoP; rw [h]; rfl
theorem resP_at {p m : Nat} {a b : Nat → Nat} (h : deg b = (m : Int)) : resP p a b = resW p (invN p (b m)) m b (cut a) := by
 unfold resP; rw [h]; rfl
theorem cut_all {p : Nat} {a : Nat → Nat} (hp : 0 < p) (ha : ∀ k, k < 64 → a k < p) (k : Nat) : cut a k < p := by
 unfold cut
 split
 · exact ha k (by assumption)
 · exact hp
theorem deg_top {f : Nat → Nat} {m : Nat} (h : deg f = (m : Int)) : m < 64 ∧ 0 < f m ∧ ∀ k, m < k → k < 64 → f k = 0 := by
 rcases deg_spec f with ⟨e, _⟩ | ⟨d, hd, e, hne, hz⟩
 · omega
 · have : d = m := by omega
   subst this
   exact ⟨hd, by omega, hz⟩
theorem resP_lt {p : Nat} {a b : Nat → Nat} (hp : 0 < p) (ha : ∀ k, k < 64 → a k < p) (k : Nat) (hk : k < 64) : resP p a b k < p := by
 unfold resP resW
 exact dS_lt (N := 64) hp (fun k _ => cut_all hp ha k) _ k hk
theorem resP_deg {p : Nat} {a b : Nat → Nat} (hp : p = 2 ∨ p = 3 ∨ p = 5 ∨ p = 7) (ha : ∀ k, k < 64 → a k < p) (hbp : ∀ k, k < 64 → b k < p) (hb : 0 ≤ deg b) : deg (resP p a b) < deg b ∧ deg (resP p a b) ≤ deg a := by
 have hp0 : 0 < p := by omega
 obtain ⟨m, hm⟩ : ∃ m : Nat, deg b = (m : Int) := ⟨(deg b).toNat, by omega⟩
 obtain ⟨a1, a2⟩ := zdb a
 obtain ⟨m1, m2, m3⟩ := deg_top hm
 have hinv := (invF hp m2 (hbp m m1)).2.2.1
 have h1 : deg (resP p a b) < deg b := by
  have : deg (resP p a b) ≤ deg b - 1 := deg_le (by omega) (fun k hk hk2 => by
   rw [resP_at hm]
   unfold resW
   exact dS_top hp0 (fun j _ => cut_all hp0 ha j) hinv _ (by omega) k (by omega) (by omega))
  omega
 refine ⟨h1, ?_⟩
 by_cases hlt : deg b ≤ deg a
 · omega
 · obtain ⟨N, hN⟩ : ∃ N : Nat, deg a + 1 = (N : Int) := ⟨(deg a + 1).toNat, by omega⟩
   have hz : ∀ k, N ≤ k → k < 128 → cut a k = 0 := by
    intro k h1 h2
    by_cases h : k < 64
    · rw [cut_in a h]; exact zero_above (by omega) h
    · exact zcz a (by omega)
   have : deg (resP p a b) = deg a := deg_congr (fun k hk => by
    rw [resP_at hm]
    unfold resW
    rw [dS_stay (N := N) (fun j _ => cut_all hp0 ha j) hz _ (by omega) k (by omega), cut_in a hk])
   omega
theorem cut_stop {a : Nat → Nat} {N : Nat} (hN : deg a + 1 ≤ (N : Int)) : ∀ k, N ≤ k → k < 128 → cut a k = 0 := by
 intro k h1 h2
 by_cases h : k < 64
 · rw [cut_in a h]; exact zero_above (by omega) h
 · exact zcz a (by omega)
theorem qS_start {p inv m N s : Nat} {b a : Nat → Nat} (ha : ∀ k, k < 128 → a k < p) (hz : ∀ k, N ≤ k → k < 128 → a k = 0) (hs : N ≤ s) (k : Nat) : qS p inv m b a (128 - s) k = 0 := by
 unfold qS
 split
 · rename_i h
   unfold qd
   rw [dS_stay (N := N) ha hz _ (by omega) _ (by omega), hz _ (by omega) (by omega), Nat.zero_mul, Nat.zero_mod]
 · rfl
theorem stp_none {p inv m : Nat} {b : Nat → Nat} {n : Nat} {a : Nat → Nat} {N : Nat} (ha : ∀ k, k < N → a k < p) (h0 : a n * inv % p = 0) {k : Nat} (hk : k < N) : stp p inv m b n a k = a k := by
 unfold stp
 split
 · rw [h0, Nat.sub_zero, Nat.add_mul_mod_self_left, Nat.mod_eq_of_lt (ha k hk)]
 · rfl
theorem take_off {p A τ b : Nat} (hτ : τ ≤ p) : ((A : Int) - (τ : Int) * (b : Int)) % (p : Int) = (((A + (p - τ) * b) % p : Nat) : Int) := by
 have hc : ((p - τ : Nat) : Int) = (p : Int) - (τ : Int) := by omega
 rw [Int.natCast_emod, Int.natCast_add, Int.natCast_mul, hc, Int.sub_mul]
 rw [show (A : Int) + ((p : Int) * (b : Int) - (τ : Int) * (b : Int)) = (A : Int) - (τ : Int) * (b : Int) + (p : Int) * (b : Int) by omega]
 rw [Int.add_mul_emod_self_left]
end Go.Proofs.Ytgcajgmokcmcgaa
end
section
namespace Go.Proofs.Ytgcajgmokcmcgaa
open Go Go.RowKit
section
variable {P : Program} {Q : Exit → Act → World → Prop}
theorem wp_region_psi0 {ops : Array Oper} {id : Nat} {a0 : Act} {w : World} (hm : P.follows .mixedOrders = true) (hd : dstsOkL ops.toList = true) (he : edgesOk ops = true)
 (Ψ : (Nat → Bool) → (Nat → Value) → World → Prop) (h0 : ∀ v, (∀ i, v i = ((ops[i]?.bind (·.dst)).map fun t => a0.tmps.getD t undef).getD undef) → Ψ (fun _ => false) v w.drew)
 (hstep : ∀ i o, ops[i]? = some o → StepOk P ops Q a0 Ψ i o)
 (hend : ∀ L v w, (∀ i, i < ops.size → L i = true) → Ψ L v w → Q .normal (fr a0 ops v) w) : (Code.region id ops true).wp P Q a0 w := by
 refine wp_region_any hm ?_
 have hfr : fr a0 ops (fun i => ((ops[i]?.bind (·.dst)).map fun t => a0.tmps.getD t undef).getD undef) = a0 := by
  refine frL_start _ _ _ _ fun i o ho => ?_
  have ho' : ops[i]? = some o := by simpa using ho
  simp [ho']
 have key := wpAny_inv (P := P) (Q := Q) hd he hstep hend ops.size (Array.replicate ops.size false) (fun i => ((ops[i]?.bind (·.dst)).map fun t => a0.tmps.getD t undef).getD undef) w.drew (by simp) (by simp) (by
  have e : (fun j => (Array.replicate ops.size false).getD j false) = fun _ => false := by
   funext j; simp [Array.getD]
  rw [e]; exact h0 _ (fun _ => rfl)) (by
  intro j p _ hj
  simp [Array.getD] at hj)
 rw [hfr] at key
 exact key
theorem zq {os : List Oper} {id : Nat} {a0 : Act} {w : World} (hm : P.follows .mixedOrders = true) (hd : dstsOkL os = true) (he : edgesOk os.toArray = true)
 {F : (Nat → Value) → Act} (hF : ∀ v, frL a0 os 0 v = F v)
 (Ψ : (Nat → Bool) → (Nat → Value) → World → Prop) (h0 : ∀ v, (∀ i, v i = ((os[i]?.bind (·.dst)).map fun t => a0.tmps.getD t undef).getD undef) → Ψ (fun _ => false) v w.drew)
 (hstep : Steps P os.toArray Q F Ψ os 0)
 (hend : ∀ L v w, (∀ i, i < os.length → L i = true) → Ψ L v w → Q .normal (F v) w) : (Code.region id os.toArray true).wp P Q a0 w := by
 refine wp_region_psi0 hm (by simpa using hd) he Ψ (fun v hv => h0 v (by simpa using hv)) (fun i o ho => ?_) (fun L v w hL hΨ => ?_)
 · obtain ⟨hg, hs⟩ := steps_of _ _ hstep i o (by simpa using ho)
   rw [Nat.zero_add] at hs
   intro L v w h1 h2 h3 K hK
   have hw : Region.wanted o (yielded os.toArray (fr a0 os.toArray v).tmps) = true := by simp [Region.wanted, hg]
   rw [if_pos hw]
   have hf : fr a0 os.toArray v = F v := hF v
   rw [hf] at hK ⊢
   exact hs L v w h1 h2 h3 K hK
 · have hf : fr a0 os.toArray v = F v := hF v
   rw [hf]
   exact hend L v w (by simpa using hL) hΨ
end
theorem upd_again {f g : Nat → Nat} {i v : Nat} (h : ∀ k, upd f i v k = g k) : ∀ k, upd g i v k = g k := by
 intro k
 unfold upd at *
 by_cases e : k = i
 · subst e; rw [if_pos rfl]; have := h k; rwa [if_pos rfl] at this
 · rw [if_neg e]
def VF (L : Nat → Bool) (v : Nat → Value) (vals : List (Option Value)) : Prop := ∀ i x, vals[i]? = some (some x) → L i = true → v i = x
theorem VF.start {v : Nat → Value} {vals : List (Option Value)} : VF (fun _ => false) v vals := fun _ _ _ h => by cases h
theorem VF.at {L : Nat → Bool} {v : Nat → Value} {vals : List (Option Value)} (h : VF L v vals) {i : Nat} {x : Value} (hL : L i = true) (e : vals[i]? = some (some x)) : v i = x := h i x e hL
theorem VF.step {L : Nat → Bool} {v : Nat → Value} {vals : List (Option Value)} (h : VF L v vals) (i : Nat) {y : Value} (e : vals[i]? = some (some y)) : VF (setL L i) (updV v i y) vals := fun j x hj hL => by
 unfold setL at hL
 unfold updV
 by_cases c : j = i
 · subst c
   rw [e] at hj
   injection hj with hj
   injection hj with hj
   rw [if_pos rfl]; exact hj
 · rw [if_neg c] at hL ⊢
   exact h j x hj hL
theorem VF.skip {L : Nat → Bool} {v : Nat → Value} {vals : List (Option Value)} (h : VF L v vals) (i : Nat) {y : Value} (e : vals[i]? = some none) : VF (setL L i) (updV v i y) vals := fun j x hj hL => by
 unfold setL at hL
 unfold updV
 by_cases c : j = i
 · subst c
   rw [e] at hj
   injection hj with hj
   cases hj
 · rw [if_neg c] at hL ⊢
   exact h j x hj hL
attribute [irreducible] VF
end Go.Proofs.Ytgcajgmokcmcgaa
end
section
namespace Go.Proofs.Ytgcajgmokcmcgaa
open Go.RowKit
set_option linter.unusedVariables false
set_option linter.unusedSimpArgs false
attribute [local irreducible] deg invN dS qS stp stpr
set_option maxRecDepth 100000 in
set_option maxHeartbeats 3200000 in
theorem l01Divide_any (p : Nat) (a b : Nat → Nat) (w : World) (hp : p = 2 ∨ p = 3 ∨ p = 5 ∨ p = 7) (ha : ∀ k, k < 64 → a k < p) (hbp : ∀ k, k < 64 → b k < p) (hd : 0 ≤ deg b) :
 Calls Try.prog 68 #[.int .i64 (p : Int), .agg (zb 64 a), .agg (zb 64 b)] w fun e w' => e = .returned (.tuple #[.agg (zb 64 (quoP p a b)), .agg (zb 64 (resP p a b))]) ∧ Below w.heap.size w w' := by
 obtain ⟨m, hm⟩ : ∃ m : Nat, deg b = (m : Int) := ⟨(deg b).toNat, by omega⟩
 obtain ⟨hm6, hbm, _⟩ := deg_top hm
 rw [quoP_at hm, resP_at hm]
 obtain ⟨inv, hinv⟩ : ∃ v, v = invN p (b m) := ⟨_, rfl⟩
 have hi7 : inv < p := by have := (invF hp hbm (hbp m hm6)).2.1; omega
 have p2 : 2 ≤ p := by omega
 have p7 : p ≤ 7 := by omega
 have p0 : 0 < p := by omega
 rw [← hinv]
 obtain ⟨N, hN⟩ : ∃ N : Nat, deg a + 1 = (N : Int) := ⟨(deg a + 1).toNat, by have := zdb a; omega⟩
 have hN64 : N ≤ 64 := by have := zdb a; omega
 have hNa : deg a = (N : Int) - 1 := by omega
 have HZ := Lib.hid (cut_stop (a := a) (N := N) (by omega))
 have HA := Lib.hid ha
 have HC := Lib.hid (fun k (_ : k < 128) => cut_all p0 ha k)
 have HB := Lib.hid hbp; clear hbp
 have HI := Lib.hid hinv; clear hinv
 have HM := Lib.hid hm; clear hm
 have HNA := Lib.hid hNa
 clear hN hNa ha hd
 go_enter Try.func68, Try.ntmps68
 go_upto_region 1 with (fail)
 rw [← z64]
 obtain ⟨wo, hwo⟩ : ∃ wo : World, wo = ((((w.alloc (.cells (zb 64 a) 26)).alloc (.cells (zb 64 b) 26)).alloc (.cells (zb 64 fun _ => 0) 26)).alloc (.cells (zb 64 fun _ => 0) 26)) := ⟨_, rfl⟩
 have b0 : Blk wo (w.heap.size) 64 26 a := by subst hwo; have := ((((Blk.new w 64 26 a).alloc (.cells (zb 64 b) 26)).alloc (.cells (zb 64 fun _ => 0) 26)).alloc (.cells (zb 64 fun _ => 0) 26)); simpa using this
 have b1 : Blk wo (w.heap.size + 1) 64 26 b := by subst hwo; have := (((Blk.new (w.alloc (.cells (zb 64 a) 26)) 64 26 b).alloc (.cells (zb 64 fun _ => 0) 26)).alloc (.cells (zb 64 fun _ => 0) 26)); simpa using this
 have b2 : Blk wo (w.heap.size + 1 + 1) 64 26 (fun _ => 0) := by subst hwo; have := ((Blk.new ((w.alloc (.cells (zb 64 a) 26)).alloc (.cells (zb 64 b) 26)) 64 26 (fun _ => 0)).alloc (.cells (zb 64 fun _ => 0) 26)); simpa using this
 have b3 : Blk wo (w.heap.size + 1 + 1 + 1) 64 26 (fun _ => 0) := by subst hwo; have := (Blk.new (((w.alloc (.cells (zb 64 a) 26)).alloc (.cells (zb 64 b) 26)).alloc (.cells (zb 64 fun _ => 0) 26)) 64 26 (fun _ => 0)); simpa using this
 have hb : Below w.heap.size w wo := by subst hwo; exact (((((Below.refl _ _).alloc (Nat.le_refl _) _).alloc (by simp) _).alloc (by simp; omega) _).alloc (by simp; omega) _)
 rw [← hwo]
 clear hwo
 have ha : Below wo.heap.size wo wo := Below.refl _ _
 go_upto_region 2 with (first | refine zlb rfl 26 _ rfl _ rfl 64 26 _ (b1.below (by assumption) b1.lt) 5 Try.underlying26 Try.size26 ?_ | (go_at_call 63; refine (acc (l01Deg_any _ _) (by assumption)).mono ?_; rintro e w1 ⟨rfl, h1, ha⟩; rw [HM.out]) | refine wpList_store_new rfl 26 _ _ rfl _ 26 64 (fun _ => 0) rfl (by exact congrArg Value.agg z64.symm) rfl Try.size26 ?_)
 replace hb := hb.trans (ha.mono hb.size)
 replace b0 := b0.zw ha
 replace b1 := b1.zw ha
 replace b2 := b2.zw ha
 replace b3 := b3.zw ha
 have hlt3 := b3.lt
 have b8 := Blk.new w1 64 26 (fun _ => 0)
 replace b0 := b0.alloc (.cells (zb 64 fun _ => 0) 26)
 replace b1 := b1.alloc (.cells (zb 64 fun _ => 0) 26)
 replace b2 := b2.alloc (.cells (zb 64 fun _ => 0) 26)
 replace b3 := b3.alloc (.cells (zb 64 fun _ => 0) 26)
 replace hb := hb.alloc hb.size (.cells (zb 64 fun _ => 0) 26)
 clear ha h1
 obtain ⟨w2, hw2⟩ : ∃ w2 : World, w2 = w1.alloc (.cells (zb 64 fun _ => 0) 26) := ⟨_, rfl⟩
 obtain ⟨n8, hn8⟩ : ∃ n8, n8 = w1.heap.size := ⟨_, rfl⟩
 rw [← hw2] at b0 b1 b2 b3 b8 hb ⊢
 rw [← hn8] at b8 hlt3 ⊢
 clear hw2 hn8
 have ha : Below w2.heap.size w2 w2 := Below.refl _ _
 have c1 := b1.cell (i := m) hm6
 go_upto_region 4 with (first | refine zlb rfl 26 _ rfl _ rfl 64 26 _ (b0.below (by assumption) b0.lt) 5 Try.underlying26 Try.size26 ?_ | (go_at_call 116; refine (l01Inverse_any p (b m) _ hp hbm (HB.out m hm6)).mono ?_; rintro e w1 ⟨rfl, rfl⟩; rw [← HI.out]) | (go_at_call 63; refine (acc (l01Deg_any _ _) (by assumption)).mono ?_; rintro e w1 ⟨rfl, h1, ha⟩; rw [HNA.out]))
 replace hb := hb.trans (ha.mono hb.size)
 replace b0 := b0.zw ha
 replace b1 := b1.zw ha
 replace b2 := b2.zw ha
 replace b3 := b3.zw ha
 replace b8 := b8.zw ha
 clear ha h1 c1
 rw [← z64]
 go_loopw [11] (fun c wr => ∃ t s : Nat, c = .int .i64 ((t : Int) - 1) ∧ m ≤ s ∧ (s = t ∨ (t < m ∧ s = m)) ∧ t ≤ 64 ∧ s ≤ 64 ∧ Below w.heap.size w wr ∧ Blk wr w.heap.size 64 26 (dS p inv m b (cut a) (128 - s)) ∧ Blk wr (w.heap.size + 1) 64 26 b ∧ Blk wr (w.heap.size + 1 + 1) 64 26 (fun _ => 0) ∧ Blk wr (w.heap.size + 1 + 1 + 1) 64 26 (fun _ => 0) ∧ Blk wr n8 64 26 (qS p inv m b (cut a) (128 - s))) (fun c _ => (intOf c + 1).toNat)
 case atStart =>
  have hs : ∃ s : Nat, m ≤ s ∧ (s = N ∨ (N < m ∧ s = m)) ∧ N ≤ s ∧ s ≤ 64 := by
   by_cases h : N < m
   · exact ⟨m, by omega, Or.inr ⟨h, rfl⟩, by omega, by omega⟩
   · exact ⟨N, by omega, Or.inl rfl, by omega, by omega⟩
  obtain ⟨s, s1, s2, s3, s4⟩ := hs
  exact ⟨N, s, rfl, s1, s2, hN64, s4, hb, b0.congr (fun k hk => by rw [dS_stay (N := N) HC.out HZ.out _ (by omega) k (by omega), cut_in a hk]), b1, b2, b3, b8.congr (fun k _ => (qS_start HC.out HZ.out s3 k).symm)⟩
 case round =>
  clear hb b0 b1 b2 b3 b8
  obtain ⟨t, s, rfl, s1, s2, s3, s4, hb, b0, b1, b2, b3, b8⟩ := hrel
  by_cases hlt : m < t
  · obtain rfl : s = t := by omega
    obtain ⟨j, rfl⟩ : ∃ j, s = j + 1 := ⟨s - 1, by omega⟩
    rw [show ((j + 1 : Nat) : Int) - 1 = (j : Int) by omega]
    obtain ⟨A, hA⟩ : ∃ A : Nat → Nat, A = dS p inv m b (cut a) (127 - j) := ⟨_, rfl⟩
    have hAp : ∀ k, k < 128 → A k < p := by rw [hA]; exact dS_lt p0 HC.out _
    have HN := Lib.hid (show ∀ k, stp p inv m b j A k = dS p inv m b (cut a) (128 - j) k by
     intro k; rw [show 128 - j = 127 - j + 1 by omega, dS_succ, show 127 - (127 - j) = j by omega, hA])
    have HQ := Lib.hid (show ∀ k, upd (qS p inv m b (cut a) (127 - j)) (j - m) (A j * inv % p) k = qS p inv m b (cut a) (128 - j) k by
     intro k
     have := qS_next (p := p) (inv := inv) b (cut a) (i := 127 - j) (m := m) (by omega) k
     rw [show 127 - (127 - j) = j by omega, ← hA] at this
     rw [show 128 - j = 127 - j + 1 by omega]
     exact this)
    rw [show 128 - (j + 1) = 127 - j by omega] at b0 b8
    rw [← hA] at b0
    have HAP := Lib.hid hAp
    have hjA : A j < p := hAp j (by omega)
    have c0 := b0.cell (i := j) (by omega)
    obtain ⟨m1, m2⟩ := small_nat_mul p7 hjA hi7
    obtain ⟨τ, hτ⟩ : ∃ τ : Nat, τ = A j * inv % p := ⟨_, rfl⟩
    have hτp : τ < p := by rw [hτ]; exact Nat.mod_lt _ p0
    have hτe : ((A j : Int) * (inv : Int)).tmod (p : Int) = (τ : Int) := by rw [hτ, Int.tmod_eq_emod_of_nonneg m2]; push_cast; rfl
    have hτf : (A j : Int) * (inv : Int) % (p : Int) = (τ : Int) := by rw [hτ]; push_cast; rfl
    have HT := Lib.hid hτ
    have hjm : ((j : Int) - (m : Int)).toNat = j - m := by omega
    have z8 := b8.frozen (j - m)
    have c8 := b8.cell (i := j - m) (by omega)
    clear hA hAp hτ
    go_wp2_with fail
    try simp only [show decide ((m : Int) ≤ (j : Int)) = true by simp <;> omega]
    have b8q : Blk (wr.setCell ⟨n8, j - m, none⟩ (.int .u8 (τ : Int))) n8 64 26 (qS p inv m b (cut a) (128 - j)) := (b8.set rfl).congr (fun k _ => by rw [← HQ.out k, HT.out])
    have hbq : Below w.heap.size w (wr.setCell ⟨n8, j - m, none⟩ (.int .u8 (τ : Int))) := hb.setCell (by simp; omega) _
    have b0q := (b0.congr (fun k _ => (stpr_zero p inv m b j A k).symm)).setOther (a := ⟨n8, j - m, none⟩) (v := .int .u8 (τ : Int)) (by simp <;> omega)
    have b1q := b1.setOther (a := ⟨n8, j - m, none⟩) (v := .int .u8 (τ : Int)) (by simp <;> omega)
    have b2q := b2.setOther (a := ⟨n8, j - m, none⟩) (v := .int .u8 (τ : Int)) (by simp <;> omega)
    have b3q := b3.setOther (a := ⟨n8, j - m, none⟩) (v := .int .u8 (τ : Int)) (by simp <;> omega)
    obtain ⟨w5, hw5⟩ : ∃ w5, w5 = wr.setCell ⟨n8, j - m, none⟩ (.int .u8 (τ : Int)) := ⟨_, rfl⟩
    rw [← hw5] at b8q hbq b0q b1q b2q b3q ⊢
    clear hw5 hb b0 b1 b2 b3 b8 c0 c8 z8 hτe hτf m1 m2 hjm
    go_loopw [13] (fun c wr => ∃ i : Nat, i ≤ m + 1 ∧ (τ = 0 → i = 0) ∧ c = .int .i64 (i : Int) ∧ Below w.heap.size w wr ∧ Blk wr w.heap.size 64 26 (stpr p inv m b j A i) ∧ Blk wr (w.heap.size + 1) 64 26 b ∧ Blk wr (w.heap.size + 1 + 1) 64 26 (fun _ => 0) ∧ Blk wr (w.heap.size + 1 + 1 + 1) 64 26 (fun _ => 0) ∧ Blk wr n8 64 26 (qS p inv m b (cut a) (128 - j))) (fun c _ => m + 1 - (intOf c).toNat)
    case atStart => exact ⟨0, by omega, fun _ => rfl, rfl, hbq, b0q, b1q, b2q, b3q, b8q⟩
    case round =>
     clear hbq b0q b1q b2q b3q b8q
     obtain ⟨i, hi, hi0, rfl, hb, b0, b1, b2, b3, b8⟩ := hrel
     by_cases hz : τ = 0
     · obtain rfl : i = 0 := hi0 hz
       have b0f := b0.congr (g := dS p inv m b (cut a) (128 - j)) (fun k hk => by rw [stpr_zero, ← HN.out k]; exact (stp_none (N := 128) HAP.out (by rw [← HT.out, hz]) (by omega)).symm)
       have hτ0 : (τ : Int) = 0 := by omega
       clear hz
       go_wp2_with fail
       go_roundw
       case rel => exact ⟨j, j, by go_num, by omega, Or.inl rfl, by omega, by omega, hb, b0f, b1, b2, b3, b8⟩
       case measure => simp [intOf] <;> omega
     · have hτ0 : (τ : Int) ≠ 0 := by omega
       by_cases hlti : i < m + 1
       · have v1 := HAP.out (j - m + i) (by omega)
         have v2 := HB.out i (by omega)
         have hji : ((j : Int) - (m : Int) + (i : Int)).toNat = j - m + i := by omega
         obtain ⟨m3, m4⟩ := small_nat_mul p7 hτp v2
         obtain ⟨V, hV⟩ : ∃ V, V = (A (j - m + i) + (p - A j * inv % p) * b i) % p := ⟨_, rfl⟩
         have hVp : V < p := by rw [hV]; exact Nat.mod_lt _ p0
         have hE : ((A (j - m + i) : Int) - (τ : Int) * (b i : Int)) % (p : Int) = (V : Int) := by rw [hV, ← HT.out]; exact take_off (by omega)
         obtain ⟨r1, hr1⟩ : ∃ r1, r1 = ((A (j - m + i) : Int) - (τ : Int) * (b i : Int)).tmod (p : Int) := ⟨_, rfl⟩
         have hr2 : (r1 + (p : Int)).tmod (p : Int) = (V : Int) := by rw [hr1, tmod_twice _ p p0]; exact hE
         have t1 : -(p : Int) < r1 := by
          have := Int.tmod_lt_of_pos (-((A (j - m + i) : Int) - (τ : Int) * (b i : Int))) (b := (p : Int)) (by omega)
          rw [Int.neg_tmod] at this; omega
         have t2 : r1 < (p : Int) := by rw [hr1]; exact Int.tmod_lt_of_pos _ (by omega)
         have hr3 := hr1.symm
         have HV := Lib.hid hV
         clear hE hV hr1 hi0
         go_wp2_with fail
         try simp only [show decide ((i : Int) ≤ (m : Int)) = true by simp <;> omega]
         try simp only [show ((τ : Int) != 0) = true by simp <;> omega]
         try simp only [Bool.true_and, Bool.and_true]
         have lt_b0 : (w.heap.size) < wr.heap.size := b0.lt
         have lt_b1 : (w.heap.size + 1) < wr.heap.size := b1.lt
         have lt_b2 : (w.heap.size + 1 + 1) < wr.heap.size := b2.lt
         have lt_b3 : (w.heap.size + 1 + 1 + 1) < wr.heap.size := b3.lt
         have lt_b8 : (n8) < wr.heap.size := b8.lt
         have hbase : w.heap.size ≤ wr.heap.size := hb.size
         refine zq Try.mixed (by kernel_rfl) (by kernel_rfl) (fun v => by (simp only [frL, Act.put, pA, pB, pC, Nat.reduceAdd, Nat.zero_add]; exact rfl))
          (fun L v wx => Below w.heap.size w wx ∧ wr.heap.size ≤ wx.heap.size ∧ (∃ g, Blk wx (w.heap.size) 64 26 (g)) ∧ (L 28 = false → Blk wx (w.heap.size) 64 26 (stpr p inv m b j A i)) ∧ (L 28 = true → Blk wx (w.heap.size) 64 26 (stpr p inv m b j A (i + 1))) ∧ Blk wx (w.heap.size + 1) 64 26 (b) ∧ Blk wx (w.heap.size + 1 + 1) 64 26 (fun _ => 0) ∧ Blk wx (w.heap.size + 1 + 1 + 1) 64 26 (fun _ => 0) ∧ Blk wx (n8) 64 26 (qS p inv m b (cut a) (128 - j)) ∧ (L 0 = true → v 0 = (.int .i64 (j : Int))) ∧ (L 1 = true → v 1 = (.int .i64 (m : Int))) ∧ (L 2 = true → v 2 = (.int .i64 ((j : Int) - (m : Int)))) ∧ (L 3 = true → v 3 = (.int .i64 (i : Int))) ∧ (L 4 = true → v 4 = (.int .i64 ((j : Int) - (m : Int) + (i : Int)))) ∧ (L 5 = true → v 5 = (.int .i64 (j : Int))) ∧ (L 6 = true → v 6 = (.int .i64 (m : Int))) ∧ (L 7 = true → v 7 = (.int .i64 ((j : Int) - (m : Int)))) ∧ (L 8 = true → v 8 = (.int .i64 (i : Int))) ∧ (L 9 = true → v 9 = (.int .i64 ((j : Int) - (m : Int) + (i : Int)))) ∧ (L 10 = true → v 10 = (.pointer (some ⟨w.heap.size, j - m + i, none⟩))) ∧ (L 11 = true → v 11 = (.int .u8 (A (j - m + i) : Int))) ∧ (L 12 = true → v 12 = (.int .i64 (A (j - m + i) : Int))) ∧ (L 13 = true → v 13 = (.int .i64 (τ : Int))) ∧ (L 14 = true → v 14 = (.int .i64 (i : Int))) ∧ (L 15 = true → v 15 = (.pointer (some ⟨w.heap.size + 1, i, none⟩))) ∧ (L 16 = true → v 16 = (.int .u8 (b i : Int))) ∧ (L 17 = true → v 17 = (.int .i64 (b i : Int))) ∧ (L 18 = true → v 18 = (.int .i64 ((τ : Int) * (b i : Int)))) ∧ (L 19 = true → v 19 = (.int .i64 ((A (j - m + i) : Int) - ((τ : Int) * (b i : Int))))) ∧ (L 20 = true → v 20 = (.int .i64 (p : Int))) ∧ (L 21 = true → v 21 = (.int .i64 r1)) ∧ (L 22 = true → v 22 = (.int .i64 (p : Int))) ∧ (L 23 = true → v 23 = (.int .i64 (r1 + (p : Int)))) ∧ (L 24 = true → v 24 = (.int .i64 (p : Int))) ∧ (L 25 = true → v 25 = (.int .i64 (V : Int))) ∧ (L 26 = true → v 26 = (.int .u8 (V : Int))) ∧ (L 27 = true → v 27 = (.pointer (some ⟨w.heap.size, j - m + i, none⟩)))) ?_ ?_ ?_
         · intro v hv0
           exact ⟨hb.drew, Nat.le_refl _, ⟨_, b0.drew⟩, (fun _ => b0.drew), (fun h => by cases h), b1.drew, b2.drew, b3.drew, b8.drew, (fun h => by cases h), (fun h => by cases h), (fun h => by cases h), (fun h => by cases h), (fun h => by cases h), (fun h => by cases h), (fun h => by cases h), (fun h => by cases h), (fun h => by cases h), (fun h => by cases h), (fun h => by cases h), (fun h => by cases h), (fun h => by cases h), (fun h => by cases h), (fun h => by cases h), (fun h => by cases h), (fun h => by cases h), (fun h => by cases h), (fun h => by cases h), (fun h => by cases h), (fun h => by cases h), (fun h => by cases h), (fun h => by cases h), (fun h => by cases h), (fun h => by cases h), (fun h => by cases h), (fun h => by cases h), (fun h => by cases h)⟩
         · refine (.cons rfl ?_ (.cons rfl ?_ (.cons rfl ?_ (.cons rfl ?_ (.cons rfl ?_ (.cons rfl ?_ (.cons rfl ?_ (.cons rfl ?_ (.cons rfl ?_ (.cons rfl ?_ (.cons rfl ?_ (.cons rfl ?_ (.cons rfl ?_ (.cons rfl ?_ (.cons rfl ?_ (.cons rfl ?_ (.cons rfl ?_ (.cons rfl ?_ (.cons rfl ?_ (.cons rfl ?_ (.cons rfl ?_ (.cons rfl ?_ (.cons rfl ?_ (.cons rfl ?_ (.cons rfl ?_ (.cons rfl ?_ (.cons rfl ?_ (.cons rfl ?_ (.cons rfl ?_ (.nil _))))))))))))))))))))))))))))))
           all_goals intro L v wx hd hn ⟨hB, hz, x0, q0, n0, s1, s2, s3, s4, h0, h1, h2, h3, h4, h5, h6, h7, h8, h9, h10, h11, h12, h13, h14, h15, h16, h17, h18, h19, h20, h21, h22, h23, h24, h25, h26, h27⟩ K hK
           · go_wp2_with fail
             exact hK _ (.int .i64 (j : Int)) _ (by simp only [Act.put, pA, pB, pC ]) ⟨hB, hz, x0, q0, n0, s1, s2, s3, s4, (fun _ => rfl), h1, h2, h3, h4, h5, h6, h7, h8, h9, h10, h11, h12, h13, h14, h15, h16, h17, h18, h19, h20, h21, h22, h23, h24, h25, h26, h27⟩
           · go_wp2_with fail
             exact hK _ (.int .i64 (m : Int)) _ (by simp only [Act.put, pA, pB, pC ]) ⟨hB, hz, x0, q0, n0, s1, s2, s3, s4, h0, (fun _ => rfl), h2, h3, h4, h5, h6, h7, h8, h9, h10, h11, h12, h13, h14, h15, h16, h17, h18, h19, h20, h21, h22, h23, h24, h25, h26, h27⟩
           · have e0 := h0 (zdq hd 0 rfl)
             have e1 := h1 (zdq hd 1 rfl)
             go_wp2_with fail
             exact hK _ (.int .i64 ((j : Int) - (m : Int))) _ (by simp only [Act.put, pA, pB, pC, e0, e1]) ⟨hB, hz, x0, q0, n0, s1, s2, s3, s4, h0, h1, (fun _ => rfl), h3, h4, h5, h6, h7, h8, h9, h10, h11, h12, h13, h14, h15, h16, h17, h18, h19, h20, h21, h22, h23, h24, h25, h26, h27⟩
           · go_wp2_with fail
             exact hK _ (.int .i64 (i : Int)) _ (by simp only [Act.put, pA, pB, pC ]) ⟨hB, hz, x0, q0, n0, s1, s2, s3, s4, h0, h1, h2, (fun _ => rfl), h4, h5, h6, h7, h8, h9, h10, h11, h12, h13, h14, h15, h16, h17, h18, h19, h20, h21, h22, h23, h24, h25, h26, h27⟩
           · have e2 := h2 (zdq hd 2 rfl)
             have e3 := h3 (zdq hd 3 rfl)
             go_wp2_with fail
             exact hK _ (.int .i64 ((j : Int) - (m : Int) + (i : Int))) _ (by simp only [Act.put, pA, pB, pC, e2, e3]) ⟨hB, hz, x0, q0, n0, s1, s2, s3, s4, h0, h1, h2, h3, (fun _ => rfl), h5, h6, h7, h8, h9, h10, h11, h12, h13, h14, h15, h16, h17, h18, h19, h20, h21, h22, h23, h24, h25, h26, h27⟩
           · go_wp2_with fail
             exact hK _ (.int .i64 (j : Int)) _ (by simp only [Act.put, pA, pB, pC ]) ⟨hB, hz, x0, q0, n0, s1, s2, s3, s4, h0, h1, h2, h3, h4, (fun _ => rfl), h6, h7, h8, h9, h10, h11, h12, h13, h14, h15, h16, h17, h18, h19, h20, h21, h22, h23, h24, h25, h26, h27⟩
           · go_wp2_with fail
             exact hK _ (.int .i64 (m : Int)) _ (by simp only [Act.put, pA, pB, pC ]) ⟨hB, hz, x0, q0, n0, s1, s2, s3, s4, h0, h1, h2, h3, h4, h5, (fun _ => rfl), h7, h8, h9, h10, h11, h12, h13, h14, h15, h16, h17, h18, h19, h20, h21, h22, h23, h24, h25, h26, h27⟩
           · have e5 := h5 (zdq hd 5 rfl)
             have e6 := h6 (zdq hd 6 rfl)
             go_wp2_with fail
             exact hK _ (.int .i64 ((j : Int) - (m : Int))) _ (by simp only [Act.put, pA, pB, pC, e5, e6]) ⟨hB, hz, x0, q0, n0, s1, s2, s3, s4, h0, h1, h2, h3, h4, h5, h6, (fun _ => rfl), h8, h9, h10, h11, h12, h13, h14, h15, h16, h17, h18, h19, h20, h21, h22, h23, h24, h25, h26, h27⟩
           · go_wp2_with fail
             exact hK _ (.int .i64 (i : Int)) _ (by simp only [Act.put, pA, pB, pC ]) ⟨hB, hz, x0, q0, n0, s1, s2, s3, s4, h0, h1, h2, h3, h4, h5, h6, h7, (fun _ => rfl), h9, h10, h11, h12, h13, h14, h15, h16, h17, h18, h19, h20, h21, h22, h23, h24, h25, h26, h27⟩
           · have e7 := h7 (zdq hd 7 rfl)
             have e8 := h8 (zdq hd 8 rfl)
             go_wp2_with fail
             exact hK _ (.int .i64 ((j : Int) - (m : Int) + (i : Int))) _ (by simp only [Act.put, pA, pB, pC, e7, e8]) ⟨hB, hz, x0, q0, n0, s1, s2, s3, s4, h0, h1, h2, h3, h4, h5, h6, h7, h8, (fun _ => rfl), h10, h11, h12, h13, h14, h15, h16, h17, h18, h19, h20, h21, h22, h23, h24, h25, h26, h27⟩
           · have e9 := h9 (zdq hd 9 rfl)
             go_wp2_with fail
             exact hK _ (.pointer (some ⟨w.heap.size, j - m + i, none⟩)) _ (by simp only [Act.put, pA, pB, pC, e9]) ⟨hB, hz, x0, q0, n0, s1, s2, s3, s4, h0, h1, h2, h3, h4, h5, h6, h7, h8, h9, (fun _ => rfl), h11, h12, h13, h14, h15, h16, h17, h18, h19, h20, h21, h22, h23, h24, h25, h26, h27⟩
           · have e10 := h10 (zdq hd 10 rfl)
             have s0 := q0 (by
              cases hL : L 28 with
              | false => rfl
              | true => exact absurd rfl (hn 28 _ rfl hL ⟨11, .phase⟩ (by simp) rfl))
             have cc := s0.cell (i := j - m + i) (by omega)
             rw [stpr_at] at cc
             go_wp2_with fail
             exact hK _ (.int .u8 (A (j - m + i) : Int)) _ (by simp only [Act.put, pA, pB, pC, e10]) ⟨hB, hz, x0, q0, n0, s1, s2, s3, s4, h0, h1, h2, h3, h4, h5, h6, h7, h8, h9, h10, (fun _ => rfl), h12, h13, h14, h15, h16, h17, h18, h19, h20, h21, h22, h23, h24, h25, h26, h27⟩
           · have e11 := h11 (zdq hd 11 rfl)
             go_wp2_with fail
             exact hK _ (.int .i64 (A (j - m + i) : Int)) _ (by simp only [Act.put, pA, pB, pC, e11]) ⟨hB, hz, x0, q0, n0, s1, s2, s3, s4, h0, h1, h2, h3, h4, h5, h6, h7, h8, h9, h10, h11, (fun _ => rfl), h13, h14, h15, h16, h17, h18, h19, h20, h21, h22, h23, h24, h25, h26, h27⟩
           · go_wp2_with fail
             exact hK _ (.int .i64 (τ : Int)) _ (by simp only [Act.put, pA, pB, pC ]) ⟨hB, hz, x0, q0, n0, s1, s2, s3, s4, h0, h1, h2, h3, h4, h5, h6, h7, h8, h9, h10, h11, h12, (fun _ => rfl), h14, h15, h16, h17, h18, h19, h20, h21, h22, h23, h24, h25, h26, h27⟩
           · go_wp2_with fail
             exact hK _ (.int .i64 (i : Int)) _ (by simp only [Act.put, pA, pB, pC ]) ⟨hB, hz, x0, q0, n0, s1, s2, s3, s4, h0, h1, h2, h3, h4, h5, h6, h7, h8, h9, h10, h11, h12, h13, (fun _ => rfl), h15, h16, h17, h18, h19, h20, h21, h22, h23, h24, h25, h26, h27⟩
           · have e14 := h14 (zdq hd 14 rfl)
             go_wp2_with fail
             exact hK _ (.pointer (some ⟨w.heap.size + 1, i, none⟩)) _ (by simp only [Act.put, pA, pB, pC, e14]) ⟨hB, hz, x0, q0, n0, s1, s2, s3, s4, h0, h1, h2, h3, h4, h5, h6, h7, h8, h9, h10, h11, h12, h13, h14, (fun _ => rfl), h16, h17, h18, h19, h20, h21, h22, h23, h24, h25, h26, h27⟩
           · have e15 := h15 (zdq hd 15 rfl)
             have cc := s1.cell (i := i) (by omega)
             go_wp2_with fail
             exact hK _ (.int .u8 (b i : Int)) _ (by simp only [Act.put, pA, pB, pC, e15]) ⟨hB, hz, x0, q0, n0, s1, s2, s3, s4, h0, h1, h2, h3, h4, h5, h6, h7, h8, h9, h10, h11, h12, h13, h14, h15, (fun _ => rfl), h17, h18, h19, h20, h21, h22, h23, h24, h25, h26, h27⟩
           · have e16 := h16 (zdq hd 16 rfl)
             go_wp2_with fail
             exact hK _ (.int .i64 (b i : Int)) _ (by simp only [Act.put, pA, pB, pC, e16]) ⟨hB, hz, x0, q0, n0, s1, s2, s3, s4, h0, h1, h2, h3, h4, h5, h6, h7, h8, h9, h10, h11, h12, h13, h14, h15, h16, (fun _ => rfl), h18, h19, h20, h21, h22, h23, h24, h25, h26, h27⟩
           · have e13 := h13 (zdq hd 13 rfl)
             have e17 := h17 (zdq hd 17 rfl)
             go_wp2_with fail
             exact hK _ (.int .i64 ((τ : Int) * (b i : Int))) _ (by simp only [Act.put, pA, pB, pC, e13, e17]) ⟨hB, hz, x0, q0, n0, s1, s2, s3, s4, h0, h1, h2, h3, h4, h5, h6, h7, h8, h9, h10, h11, h12, h13, h14, h15, h16, h17, (fun _ => rfl), h19, h20, h21, h22, h23, h24, h25, h26, h27⟩
           · have e12 := h12 (zdq hd 12 rfl)
             have e18 := h18 (zdq hd 18 rfl)
             go_wp2_with fail
             exact hK _ (.int .i64 ((A (j - m + i) : Int) - ((τ : Int) * (b i : Int)))) _ (by simp only [Act.put, pA, pB, pC, e12, e18]) ⟨hB, hz, x0, q0, n0, s1, s2, s3, s4, h0, h1, h2, h3, h4, h5, h6, h7, h8, h9, h10, h11, h12, h13, h14, h15, h16, h17, h18, (fun _ => rfl), h20, h21, h22, h23, h24, h25, h26, h27⟩
           · go_wp2_with fail
             exact hK _ (.int .i64 (p : Int)) _ (by simp only [Act.put, pA, pB, pC ]) ⟨hB, hz, x0, q0, n0, s1, s2, s3, s4, h0, h1, h2, h3, h4, h5, h6, h7, h8, h9, h10, h11, h12, h13, h14, h15, h16, h17, h18, h19, (fun _ => rfl), h21, h22, h23, h24, h25, h26, h27⟩
           · have e19 := h19 (zdq hd 19 rfl)
             have e20 := h20 (zdq hd 20 rfl)
             go_wp2_with fail
             exact hK _ (.int .i64 r1) _ (by simp only [Act.put, pA, pB, pC, e19, e20]) ⟨hB, hz, x0, q0, n0, s1, s2, s3, s4, h0, h1, h2, h3, h4, h5, h6, h7, h8, h9, h10, h11, h12, h13, h14, h15, h16, h17, h18, h19, h20, (fun _ => rfl), h22, h23, h24, h25, h26, h27⟩
           · go_wp2_with fail
             exact hK _ (.int .i64 (p : Int)) _ (by simp only [Act.put, pA, pB, pC ]) ⟨hB, hz, x0, q0, n0, s1, s2, s3, s4, h0, h1, h2, h3, h4, h5, h6, h7, h8, h9, h10, h11, h12, h13, h14, h15, h16, h17, h18, h19, h20, h21, (fun _ => rfl), h23, h24, h25, h26, h27⟩
           · have e21 := h21 (zdq hd 21 rfl)
             have e22 := h22 (zdq hd 22 rfl)
             go_wp2_with fail
             exact hK _ (.int .i64 (r1 + (p : Int))) _ (by simp only [Act.put, pA, pB, pC, e21, e22]) ⟨hB, hz, x0, q0, n0, s1, s2, s3, s4, h0, h1, h2, h3, h4, h5, h6, h7, h8, h9, h10, h11, h12, h13, h14, h15, h16, h17, h18, h19, h20, h21, h22, (fun _ => rfl), h24, h25, h26, h27⟩
           · go_wp2_with fail
             exact hK _ (.int .i64 (p : Int)) _ (by simp only [Act.put, pA, pB, pC ]) ⟨hB, hz, x0, q0, n0, s1, s2, s3, s4, h0, h1, h2, h3, h4, h5, h6, h7, h8, h9, h10, h11, h12, h13, h14, h15, h16, h17, h18, h19, h20, h21, h22, h23, (fun _ => rfl), h25, h26, h27⟩
           · have e23 := h23 (zdq hd 23 rfl)
             have e24 := h24 (zdq hd 24 rfl)
             go_wp2_with fail
             exact hK _ (.int .i64 (V : Int)) _ (by simp only [Act.put, pA, pB, pC, e23, e24]) ⟨hB, hz, x0, q0, n0, s1, s2, s3, s4, h0, h1, h2, h3, h4, h5, h6, h7, h8, h9, h10, h11, h12, h13, h14, h15, h16, h17, h18, h19, h20, h21, h22, h23, h24, (fun _ => rfl), h26, h27⟩
           · have e25 := h25 (zdq hd 25 rfl)
             go_wp2_with fail
             exact hK _ (.int .u8 (V : Int)) _ (by simp only [Act.put, pA, pB, pC, e25]) ⟨hB, hz, x0, q0, n0, s1, s2, s3, s4, h0, h1, h2, h3, h4, h5, h6, h7, h8, h9, h10, h11, h12, h13, h14, h15, h16, h17, h18, h19, h20, h21, h22, h23, h24, h25, (fun _ => rfl), h27⟩
           · have e4 := h4 (zdq hd 4 rfl)
             go_wp2_with fail
             exact hK _ (.pointer (some ⟨w.heap.size, j - m + i, none⟩)) _ (by simp only [Act.put, pA, pB, pC, e4]) ⟨hB, hz, x0, q0, n0, s1, s2, s3, s4, h0, h1, h2, h3, h4, h5, h6, h7, h8, h9, h10, h11, h12, h13, h14, h15, h16, h17, h18, h19, h20, h21, h22, h23, h24, h25, h26, (fun _ => rfl)⟩
           · have e27 := h27 (zdq hd 27 rfl)
             have e26 := h26 (zdq hd 26 rfl)
             obtain ⟨gz, hk⟩ := x0
             have zz := hk.frozen (j - m + i)
             have cc := hk.cell (i := j - m + i) (by omega)
             go_wp2_with fail
             exact hK _ undef _ (by simp only [Act.put, pA, pB, pC, e27, e26]) ⟨hB.setCell (by simp <;> omega) _, (by simpa using hz), ⟨_, hk.set (v := V) rfl⟩, (fun h => absurd h (by simp [setL])), (fun _ => by cases hL : L 28 with | false => exact ((q0 hL).set (v := V) rfl).congr (fun k _ => by rw [HV.out]; exact stpr_next p inv m b j A i k) | true => exact ((n0 hL).set (v := V) rfl).congr (fun k _ => upd_again (fun k => by rw [HV.out]; exact stpr_next p inv m b j A i k) k)), (s1).setOther (by simp <;> omega), (s2).setOther (by simp <;> omega), (s3).setOther (by simp <;> omega), (s4).setOther (by simp <;> omega), h0, h1, h2, h3, h4, h5, h6, h7, h8, h9, h10, h11, h12, h13, h14, h15, h16, h17, h18, h19, h20, h21, h22, h23, h24, h25, h26, h27⟩
         · intro L v wx hL ⟨hB, hz, x0, q0, n0, s1, s2, s3, s4, h0, h1, h2, h3, h4, h5, h6, h7, h8, h9, h10, h11, h12, h13, h14, h15, h16, h17, h18, h19, h20, h21, h22, h23, h24, h25, h26, h27⟩
           have r0 := n0 (hL 28 (by decide))
           have e0 := h0 (hL 0 (by decide))
           have e1 := h1 (hL 1 (by decide))
           have e2 := h2 (hL 2 (by decide))
           have e3 := h3 (hL 3 (by decide))
           have e4 := h4 (hL 4 (by decide))
           have e5 := h5 (hL 5 (by decide))
           have e6 := h6 (hL 6 (by decide))
           have e7 := h7 (hL 7 (by decide))
           have e8 := h8 (hL 8 (by decide))
           have e9 := h9 (hL 9 (by decide))
           have e10 := h10 (hL 10 (by decide))
           have e11 := h11 (hL 11 (by decide))
           have e12 := h12 (hL 12 (by decide))
           have e13 := h13 (hL 13 (by decide))
           have e14 := h14 (hL 14 (by decide))
           have e15 := h15 (hL 15 (by decide))
           have e16 := h16 (hL 16 (by decide))
           have e17 := h17 (hL 17 (by decide))
           have e18 := h18 (hL 18 (by decide))
           have e19 := h19 (hL 19 (by decide))
           have e20 := h20 (hL 20 (by decide))
           have e21 := h21 (hL 21 (by decide))
           have e22 := h22 (hL 22 (by decide))
           have e23 := h23 (hL 23 (by decide))
           have e24 := h24 (hL 24 (by decide))
           have e25 := h25 (hL 25 (by decide))
           have e26 := h26 (hL 26 (by decide))
           have e27 := h27 (hL 27 (by decide))
           clear hL x0 q0 n0 h0 h1 h2 h3 h4 h5 h6 h7 h8 h9 h10 h11 h12 h13 h14 h15 h16 h17 h18 h19 h20 h21 h22 h23 h24 h25 h26 h27
           simp only [Exit.then, e0, e1, e2, e3, e4, e5, e6, e7, e8, e9, e10, e11, e12, e13, e14, e15, e16, e17, e18, e19, e20, e21, e22, e23, e24, e25, e26, e27]
           clear e0 e1 e2 e3 e4 e5 e6 e7 e8 e9 e10 e11 e12 e13 e14 e15 e16 e17 e18 e19 e20 e21 e22 e23 e24 e25 e26 e27
           go_wp2_with fail
           go_roundw
           case rel => exact ⟨i + 1, by omega, fun h => by omega, by go_num, hB, r0, s1, s2, s3, s4⟩
           case measure => simp [intOf] <;> omega
       · obtain rfl : i = m + 1 := by omega
         have b0f := b0.congr (g := dS p inv m b (cut a) (128 - j)) (fun k _ => by rw [stpr_full p inv m b A (by omega) k]; exact HN.out k)
         go_wp2_with fail
         go_roundw
         case rel => exact ⟨j, j, by go_num, by omega, Or.inl rfl, by omega, by omega, hb, b0f, b1, b2, b3, b8⟩
         case measure => simp [intOf] <;> omega
  · obtain rfl : m = s := by omega
    go_wp2_with fail
    have lt_b0 : (w.heap.size) < wr.heap.size := b0.lt
    have lt_b8 : (n8) < wr.heap.size := b8.lt
    have lt_b2 : (w.heap.size + 1 + 1) < wr.heap.size := b2.lt
    have lt_b3 : (w.heap.size + 1 + 1 + 1) < wr.heap.size := b3.lt
    have hbase : w.heap.size ≤ wr.heap.size := hb.size
    refine zq Try.mixed (by kernel_rfl) (by kernel_rfl) (fun v => by (simp only [frL, Act.put, pA, pB, pC, Nat.reduceAdd, Nat.zero_add]; exact rfl))
     (fun L v wx => Below w.heap.size w wx ∧ wr.heap.size ≤ wx.heap.size ∧ Blk wx (w.heap.size) 64 26 (dS p inv m b (cut a) (128 - m)) ∧ Blk wx (n8) 64 26 (qS p inv m b (cut a) (128 - m)) ∧ (∃ g, Blk wx (w.heap.size + 1 + 1) 64 26 (g)) ∧ (L 2 = false → Blk wx (w.heap.size + 1 + 1) 64 26 (fun _ => 0)) ∧ (L 2 = true → Blk wx (w.heap.size + 1 + 1) 64 26 (quoW p inv m b (cut a))) ∧ (∃ g, Blk wx (w.heap.size + 1 + 1 + 1) 64 26 (g)) ∧ (L 3 = false → Blk wx (w.heap.size + 1 + 1 + 1) 64 26 (fun _ => 0)) ∧ (L 3 = true → Blk wx (w.heap.size + 1 + 1 + 1) 64 26 (resW p inv m b (cut a))) ∧ (L 0 = true → v 0 = (.agg (zb 64 (qS p inv m b (cut a) (128 - m))))) ∧ (L 1 = true → v 1 = (.agg (zb 64 (dS p inv m b (cut a) (128 - m)))))) ?_ ?_ ?_
    · intro v hv0
      exact ⟨hb.drew, Nat.le_refl _, b0.drew, b8.drew, ⟨_, b2.drew⟩, (fun _ => b2.drew), (fun h => by cases h), ⟨_, b3.drew⟩, (fun _ => b3.drew), (fun h => by cases h), (fun h => by cases h), (fun h => by cases h)⟩
    · refine (.cons rfl ?_ (.cons rfl ?_ (.cons rfl ?_ (.cons rfl ?_ (.nil _)))))
      all_goals intro L v wx hd hn ⟨hB, hz, s0, s1, x2, q2, n2, x3, q3, n3, h0, h1⟩ K hK
      · refine wp_load_blk 26 _ rfl _ rfl 64 26 _ s1 _ Try.underlying26 Try.size26 ?_
        exact hK _ _ _ rfl ⟨hB, hz, s0, s1, x2, q2, n2, x3, q3, n3, (fun _ => rfl), h1⟩
      · refine wp_load_blk 26 _ rfl _ rfl 64 26 _ s0 _ Try.underlying26 Try.size26 ?_
        exact hK _ _ _ rfl ⟨hB, hz, s0, s1, x2, q2, n2, x3, q3, n3, h0, (fun _ => rfl)⟩
      · have e0 := h0 (zdq hd 0 rfl)
        obtain ⟨gz, hk⟩ := x2
        refine zsb 26 _ _ rfl _ 64 (qS p inv m b (cut a) (128 - m)) rfl e0 26 gz hk Try.size26 ?_
        exact hK _ undef _ rfl ⟨zr hB (by omega) _, (by simpa [World.setRow] using hz), (s0).rowOther (by omega), (s1).rowOther (by omega), ⟨_, hk.row _⟩, (fun h => absurd h (by simp [setL])), (fun _ => hk.row _), (let ⟨g, h⟩ := x3; ⟨g, (h).rowOther (by omega)⟩), (fun h => (q3 h).rowOther (by omega)), (fun h => (n3 h).rowOther (by omega)), h0, h1⟩
      · have e1 := h1 (zdq hd 1 rfl)
        obtain ⟨gz, hk⟩ := x3
        refine zsb 26 _ _ rfl _ 64 (dS p inv m b (cut a) (128 - m)) rfl e1 26 gz hk Try.size26 ?_
        exact hK _ undef _ rfl ⟨zr hB (by omega) _, (by simpa [World.setRow] using hz), (s0).rowOther (by omega), (s1).rowOther (by omega), (let ⟨g, h⟩ := x2; ⟨g, (h).rowOther (by omega)⟩), (fun h => (q2 h).rowOther (by omega)), (fun h => (n2 h).rowOther (by omega)), ⟨_, hk.row _⟩, (fun h => absurd h (by simp [setL])), (fun _ => hk.row _), h0, h1⟩
    · intro L v wx hL ⟨hB, hz, s0, s1, x2, q2, n2, x3, q3, n3, h0, h1⟩
      have r2 := n2 (hL 2 (by decide))
      have r3 := n3 (hL 3 (by decide))
      have e0 := h0 (hL 0 (by decide))
      have e1 := h1 (hL 1 (by decide))
      clear hL x2 q2 n2 x3 q3 n3 h0 h1
      simp only [Exit.then, e0, e1]
      clear e0 e1
      go_wp2_with fail
      show bodyPost Try.prog Try.f68 _ .ret _ _
      refine bodyPost_ret (results_bb rfl _ _ _ 64 26 5 _ _ 64 26 5 _ rfl r2 Try.underlying26 Try.size26 rfl r3 Try.underlying26 Try.size26) rfl ⟨rfl, hB⟩
end Go.Proofs.Ytgcajgmokcmcgaa
end
section
namespace Go.Proofs.Ytgcajgmokcmcgaa
open Go
/-- as Q; by a goto: J of its label -/
def _root_.Go.Exit.jumps (J : Nat → Act → World → Prop) (Q : Exit → Act → World → Prop) : Exit → Act → World → Prop
 | .goto l, a, w => J l a w
 | e, a, w => Q e a w
section
variable {P : Program} {a : Act} {w : World} {Q : Exit → Act → World → Prop}
theorem wp_scope_labels {c : Code} (J : Nat → Act → World → Prop) (μ : Nat → Act → World → Nat)
 (first : c.wp P (Exit.jumps J Q) a w)
 (pass : ∀ l a w, J l a w → ∃ rest, findLabel c l = some rest ∧ rest.wp P (Exit.jumps (fun l' a' w' => J l' a' w' ∧ μ l' a' w' < μ l a w) Q) a w) : (Code.scope c).wp P Q a w := by
 intro b k cs
 have key : ∀ n l a w, μ l a w = n → J l a w → ∃ rest, findLabel c l = some rest ∧ ∃ e a' w', Q e a' w' ∧ Arrives P (lone (b.at a (.code rest :: .inScope c :: k)) cs w) b k cs e a' w' := by
  intro n
  induction n using Nat.strongRecOn with
  | _ n ih =>
   intro l a w hn hJ
   obtain ⟨rest, hf, hp⟩ := pass l a w hJ
   refine ⟨rest, hf, ?_⟩
   obtain ⟨e, a₁, w₁, hq, harr⟩ := hp b (.inScope c :: k) cs
   cases e with
   | normal => exact ⟨.normal, a₁, w₁, hq, Steps.trans harr (.one step_inScope)⟩
   | exit id => exact ⟨.exit id, a₁, w₁, hq, fun k' hk => harr k' (by simp [exitTo, hk])⟩
   | goto l' =>
    obtain ⟨hJ', hlt⟩ := hq
    obtain ⟨rest', hf', e₂, a₂, w₂, hq₂, harr₂⟩ := ih _ (by omega) l' a₁ w₁ rfl hJ'
    have hg : gotoIn l' (.inScope c :: k) = some (.code rest' :: .inScope c :: k) := by simp [gotoIn, hf']
    exact ⟨e₂, a₂, w₂, hq₂, .of_steps (harr _ hg) harr₂⟩
   | ret => exact ⟨_, a₁, w₁, hq, harr⟩
   | panic ch => exact ⟨_, a₁, w₁, hq, harr⟩
   | outgrown => exact ⟨_, a₁, w₁, hq, harr⟩
 obtain ⟨e, a₁, w₁, hq, harr⟩ := first b (.inScope c :: k) cs
 cases e with
 | normal => exact ⟨.normal, a₁, w₁, hq, .head step_scope (Steps.trans harr (.one step_inScope))⟩
 | exit id => exact ⟨.exit id, a₁, w₁, hq, fun k' hk => .head step_scope (harr k' (by simp [exitTo, hk]))⟩
 | goto l' =>
  obtain ⟨rest', hf', e₂, a₂, w₂, hq₂, harr₂⟩ := key _ l' a₁ w₁ rfl hq
  have hg : gotoIn l' (.inScope c :: k) = some (.code rest' :: .inScope c :: k) := by simp [gotoIn, hf']
  exact ⟨e₂, a₂, w₂, hq₂, .of_steps (.head step_scope (harr _ hg)) harr₂⟩
 | ret => exact ⟨_, a₁, w₁, hq, .of_steps (.one step_scope) harr⟩
 | panic ch => exact ⟨_, a₁, w₁, hq, .of_steps (.one step_scope) harr⟩
 | outgrown => exact ⟨_, a₁, w₁, hq, .of_steps (.one step_scope) harr⟩
end
end Go.Proofs.Ytgcajgmokcmcgaa
end
section
namespace Go.Proofs.Ytgcajgmokcmcgaa
open Go.RowKit
set_option linter.unusedVariables false
set_option linter.unusedSimpArgs false
attribute [local irreducible] deg invN dS qS stp stpr
/-- the first scope within a code -/
def scopeIn : Code → Option Code
 | .seq a b => match scopeIn a with
  | some c => some c
  | none => scopeIn b
 | .scope c => some c
 | _ => none
/-- what stands behind a label of the first scope -/
def behind (fn : Func) (l : Nat) : Code := (findLabel ((fn.body.bind scopeIn).getD .skip) l).getD .skip
def tailOf : Code → Code
 | .seq _ b => b
 | c => c
theorem behind_tail {fn : Func} {l : Nat} {P : Program} {Q : Exit → Act → World → Prop} {a : Act} {w : World} (hs : behind fn l = .seq .skip (tailOf (behind fn l))) (h : (tailOf (behind fn l)).wp P Q a w) : (behind fn l).wp P Q a w :=
 (congrArg (fun c : Code => c.wp P Q a w) hs).mpr (wp_seq (wp_skip h))
theorem jumps_less {J : Nat → Act → World → Prop} {M : Nat → Act → Nat} {N : Nat} {Q : Exit → Act → World → Prop} : ∀ e a w, Exit.jumps (fun l a w => J l a w ∧ M l a < N) Q e a w → Exit.jumps J Q e a w
 | .goto _, _, _, h => h.1
 | .normal, _, _, h => h
 | .exit _, _, _, h => h
 | .ret, _, _, h => h
 | .panic _, _, _, h => h
 | .outgrown, _, _, h => h
/-- the relation of the three labels: done 0, look 1, next 2 -/
def ldJ (p m inv : Nat) (a b : Nat → Nat) (w : World) (l : Nat) (a' : Act) (w' : World) : Prop :=
 ∃ (t : Nat) (v9 : Value) (v12 : Int) (u13 u14 u15 u16 u17 u18 u19 u20 u21 u22 u23 u24 u25 u26 u27 u28 u29 u30 u31 u32 u33 u34 u35 u36 u37 u38 u39 u40 u41 u42 u43 u44 u45 u46 u47 u48 u49 u50 u51 u52 u53 u54 u55 u56 u57 u58 u59 u60 u61 u62 u63 u64 u65 u66 u67 u68 u69 u70 u71 u72 u73 u74 u75 u76 u77 : Value), a' = { tmps := #[.int .i64 (p : Int), .agg (zb 128 a), .agg (zb 64 b), undef, .pointer (some ⟨w.heap.size, 0, none⟩), .pointer (some ⟨w.heap.size + 1, 0, none⟩), .pointer (some ⟨w.heap.size + 1 + 1, 0, none⟩), .pointer (some ⟨w.heap.size + 1 + 1 + 1, 0, none⟩), .pointer (some ⟨w.heap.size + 1 + 1 + 1 + 1, 0, none⟩), v9, .int .i64 (m : Int), .int .u8 (inv : Int), .int .i64 v12, u13, u14, u15, u16, u17, u18, u19, u20, u21, u22, u23, u24, u25, u26, u27, u28, u29, u30, u31, u32, u33, u34, u35, u36, u37, u38, u39, u40, u41, u42, u43, u44, u45, u46, u47, u48, u49, u50, u51, u52, u53, u54, u55, u56, u57, u58, u59, u60, u61, u62, u63, u64, u65, u66, u67, u68, u69, u70, u71, u72, u73, u74, u75, u76, u77], defers := [] } ∧ Below w.heap.size w w' ∧ Blk w' w.heap.size 128 141 (dS p inv m b a (128 - t)) ∧ Blk w' (w.heap.size + 1) 64 26 b ∧ Blk w' (w.heap.size + 1 + 1) 128 141 (fun _ => 0) ∧ Blk w' (w.heap.size + 1 + 1 + 1) 64 26 (fun _ => 0) ∧ Blk w' (w.heap.size + 1 + 1 + 1 + 1) 128 141 (qS p inv m b a (128 - t)) ∧ m ≤ t ∧ t ≤ 128 ∧ ((l = 1 ∧ v12 = (t : Int) - 1) ∨ (l = 2 ∧ v12 = (t : Int) ∧ t ≤ 127) ∨ (l = 0 ∧ t = m))
def ldM (l : Nat) (a' : Act) : Nat := 3 * (intOf (a'.tmps.getD 12 undef) + 1).toNat + (if l = 1 then 2 else if l = 2 then 1 else 0)
set_option maxRecDepth 100000 in
set_option maxHeartbeats 1600000 in
theorem ld_next (p m inv : Nat) (a b : Nat → Nat) (w : World) (v9 : Value) (u13 u14 u15 u16 u17 u18 u19 u20 u21 u22 u23 u24 u25 u26 u27 u28 u29 u30 u31 u32 u33 u34 u35 u36 u37 u38 u39 u40 u41 u42 u43 u44 u45 u46 u47 u48 u49 u50 u51 u52 u53 u54 u55 u56 u57 u58 u59 u60 u61 u62 u63 u64 u65 u66 u67 u68 u69 u70 u71 u72 u73 u74 u75 u76 u77 : Value) (t : Nat) (wr : World) (Q : Exit → Act → World → Prop) (hb : Below w.heap.size w wr) (b0 : Blk wr w.heap.size 128 141 (dS p inv m b a (128 - t))) (b1 : Blk wr (w.heap.size + 1) 64 26 b) (b2 : Blk wr (w.heap.size + 1 + 1) 128 141 (fun _ => 0)) (b3 : Blk wr (w.heap.size + 1 + 1 + 1) 64 26 (fun _ => 0)) (b4 : Blk wr (w.heap.size + 1 + 1 + 1 + 1) 128 141 (qS p inv m b a (128 - t))) (h1 : m ≤ t) (h2 : t ≤ 127) :
 (behind Try.f165 2).wp Try.prog (Exit.jumps (fun l' a' w' => ldJ p m inv a b w l' a' w' ∧ ldM l' a' < 3 * (t + 1) + 1) Q) { tmps := #[.int .i64 (p : Int), .agg (zb 128 a), .agg (zb 64 b), undef, .pointer (some ⟨w.heap.size, 0, none⟩), .pointer (some ⟨w.heap.size + 1, 0, none⟩), .pointer (some ⟨w.heap.size + 1 + 1, 0, none⟩), .pointer (some ⟨w.heap.size + 1 + 1 + 1, 0, none⟩), .pointer (some ⟨w.heap.size + 1 + 1 + 1 + 1, 0, none⟩), v9, .int .i64 (m : Int), .int .u8 (inv : Int), .int .i64 (t : Int), u13, u14, u15, u16, u17, u18, u19, u20, u21, u22, u23, u24, u25, u26, u27, u28, u29, u30, u31, u32, u33, u34, u35, u36, u37, u38, u39, u40, u41, u42, u43, u44, u45, u46, u47, u48, u49, u50, u51, u52, u53, u54, u55, u56, u57, u58, u59, u60, u61, u62, u63, u64, u65, u66, u67, u68, u69, u70, u71, u72, u73, u74, u75, u76, u77], defers := [] } wr := by
 simp only [tailOf, behind, Try.f165, Option.bind_some, scopeIn, Option.getD_some, findLabel, Nat.reduceBEq, if_true, if_false, Bool.false_eq_true, beq_self_eq_true]
 go_wp2_with fail
 go_step3
 refine ⟨⟨t, _, _, _, _, _, _, _, _, _, _, _, _, _, _, _, _, _, _, _, _, _, _, _, _, _, _, _, _, _, _, _, _, _, _, _, _, _, _, _, _, _, _, _, _, _, _, _, _, _, _, _, _, _, _, _, _, _, _, _, _, _, _, _, _, _, _, _, rfl, hb, b0, b1, b2, b3, b4, h1, by omega, Or.inl ⟨rfl, rfl⟩⟩, ?_⟩
 simp [ldM, intOf] <;> omega
set_option maxRecDepth 100000 in
set_option maxHeartbeats 1600000 in
theorem ld_stop (p m inv : Nat) (a b : Nat → Nat) (w : World) (v9 : Value) (u13 u14 u15 u16 u17 u18 u19 u20 u21 u22 u23 u24 u25 u26 u27 u28 u29 u30 u31 u32 u33 u34 u35 u36 u37 u38 u39 u40 u41 u42 u43 u44 u45 u46 u47 u48 u49 u50 u51 u52 u53 u54 u55 u56 u57 u58 u59 u60 u61 u62 u63 u64 u65 u66 u67 u68 u69 u70 u71 u72 u73 u74 u75 u76 u77 : Value) (wr : World) (Q : Exit → Act → World → Prop) (hb : Below w.heap.size w wr) (b0 : Blk wr w.heap.size 128 141 (dS p inv m b a (128 - m))) (b1 : Blk wr (w.heap.size + 1) 64 26 b) (b2 : Blk wr (w.heap.size + 1 + 1) 128 141 (fun _ => 0)) (b3 : Blk wr (w.heap.size + 1 + 1 + 1) 64 26 (fun _ => 0)) (b4 : Blk wr (w.heap.size + 1 + 1 + 1 + 1) 128 141 (qS p inv m b a (128 - m))) (h1 : m ≤ 128) :
 (behind Try.f165 1).wp Try.prog (Exit.jumps (fun l' a' w' => ldJ p m inv a b w l' a' w' ∧ ldM l' a' < 3 * m + 2) Q) { tmps := #[.int .i64 (p : Int), .agg (zb 128 a), .agg (zb 64 b), undef, .pointer (some ⟨w.heap.size, 0, none⟩), .pointer (some ⟨w.heap.size + 1, 0, none⟩), .pointer (some ⟨w.heap.size + 1 + 1, 0, none⟩), .pointer (some ⟨w.heap.size + 1 + 1 + 1, 0, none⟩), .pointer (some ⟨w.heap.size + 1 + 1 + 1 + 1, 0, none⟩), v9, .int .i64 (m : Int), .int .u8 (inv : Int), .int .i64 ((m : Int) - 1), u13, u14, u15, u16, u17, u18, u19, u20, u21, u22, u23, u24, u25, u26, u27, u28, u29, u30, u31, u32, u33, u34, u35, u36, u37, u38, u39, u40, u41, u42, u43, u44, u45, u46, u47, u48, u49, u50, u51, u52, u53, u54, u55, u56, u57, u58, u59, u60, u61, u62, u63, u64, u65, u66, u67, u68, u69, u70, u71, u72, u73, u74, u75, u76, u77], defers := [] } wr := by
 simp only [tailOf, behind, Try.f165, Option.bind_some, scopeIn, Option.getD_some, findLabel, Nat.reduceBEq, if_true, if_false, Bool.false_eq_true, beq_self_eq_true]
 go_wp2_with fail
 go_step3
 refine ⟨⟨m, _, _, _, _, _, _, _, _, _, _, _, _, _, _, _, _, _, _, _, _, _, _, _, _, _, _, _, _, _, _, _, _, _, _, _, _, _, _, _, _, _, _, _, _, _, _, _, _, _, _, _, _, _, _, _, _, _, _, _, _, _, _, _, _, _, _, _, rfl, hb, b0, b1, b2, b3, b4, by omega, by omega, Or.inr (Or.inr ⟨rfl, rfl⟩)⟩, ?_⟩
 simp [ldM, intOf]
set_option maxRecDepth 100000 in
set_option maxHeartbeats 1600000 in
theorem ld_zero (p m inv : Nat) (a b : Nat → Nat) (w : World) (v9 : Value) (u13 u14 u15 u16 u17 u18 u19 u20 u21 u22 u23 u24 u25 u26 u27 u28 u29 u30 u31 u32 u33 u34 u35 u36 u37 u38 u39 u40 u41 u42 u43 u44 u45 u46 u47 u48 u49 u50 u51 u52 u53 u54 u55 u56 u57 u58 u59 u60 u61 u62 u63 u64 u65 u66 u67 u68 u69 u70 u71 u72 u73 u74 u75 u76 u77 : Value) (j : Nat) (wr : World) (Q : Exit → Act → World → Prop) (A : Nat → Nat) (hb : Below w.heap.size w wr) (b0 : Blk wr w.heap.size 128 141 A) (b1 : Blk wr (w.heap.size + 1) 64 26 b) (b2 : Blk wr (w.heap.size + 1 + 1) 128 141 (fun _ => 0)) (b3 : Blk wr (w.heap.size + 1 + 1 + 1) 64 26 (fun _ => 0)) (b4 : Blk wr (w.heap.size + 1 + 1 + 1 + 1) 128 141 (qS p inv m b a (127 - j))) (h1 : m ≤ j) (h2 : j ≤ 127)
 (hA : A = dS p inv m b a (127 - j)) (hAp : ∀ k, k < 128 → A k < p) (h0 : A j = 0) :
 (tailOf (behind Try.f165 1)).wp Try.prog (Exit.jumps (fun l' a' w' => ldJ p m inv a b w l' a' w' ∧ ldM l' a' < 3 * (j + 1) + 2) Q) { tmps := #[.int .i64 (p : Int), .agg (zb 128 a), .agg (zb 64 b), undef, .pointer (some ⟨w.heap.size, 0, none⟩), .pointer (some ⟨w.heap.size + 1, 0, none⟩), .pointer (some ⟨w.heap.size + 1 + 1, 0, none⟩), .pointer (some ⟨w.heap.size + 1 + 1 + 1, 0, none⟩), .pointer (some ⟨w.heap.size + 1 + 1 + 1 + 1, 0, none⟩), v9, .int .i64 (m : Int), .int .u8 (inv : Int), .int .i64 (j : Int), u13, u14, u15, u16, u17, u18, u19, u20, u21, u22, u23, u24, u25, u26, u27, u28, u29, u30, u31, u32, u33, u34, u35, u36, u37, u38, u39, u40, u41, u42, u43, u44, u45, u46, u47, u48, u49, u50, u51, u52, u53, u54, u55, u56, u57, u58, u59, u60, u61, u62, u63, u64, u65, u66, u67, u68, u69, u70, u71, u72, u73, u74, u75, u76, u77], defers := [] } wr := by
 have HN := Lib.hid (show ∀ k, stp p inv m b j A k = dS p inv m b a (128 - j) k by
  intro k; rw [show 128 - j = 127 - j + 1 by omega, dS_succ, show 127 - (127 - j) = j by omega, hA])
 have HS := Lib.hid (show ∀ k, qS p inv m b a (127 - j) k = qS p inv m b a (128 - j) k by
  intro k
  rw [show 128 - j = 127 - j + 1 by omega]
  exact (qS_skip (p := p) (inv := inv) (m := m) b a (i := 127 - j) (by omega) (by rw [show 127 - (127 - j) = j by omega, ← hA]; exact h0) k).symm)
 have HAP := Lib.hid hAp
 have H0 := Lib.hid h0
 have c0 := b0.cell (i := j) (by omega)
 rw [h0] at c0
 clear hA hAp h0
 simp only [tailOf, behind, Try.f165, Option.bind_some, scopeIn, Option.getD_some, findLabel, Nat.reduceBEq, if_true, if_false, Bool.false_eq_true, beq_self_eq_true]
 go_wp2_with fail
 go_step3
 refine ⟨⟨j, _, _, _, _, _, _, _, _, _, _, _, _, _, _, _, _, _, _, _, _, _, _, _, _, _, _, _, _, _, _, _, _, _, _, _, _, _, _, _, _, _, _, _, _, _, _, _, _, _, _, _, _, _, _, _, _, _, _, _, _, _, _, _, _, _, _, _, rfl, hb, b0.congr (fun k hk => by rw [← HN.out k]; exact (stp_skip HAP.out H0.out hk).symm), b1, b2, b3, b4.congr (fun k _ => HS.out k), h1, by omega, Or.inr (Or.inl ⟨rfl, rfl, h2⟩)⟩, ?_⟩
 simp [ldM, intOf]
set_option maxRecDepth 100000 in
set_option maxHeartbeats 3200000 in
theorem ld_take (p m inv : Nat) (a b : Nat → Nat) (w : World) (v9 : Value) (u13 u14 u15 u16 u17 u18 u19 u20 u21 u22 u23 u24 u25 u26 u27 u28 u29 u30 u31 u32 u33 u34 u35 u36 u37 u38 u39 u40 u41 u42 u43 u44 u45 u46 u47 u48 u49 u50 u51 u52 u53 u54 u55 u56 u57 u58 u59 u60 u61 u62 u63 u64 u65 u66 u67 u68 u69 u70 u71 u72 u73 u74 u75 u76 u77 : Value) (j : Nat) (wr : World) (Q : Exit → Act → World → Prop) (A : Nat → Nat) (hb : Below w.heap.size w wr) (b0 : Blk wr w.heap.size 128 141 A) (b1 : Blk wr (w.heap.size + 1) 64 26 b) (b2 : Blk wr (w.heap.size + 1 + 1) 128 141 (fun _ => 0)) (b3 : Blk wr (w.heap.size + 1 + 1 + 1) 64 26 (fun _ => 0)) (b4 : Blk wr (w.heap.size + 1 + 1 + 1 + 1) 128 141 (qS p inv m b a (127 - j))) (h1 : m ≤ j) (h2 : j ≤ 127)
 (hA : A = dS p inv m b a (127 - j)) (hAp : ∀ k, k < 128 → A k < p) (h0 : A j ≠ 0) (p2 : 2 ≤ p) (p7 : p ≤ 7) (hi7 : inv < p) (hbp : ∀ k, k < 64 → b k < p) (hm6 : m < 64) :
 (tailOf (behind Try.f165 1)).wp Try.prog (Exit.jumps (fun l' a' w' => ldJ p m inv a b w l' a' w' ∧ ldM l' a' < 3 * (j + 1) + 2) Q) { tmps := #[.int .i64 (p : Int), .agg (zb 128 a), .agg (zb 64 b), undef, .pointer (some ⟨w.heap.size, 0, none⟩), .pointer (some ⟨w.heap.size + 1, 0, none⟩), .pointer (some ⟨w.heap.size + 1 + 1, 0, none⟩), .pointer (some ⟨w.heap.size + 1 + 1 + 1, 0, none⟩), .pointer (some ⟨w.heap.size + 1 + 1 + 1 + 1, 0, none⟩), v9, .int .i64 (m : Int), .int .u8 (inv : Int), .int .i64 (j : Int), u13, u14, u15, u16, u17, u18, u19, u20, u21, u22, u23, u24, u25, u26, u27, u28, u29, u30, u31, u32, u33, u34, u35, u36, u37, u38, u39, u40, u41, u42, u43, u44, u45, u46, u47, u48, u49, u50, u51, u52, u53, u54, u55, u56, u57, u58, u59, u60, u61, u62, u63, u64, u65, u66, u67, u68, u69, u70, u71, u72, u73, u74, u75, u76, u77], defers := [] } wr := by
 have HN := Lib.hid (show ∀ k, stp p inv m b j A k = dS p inv m b a (128 - j) k by
  intro k; rw [show 128 - j = 127 - j + 1 by omega, dS_succ, show 127 - (127 - j) = j by omega, hA])
 have HQ := Lib.hid (show ∀ k, upd (qS p inv m b a (127 - j)) (j - m) (A j * inv % p) k = qS p inv m b a (128 - j) k by
  intro k
  have := qS_next (p := p) (inv := inv) b a (i := 127 - j) (m := m) (by omega) k
  rw [show 127 - (127 - j) = j by omega, ← hA] at this
  rw [show 128 - j = 127 - j + 1 by omega]
  exact this)
 have HAP := Lib.hid hAp
 have HB := Lib.hid hbp
 have hjA : A j < p := hAp j (by omega)
 have c0 := b0.cell (i := j) (by omega)
 have h0' : (A j : Int) ≠ 0 := by omega
 obtain ⟨m1, m2⟩ := small_nat_mul p7 hjA hi7
 obtain ⟨τ, hτ⟩ : ∃ τ : Nat, τ = A j * inv % p := ⟨_, rfl⟩
 have hτp : τ < p := by rw [hτ]; exact Nat.mod_lt _ (by omega)
 have hτe : (A j : Int) * (inv : Int) % (p : Int) = (τ : Int) := by rw [hτ]; push_cast; rfl
 have HT := Lib.hid hτ
 have hjm : ((j : Int) - (m : Int)).toNat = j - m := by omega
 have z4 := b4.frozen (j - m)
 have c4 := b4.cell (i := j - m) (by omega)
 clear hA hAp h0 hτ hbp
 simp only [tailOf, behind, Try.f165, Option.bind_some, scopeIn, Option.getD_some, findLabel, Nat.reduceBEq, if_true, if_false, Bool.false_eq_true, beq_self_eq_true]
 go_wp2_with fail
 rw [hτe]
 simp only [show decide (j < m) = false by simp <;> omega, show ((A j : Int) == 0) = false by simp <;> omega]
 have b4q : Blk (wr.setCell ⟨w.heap.size + 1 + 1 + 1 + 1, j - m, none⟩ (.int .u8 (τ : Int))) (w.heap.size + 1 + 1 + 1 + 1) 128 141 (qS p inv m b a (128 - j)) := (b4.set rfl).congr (fun k _ => by rw [← HQ.out k, HT.out])
 have hbq : Below w.heap.size w (wr.setCell ⟨w.heap.size + 1 + 1 + 1 + 1, j - m, none⟩ (.int .u8 (τ : Int))) := hb.setCell (by simp; omega) _
 have b0q := (b0.congr (fun k _ => (stpr_zero p inv m b j A k).symm)).setOther (a := ⟨w.heap.size + 1 + 1 + 1 + 1, j - m, none⟩) (v := .int .u8 (τ : Int)) (by simp <;> omega)
 have b1q := b1.setOther (a := ⟨w.heap.size + 1 + 1 + 1 + 1, j - m, none⟩) (v := .int .u8 (τ : Int)) (by simp <;> omega)
 have b2q := b2.setOther (a := ⟨w.heap.size + 1 + 1 + 1 + 1, j - m, none⟩) (v := .int .u8 (τ : Int)) (by simp <;> omega)
 have b3q := b3.setOther (a := ⟨w.heap.size + 1 + 1 + 1 + 1, j - m, none⟩) (v := .int .u8 (τ : Int)) (by simp <;> omega)
 obtain ⟨w5, hw5⟩ : ∃ w5, w5 = wr.setCell ⟨w.heap.size + 1 + 1 + 1 + 1, j - m, none⟩ (.int .u8 (τ : Int)) := ⟨_, rfl⟩
 rw [← hw5] at b4q hbq b0q b1q b2q b3q ⊢
 clear hw5 hb b0 b1 b2 b3 b4 c0 c4 z4 hτe m1 m2 h0' hjm
 go_loopw [43] (fun c wr => ∃ i : Nat, i ≤ m + 1 ∧ c = .int .i64 (i : Int) ∧ Below w.heap.size w wr ∧ Blk wr w.heap.size 128 141 (stpr p inv m b j A i) ∧ Blk wr (w.heap.size + 1) 64 26 b ∧ Blk wr (w.heap.size + 1 + 1) 128 141 (fun _ => 0) ∧ Blk wr (w.heap.size + 1 + 1 + 1) 64 26 (fun _ => 0) ∧ Blk wr (w.heap.size + 1 + 1 + 1 + 1) 128 141 (qS p inv m b a (128 - j))) (fun c _ => m + 1 - (intOf c).toNat)
 case atStart => exact ⟨0, by omega, rfl, hbq, b0q, b1q, b2q, b3q, b4q⟩
 case round =>
  clear hbq b0q b1q b2q b3q b4q
  obtain ⟨i, hi, rfl, hb, b0, b1, b2, b3, b4⟩ := hrel
  by_cases hlt : i < m + 1
  · have v1 := HAP.out (j - m + i) (by omega)
    have v2 := HB.out i (by omega)
    have hji : ((j : Int) - (m : Int) + (i : Int)).toNat = j - m + i := by omega
    have hc : ((p - A j * inv % p : Nat) : Int) = (p : Int) - (τ : Int) := by rw [← HT.out]; omega
    have HE := Lib.hid (show ((A (j - m + i) : Int) + ((p : Int) - (τ : Int)) * (b i : Int)) % (p : Int) = (((A (j - m + i) + (p - A j * inv % p) * b i) % p : Nat) : Int) by rw [Int.natCast_emod, Int.natCast_add, Int.natCast_mul, hc])
    have m3 : 0 ≤ ((p : Int) - (τ : Int)) * (b i : Int) := Int.mul_nonneg (by omega) (by omega)
    have m4 : ((p : Int) - (τ : Int)) * (b i : Int) ≤ 42 := by
     have : ((p : Int) - (τ : Int)) * (b i : Int) ≤ 7 * 6 := Int.mul_le_mul (by omega) (by omega) (by omega) (by omega)
     omega
    clear hc
    go_wp2_with fail
    simp only [show decide ((i : Int) < (m : Int) + 1) = true by simp <;> omega]
    have lt_b0 : (w.heap.size) < wr.heap.size := b0.lt
    have lt_b1 : (w.heap.size + 1) < wr.heap.size := b1.lt
    have lt_b2 : (w.heap.size + 1 + 1) < wr.heap.size := b2.lt
    have lt_b3 : (w.heap.size + 1 + 1 + 1) < wr.heap.size := b3.lt
    have lt_b4 : (w.heap.size + 1 + 1 + 1 + 1) < wr.heap.size := b4.lt
    have hbase : w.heap.size ≤ wr.heap.size := hb.size
    refine zq Try.mixed (by kernel_rfl) (by kernel_rfl) (fun v => by (simp only [frL, Act.put, pA, pB, pC, Nat.reduceAdd, Nat.zero_add]; exact rfl))
     (fun L v wx => Below w.heap.size w wx ∧ wr.heap.size ≤ wx.heap.size ∧ (∃ g, Blk wx (w.heap.size) 128 141 (g)) ∧ (L 25 = false → Blk wx (w.heap.size) 128 141 (stpr p inv m b j A i)) ∧ (L 25 = true → Blk wx (w.heap.size) 128 141 (stpr p inv m b j A (i + 1))) ∧ Blk wx (w.heap.size + 1) 64 26 (b) ∧ Blk wx (w.heap.size + 1 + 1) 128 141 (fun _ => 0) ∧ Blk wx (w.heap.size + 1 + 1 + 1) 64 26 (fun _ => 0) ∧ Blk wx (w.heap.size + 1 + 1 + 1 + 1) 128 141 (qS p inv m b a (128 - j)) ∧ (L 0 = true → v 0 = (.int .i64 (j : Int))) ∧ (L 1 = true → v 1 = (.int .i64 (m : Int))) ∧ (L 2 = true → v 2 = (.int .i64 ((j : Int) - (m : Int)))) ∧ (L 3 = true → v 3 = (.int .i64 (i : Int))) ∧ (L 4 = true → v 4 = (.int .i64 ((j : Int) - (m : Int) + (i : Int)))) ∧ (L 5 = true → v 5 = (.int .i64 (j : Int))) ∧ (L 6 = true → v 6 = (.int .i64 (m : Int))) ∧ (L 7 = true → v 7 = (.int .i64 ((j : Int) - (m : Int)))) ∧ (L 8 = true → v 8 = (.int .i64 (i : Int))) ∧ (L 9 = true → v 9 = (.int .i64 ((j : Int) - (m : Int) + (i : Int)))) ∧ (L 10 = true → v 10 = (.pointer (some ⟨w.heap.size, j - m + i, none⟩))) ∧ (L 11 = true → v 11 = (.int .u8 (A (j - m + i) : Int))) ∧ (L 12 = true → v 12 = (.int .i64 (p : Int))) ∧ (L 13 = true → v 13 = (.int .u8 (p : Int))) ∧ (L 14 = true → v 14 = (.int .u8 (τ : Int))) ∧ (L 15 = true → v 15 = (.int .u8 ((p : Int) - (τ : Int)))) ∧ (L 16 = true → v 16 = (.int .i64 (i : Int))) ∧ (L 17 = true → v 17 = (.pointer (some ⟨w.heap.size + 1, i, none⟩))) ∧ (L 18 = true → v 18 = (.int .u8 (b i : Int))) ∧ (L 19 = true → v 19 = (.int .u8 (((p : Int) - (τ : Int)) * (b i : Int)))) ∧ (L 20 = true → v 20 = (.int .u8 ((A (j - m + i) : Int) + (((p : Int) - (τ : Int)) * (b i : Int))))) ∧ (L 21 = true → v 21 = (.int .i64 (p : Int))) ∧ (L 22 = true → v 22 = (.int .u8 (p : Int))) ∧ (L 23 = true → v 23 = (.int .u8 (((A (j - m + i) : Int) + (((p : Int) - (τ : Int)) * (b i : Int))) % (p : Int)))) ∧ (L 24 = true → v 24 = (.pointer (some ⟨w.heap.size, j - m + i, none⟩)))) ?_ ?_ ?_
    · intro v hv0
      exact ⟨hb.drew, Nat.le_refl _, ⟨_, b0.drew⟩, (fun _ => b0.drew), (fun h => by cases h), b1.drew, b2.drew, b3.drew, b4.drew, (fun h => by cases h), (fun h => by cases h), (fun h => by cases h), (fun h => by cases h), (fun h => by cases h), (fun h => by cases h), (fun h => by cases h), (fun h => by cases h), (fun h => by cases h), (fun h => by cases h), (fun h => by cases h), (fun h => by cases h), (fun h => by cases h), (fun h => by cases h), (fun h => by cases h), (fun h => by cases h), (fun h => by cases h), (fun h => by cases h), (fun h => by cases h), (fun h => by cases h), (fun h => by cases h), (fun h => by cases h), (fun h => by cases h), (fun h => by cases h), (fun h => by cases h)⟩
    · refine (.cons rfl ?_ (.cons rfl ?_ (.cons rfl ?_ (.cons rfl ?_ (.cons rfl ?_ (.cons rfl ?_ (.cons rfl ?_ (.cons rfl ?_ (.cons rfl ?_ (.cons rfl ?_ (.cons rfl ?_ (.cons rfl ?_ (.cons rfl ?_ (.cons rfl ?_ (.cons rfl ?_ (.cons rfl ?_ (.cons rfl ?_ (.cons rfl ?_ (.cons rfl ?_ (.cons rfl ?_ (.cons rfl ?_ (.cons rfl ?_ (.cons rfl ?_ (.cons rfl ?_ (.cons rfl ?_ (.cons rfl ?_ (.nil _)))))))))))))))))))))))))))
      all_goals intro L v wx hd hn ⟨hB, hz, x0, q0, n0, s1, s2, s3, s4, h0, h1, h2, h3, h4, h5, h6, h7, h8, h9, h10, h11, h12, h13, h14, h15, h16, h17, h18, h19, h20, h21, h22, h23, h24⟩ K hK
      · go_wp2_with fail
        exact hK _ (.int .i64 (j : Int)) _ (by simp only [Act.put, pA, pB, pC ]) ⟨hB, hz, x0, q0, n0, s1, s2, s3, s4, (fun _ => rfl), h1, h2, h3, h4, h5, h6, h7, h8, h9, h10, h11, h12, h13, h14, h15, h16, h17, h18, h19, h20, h21, h22, h23, h24⟩
      · go_wp2_with fail
        exact hK _ (.int .i64 (m : Int)) _ (by simp only [Act.put, pA, pB, pC ]) ⟨hB, hz, x0, q0, n0, s1, s2, s3, s4, h0, (fun _ => rfl), h2, h3, h4, h5, h6, h7, h8, h9, h10, h11, h12, h13, h14, h15, h16, h17, h18, h19, h20, h21, h22, h23, h24⟩
      · have e0 := h0 (zdq hd 0 rfl)
        have e1 := h1 (zdq hd 1 rfl)
        go_wp2_with fail
        exact hK _ (.int .i64 ((j : Int) - (m : Int))) _ (by simp only [Act.put, pA, pB, pC, e0, e1]) ⟨hB, hz, x0, q0, n0, s1, s2, s3, s4, h0, h1, (fun _ => rfl), h3, h4, h5, h6, h7, h8, h9, h10, h11, h12, h13, h14, h15, h16, h17, h18, h19, h20, h21, h22, h23, h24⟩
      · go_wp2_with fail
        exact hK _ (.int .i64 (i : Int)) _ (by simp only [Act.put, pA, pB, pC ]) ⟨hB, hz, x0, q0, n0, s1, s2, s3, s4, h0, h1, h2, (fun _ => rfl), h4, h5, h6, h7, h8, h9, h10, h11, h12, h13, h14, h15, h16, h17, h18, h19, h20, h21, h22, h23, h24⟩
      · have e2 := h2 (zdq hd 2 rfl)
        have e3 := h3 (zdq hd 3 rfl)
        go_wp2_with fail
        exact hK _ (.int .i64 ((j : Int) - (m : Int) + (i : Int))) _ (by simp only [Act.put, pA, pB, pC, e2, e3]) ⟨hB, hz, x0, q0, n0, s1, s2, s3, s4, h0, h1, h2, h3, (fun _ => rfl), h5, h6, h7, h8, h9, h10, h11, h12, h13, h14, h15, h16, h17, h18, h19, h20, h21, h22, h23, h24⟩
      · go_wp2_with fail
        exact hK _ (.int .i64 (j : Int)) _ (by simp only [Act.put, pA, pB, pC ]) ⟨hB, hz, x0, q0, n0, s1, s2, s3, s4, h0, h1, h2, h3, h4, (fun _ => rfl), h6, h7, h8, h9, h10, h11, h12, h13, h14, h15, h16, h17, h18, h19, h20, h21, h22, h23, h24⟩
      · go_wp2_with fail
        exact hK _ (.int .i64 (m : Int)) _ (by simp only [Act.put, pA, pB, pC ]) ⟨hB, hz, x0, q0, n0, s1, s2, s3, s4, h0, h1, h2, h3, h4, h5, (fun _ => rfl), h7, h8, h9, h10, h11, h12, h13, h14, h15, h16, h17, h18, h19, h20, h21, h22, h23, h24⟩
      · have e5 := h5 (zdq hd 5 rfl)
        have e6 := h6 (zdq hd 6 rfl)
        go_wp2_with fail
        exact hK _ (.int .i64 ((j : Int) - (m : Int))) _ (by simp only [Act.put, pA, pB, pC, e5, e6]) ⟨hB, hz, x0, q0, n0, s1, s2, s3, s4, h0, h1, h2, h3, h4, h5, h6, (fun _ => rfl), h8, h9, h10, h11, h12, h13, h14, h15, h16, h17, h18, h19, h20, h21, h22, h23, h24⟩
      · go_wp2_with fail
        exact hK _ (.int .i64 (i : Int)) _ (by simp only [Act.put, pA, pB, pC ]) ⟨hB, hz, x0, q0, n0, s1, s2, s3, s4, h0, h1, h2, h3, h4, h5, h6, h7, (fun _ => rfl), h9, h10, h11, h12, h13, h14, h15, h16, h17, h18, h19, h20, h21, h22, h23, h24⟩
      · have e7 := h7 (zdq hd 7 rfl)
        have e8 := h8 (zdq hd 8 rfl)
        go_wp2_with fail
        exact hK _ (.int .i64 ((j : Int) - (m : Int) + (i : Int))) _ (by simp only [Act.put, pA, pB, pC, e7, e8]) ⟨hB, hz, x0, q0, n0, s1, s2, s3, s4, h0, h1, h2, h3, h4, h5, h6, h7, h8, (fun _ => rfl), h10, h11, h12, h13, h14, h15, h16, h17, h18, h19, h20, h21, h22, h23, h24⟩
      · have e9 := h9 (zdq hd 9 rfl)
        go_wp2_with fail
        exact hK _ (.pointer (some ⟨w.heap.size, j - m + i, none⟩)) _ (by simp only [Act.put, pA, pB, pC, e9]) ⟨hB, hz, x0, q0, n0, s1, s2, s3, s4, h0, h1, h2, h3, h4, h5, h6, h7, h8, h9, (fun _ => rfl), h11, h12, h13, h14, h15, h16, h17, h18, h19, h20, h21, h22, h23, h24⟩
      · have e10 := h10 (zdq hd 10 rfl)
        have s0 := q0 (by
         cases hL : L 25 with
         | false => rfl
         | true => exact absurd rfl (hn 25 _ rfl hL ⟨11, .phase⟩ (by simp) rfl))
        have cc := s0.cell (i := j - m + i) (by omega)
        rw [stpr_at] at cc
        go_wp2_with fail
        exact hK _ (.int .u8 (A (j - m + i) : Int)) _ (by simp only [Act.put, pA, pB, pC, e10]) ⟨hB, hz, x0, q0, n0, s1, s2, s3, s4, h0, h1, h2, h3, h4, h5, h6, h7, h8, h9, h10, (fun _ => rfl), h12, h13, h14, h15, h16, h17, h18, h19, h20, h21, h22, h23, h24⟩
      · go_wp2_with fail
        exact hK _ (.int .i64 (p : Int)) _ (by simp only [Act.put, pA, pB, pC ]) ⟨hB, hz, x0, q0, n0, s1, s2, s3, s4, h0, h1, h2, h3, h4, h5, h6, h7, h8, h9, h10, h11, (fun _ => rfl), h13, h14, h15, h16, h17, h18, h19, h20, h21, h22, h23, h24⟩
      · have e12 := h12 (zdq hd 12 rfl)
        go_wp2_with fail
        exact hK _ (.int .u8 (p : Int)) _ (by simp only [Act.put, pA, pB, pC, e12]) ⟨hB, hz, x0, q0, n0, s1, s2, s3, s4, h0, h1, h2, h3, h4, h5, h6, h7, h8, h9, h10, h11, h12, (fun _ => rfl), h14, h15, h16, h17, h18, h19, h20, h21, h22, h23, h24⟩
      · go_wp2_with fail
        exact hK _ (.int .u8 (τ : Int)) _ (by simp only [Act.put, pA, pB, pC ]) ⟨hB, hz, x0, q0, n0, s1, s2, s3, s4, h0, h1, h2, h3, h4, h5, h6, h7, h8, h9, h10, h11, h12, h13, (fun _ => rfl), h15, h16, h17, h18, h19, h20, h21, h22, h23, h24⟩
      · have e13 := h13 (zdq hd 13 rfl)
        have e14 := h14 (zdq hd 14 rfl)
        go_wp2_with fail
        exact hK _ (.int .u8 ((p : Int) - (τ : Int))) _ (by simp only [Act.put, pA, pB, pC, e13, e14]) ⟨hB, hz, x0, q0, n0, s1, s2, s3, s4, h0, h1, h2, h3, h4, h5, h6, h7, h8, h9, h10, h11, h12, h13, h14, (fun _ => rfl), h16, h17, h18, h19, h20, h21, h22, h23, h24⟩
      · go_wp2_with fail
        exact hK _ (.int .i64 (i : Int)) _ (by simp only [Act.put, pA, pB, pC ]) ⟨hB, hz, x0, q0, n0, s1, s2, s3, s4, h0, h1, h2, h3, h4, h5, h6, h7, h8, h9, h10, h11, h12, h13, h14, h15, (fun _ => rfl), h17, h18, h19, h20, h21, h22, h23, h24⟩
      · have e16 := h16 (zdq hd 16 rfl)
        go_wp2_with fail
        exact hK _ (.pointer (some ⟨w.heap.size + 1, i, none⟩)) _ (by simp only [Act.put, pA, pB, pC, e16]) ⟨hB, hz, x0, q0, n0, s1, s2, s3, s4, h0, h1, h2, h3, h4, h5, h6, h7, h8, h9, h10, h11, h12, h13, h14, h15, h16, (fun _ => rfl), h18, h19, h20, h21, h22, h23, h24⟩
      · have e17 := h17 (zdq hd 17 rfl)
        have cc := s1.cell (i := i) (by omega)
        go_wp2_with fail
        exact hK _ (.int .u8 (b i : Int)) _ (by simp only [Act.put, pA, pB, pC, e17]) ⟨hB, hz, x0, q0, n0, s1, s2, s3, s4, h0, h1, h2, h3, h4, h5, h6, h7, h8, h9, h10, h11, h12, h13, h14, h15, h16, h17, (fun _ => rfl), h19, h20, h21, h22, h23, h24⟩
      · have e15 := h15 (zdq hd 15 rfl)
        have e18 := h18 (zdq hd 18 rfl)
        go_wp2_with fail
        exact hK _ (.int .u8 (((p : Int) - (τ : Int)) * (b i : Int))) _ (by simp only [Act.put, pA, pB, pC, e15, e18]) ⟨hB, hz, x0, q0, n0, s1, s2, s3, s4, h0, h1, h2, h3, h4, h5, h6, h7, h8, h9, h10, h11, h12, h13, h14, h15, h16, h17, h18, (fun _ => rfl), h20, h21, h22, h23, h24⟩
      · have e11 := h11 (zdq hd 11 rfl)
        have e19 := h19 (zdq hd 19 rfl)
        go_wp2_with fail
        exact hK _ (.int .u8 ((A (j - m + i) : Int) + (((p : Int) - (τ : Int)) * (b i : Int)))) _ (by simp only [Act.put, pA, pB, pC, e11, e19]) ⟨hB, hz, x0, q0, n0, s1, s2, s3, s4, h0, h1, h2, h3, h4, h5, h6, h7, h8, h9, h10, h11, h12, h13, h14, h15, h16, h17, h18, h19, (fun _ => rfl), h21, h22, h23, h24⟩
      · go_wp2_with fail
        exact hK _ (.int .i64 (p : Int)) _ (by simp only [Act.put, pA, pB, pC ]) ⟨hB, hz, x0, q0, n0, s1, s2, s3, s4, h0, h1, h2, h3, h4, h5, h6, h7, h8, h9, h10, h11, h12, h13, h14, h15, h16, h17, h18, h19, h20, (fun _ => rfl), h22, h23, h24⟩
      · have e21 := h21 (zdq hd 21 rfl)
        go_wp2_with fail
        exact hK _ (.int .u8 (p : Int)) _ (by simp only [Act.put, pA, pB, pC, e21]) ⟨hB, hz, x0, q0, n0, s1, s2, s3, s4, h0, h1, h2, h3, h4, h5, h6, h7, h8, h9, h10, h11, h12, h13, h14, h15, h16, h17, h18, h19, h20, h21, (fun _ => rfl), h23, h24⟩
      · have e20 := h20 (zdq hd 20 rfl)
        have e22 := h22 (zdq hd 22 rfl)
        go_wp2_with fail
        exact hK _ (.int .u8 (((A (j - m + i) : Int) + (((p : Int) - (τ : Int)) * (b i : Int))) % (p : Int))) _ (by simp only [Act.put, pA, pB, pC, e20, e22]) ⟨hB, hz, x0, q0, n0, s1, s2, s3, s4, h0, h1, h2, h3, h4, h5, h6, h7, h8, h9, h10, h11, h12, h13, h14, h15, h16, h17, h18, h19, h20, h21, h22, (fun _ => rfl), h24⟩
      · have e4 := h4 (zdq hd 4 rfl)
        go_wp2_with fail
        exact hK _ (.pointer (some ⟨w.heap.size, j - m + i, none⟩)) _ (by simp only [Act.put, pA, pB, pC, e4]) ⟨hB, hz, x0, q0, n0, s1, s2, s3, s4, h0, h1, h2, h3, h4, h5, h6, h7, h8, h9, h10, h11, h12, h13, h14, h15, h16, h17, h18, h19, h20, h21, h22, h23, (fun _ => rfl)⟩
      · have e24 := h24 (zdq hd 24 rfl)
        have e23 := h23 (zdq hd 23 rfl)
        obtain ⟨gz, hk⟩ := x0
        have zz := hk.frozen (j - m + i)
        have cc := hk.cell (i := j - m + i) (by omega)
        go_wp2_with fail
        exact hK _ undef _ (by simp only [Act.put, pA, pB, pC, e24, e23]) ⟨hB.setCell (by simp <;> omega) _, (by simpa using hz), ⟨_, hk.set (v := (A (j - m + i) + (p - A j * inv % p) * b i) % p) HE.out⟩, (fun h => absurd h (by simp [setL])), (fun _ => by cases hL : L 25 with | false => exact ((q0 hL).set (v := (A (j - m + i) + (p - A j * inv % p) * b i) % p) HE.out).congr (fun k _ => stpr_next p inv m b j A i k) | true => exact ((n0 hL).set (v := (A (j - m + i) + (p - A j * inv % p) * b i) % p) HE.out).congr (fun k _ => upd_again (stpr_next p inv m b j A i) k)), (s1).setOther (by simp <;> omega), (s2).setOther (by simp <;> omega), (s3).setOther (by simp <;> omega), (s4).setOther (by simp <;> omega), h0, h1, h2, h3, h4, h5, h6, h7, h8, h9, h10, h11, h12, h13, h14, h15, h16, h17, h18, h19, h20, h21, h22, h23, h24⟩
    · intro L v wx hL ⟨hB, hz, x0, q0, n0, s1, s2, s3, s4, h0, h1, h2, h3, h4, h5, h6, h7, h8, h9, h10, h11, h12, h13, h14, h15, h16, h17, h18, h19, h20, h21, h22, h23, h24⟩
      have r0 := n0 (hL 25 (by decide))
      have e0 := h0 (hL 0 (by decide))
      have e1 := h1 (hL 1 (by decide))
      have e2 := h2 (hL 2 (by decide))
      have e3 := h3 (hL 3 (by decide))
      have e4 := h4 (hL 4 (by decide))
      have e5 := h5 (hL 5 (by decide))
      have e6 := h6 (hL 6 (by decide))
      have e7 := h7 (hL 7 (by decide))
      have e8 := h8 (hL 8 (by decide))
      have e9 := h9 (hL 9 (by decide))
      have e10 := h10 (hL 10 (by decide))
      have e11 := h11 (hL 11 (by decide))
      have e12 := h12 (hL 12 (by decide))
      have e13 := h13 (hL 13 (by decide))
      have e14 := h14 (hL 14 (by decide))
      have e15 := h15 (hL 15 (by decide))
      have e16 := h16 (hL 16 (by decide))
      have e17 := h17 (hL 17 (by decide))
      have e18 := h18 (hL 18 (by decide))
      have e19 := h19 (hL 19 (by decide))
      have e20 := h20 (hL 20 (by decide))
      have e21 := h21 (hL 21 (by decide))
      have e22 := h22 (hL 22 (by decide))
      have e23 := h23 (hL 23 (by decide))
      have e24 := h24 (hL 24 (by decide))
      clear hL x0 q0 n0 h0 h1 h2 h3 h4 h5 h6 h7 h8 h9 h10 h11 h12 h13 h14 h15 h16 h17 h18 h19 h20 h21 h22 h23 h24
      simp only [Exit.then, e0, e1, e2, e3, e4, e5, e6, e7, e8, e9, e10, e11, e12, e13, e14, e15, e16, e17, e18, e19, e20, e21, e22, e23, e24]
      clear e0 e1 e2 e3 e4 e5 e6 e7 e8 e9 e10 e11 e12 e13 e14 e15 e16 e17 e18 e19 e20 e21 e22 e23 e24
      go_wp2_with fail
      go_roundw
      case rel => exact ⟨i + 1, by omega, by go_num, hB, r0, s1, s2, s3, s4⟩
      case measure => simp [intOf] <;> omega
  · have e : i = m + 1 := by omega
    subst e
    have b0f := b0.congr (fun k _ => stpr_full p inv m b A h1 k)
    go_wp2_with fail
    go_step3
    simp only [Exit.then]
    apply_assumption
    go_wp2_with fail
    go_step3
    refine ⟨⟨j, _, _, _, _, _, _, _, _, _, _, _, _, _, _, _, _, _, _, _, _, _, _, _, _, _, _, _, _, _, _, _, _, _, _, _, _, _, _, _, _, _, _, _, _, _, _, _, _, _, _, _, _, _, _, _, _, _, _, _, _, _, _, _, _, _, _, _, rfl, hb, b0f.congr (fun k _ => HN.out k), b1, b2, b3, b4, h1, by omega, Or.inl ⟨rfl, rfl⟩⟩, ?_⟩
    simp [ldM, intOf] <;> omega
end Go.Proofs.Ytgcajgmokcmcgaa
end
section
namespace Go.Proofs.Ytgcajgmokcmcgaa
open Go.RowKit
set_option linter.unusedVariables false
set_option linter.unusedSimpArgs false
attribute [local irreducible] deg invN dS qS stp stpr
set_option maxRecDepth 100000 in
set_option maxHeartbeats 3200000 in
theorem ld_done (p m inv : Nat) (a b : Nat → Nat) (w : World) (v9 : Value) (u13 u14 u15 u16 u17 u18 u19 u20 u21 u22 u23 u24 u25 u26 u27 u28 u29 u30 u31 u32 u33 u34 u35 u36 u37 u38 u39 u40 u41 u42 u43 u44 u45 u46 u47 u48 u49 u50 u51 u52 u53 u54 u55 u56 u57 u58 u59 u60 u61 u62 u63 u64 u65 u66 u67 u68 u69 u70 u71 u72 u73 u74 u75 u76 u77 : Value) (x12 : Value) (wr : World) (J : Nat → Act → World → Prop) (A B : Nat → Nat) (hb : Below w.heap.size w wr) (b0 : Blk wr w.heap.size 128 141 A) (b1 : Blk wr (w.heap.size + 1) 64 26 b) (b2 : Blk wr (w.heap.size + 1 + 1) 128 141 (fun _ => 0)) (b3 : Blk wr (w.heap.size + 1 + 1 + 1) 64 26 (fun _ => 0)) (b4 : Blk wr (w.heap.size + 1 + 1 + 1 + 1) 128 141 B) (Q : Exit → Act → World → Prop)
 (hQ : Q = bodyPost Try.prog Try.f165 fun e w' => e = .returned (.tuple #[.agg (zb 128 B), .agg (zb 64 A)]) ∧ Below w.heap.size w w') :
 (behind Try.f165 0).wp Try.prog (Exit.jumps J Q) { tmps := #[.int .i64 (p : Int), .agg (zb 128 a), .agg (zb 64 b), undef, .pointer (some ⟨w.heap.size, 0, none⟩), .pointer (some ⟨w.heap.size + 1, 0, none⟩), .pointer (some ⟨w.heap.size + 1 + 1, 0, none⟩), .pointer (some ⟨w.heap.size + 1 + 1 + 1, 0, none⟩), .pointer (some ⟨w.heap.size + 1 + 1 + 1 + 1, 0, none⟩), v9, .int .i64 (m : Int), .int .u8 (inv : Int), x12, u13, u14, u15, u16, u17, u18, u19, u20, u21, u22, u23, u24, u25, u26, u27, u28, u29, u30, u31, u32, u33, u34, u35, u36, u37, u38, u39, u40, u41, u42, u43, u44, u45, u46, u47, u48, u49, u50, u51, u52, u53, u54, u55, u56, u57, u58, u59, u60, u61, u62, u63, u64, u65, u66, u67, u68, u69, u70, u71, u72, u73, u74, u75, u76, u77], defers := [] } wr := by
 have HQ := Lib.hid hQ
 clear hQ
 have hat := fun (W : World) (a : Option Addr) => run_arrayAt (P := Try.prog) (w := W) 26 5 64 a 64 128 Try.underlying26 (by omega)
 simp only [tailOf, behind, Try.f165, Option.bind_some, scopeIn, Option.getD_some, findLabel, Nat.reduceBEq, if_true, if_false, Bool.false_eq_true, beq_self_eq_true]
 go_wp2_with fail
 have lt_b0 : (w.heap.size) < wr.heap.size := b0.lt
 have lt_b4 : (w.heap.size + 1 + 1 + 1 + 1) < wr.heap.size := b4.lt
 have lt_b2 : (w.heap.size + 1 + 1) < wr.heap.size := b2.lt
 have lt_b3 : (w.heap.size + 1 + 1 + 1) < wr.heap.size := b3.lt
 have hbase : w.heap.size ≤ wr.heap.size := hb.size
 refine zq Try.mixed (by kernel_rfl) (by kernel_rfl) (fun v => by (simp only [frL, Act.put, pA, pB, pC, Nat.reduceAdd, Nat.zero_add]; exact rfl))
  (fun L v wx => Below w.heap.size w wx ∧ wr.heap.size ≤ wx.heap.size ∧ Blk wx (w.heap.size) 128 141 (A) ∧ Blk wx (w.heap.size + 1 + 1 + 1 + 1) 128 141 (B) ∧ (∃ g, Blk wx (w.heap.size + 1 + 1) 128 141 (g)) ∧ (L 4 = false → Blk wx (w.heap.size + 1 + 1) 128 141 (fun _ => 0)) ∧ (L 4 = true → Blk wx (w.heap.size + 1 + 1) 128 141 (B)) ∧ (∃ g, Blk wx (w.heap.size + 1 + 1 + 1) 64 26 (g)) ∧ (L 5 = false → Blk wx (w.heap.size + 1 + 1 + 1) 64 26 (fun _ => 0)) ∧ (L 5 = true → Blk wx (w.heap.size + 1 + 1 + 1) 64 26 (A)) ∧ (L 0 = true → v 0 = (.agg (zb 128 (B)))) ∧ (L 1 = true → v 1 = (.slice (some ⟨w.heap.size, 0, none⟩) 64 128)) ∧ (L 2 = true → v 2 = (.pointer (some ⟨w.heap.size, 0, none⟩) )) ∧ (L 3 = true → v 3 = (.agg (zb 64 (A))))) ?_ ?_ ?_
 · intro v hv0
   exact ⟨hb.drew, Nat.le_refl _, b0.drew, b4.drew, ⟨_, b2.drew⟩, (fun _ => b2.drew), (fun h => by cases h), ⟨_, b3.drew⟩, (fun _ => b3.drew), (fun h => by cases h), (fun h => by cases h), (fun h => by cases h), (fun h => by cases h), (fun h => by cases h)⟩
 · refine (.cons rfl ?_ (.cons rfl ?_ (.cons rfl ?_ (.cons rfl ?_ (.cons rfl ?_ (.cons rfl ?_ (.nil _)))))))
   all_goals intro L v wx hd hn ⟨hB, hz, s0, s1, x2, q2, n2, x3, q3, n3, h0, h1, h2, h3⟩ K hK
   · refine wp_load_blk 141 _ rfl _ rfl 128 141 _ s1 _ Try.underlying141 Try.size141 ?_
     exact hK _ _ _ rfl ⟨hB, hz, s0, s1, x2, q2, n2, x3, q3, n3, (fun _ => rfl), h1, h2, h3⟩
   · go_wp2_with fail
     exact hK _ (.slice (some ⟨w.heap.size, 0, none⟩) 64 128) _ (by simp only [Act.put, pA, pB, pC ]) ⟨hB, hz, s0, s1, x2, q2, n2, x3, q3, n3, h0, (fun _ => rfl), h2, h3⟩
   · have e1 := h1 (zdq hd 1 rfl)
     go_wp2_with fail
     exact hK _ (.pointer (some ⟨w.heap.size, 0, none⟩) ) _ (by simp only [Act.put, pA, pB, pC, e1]) ⟨hB, hz, s0, s1, x2, q2, n2, x3, q3, n3, h0, h1, (fun _ => rfl), h3⟩
   · have e2 := h2 (zdq hd 2 rfl)
     refine wp_load_mid 26 _ rfl _ (0) e2 _ _ (s0.pre (m := 64) (by omega)) Try.underlying26 rfl (by rw [zl]; exact Try.size26) ?_
     exact hK _ _ _ rfl ⟨hB, hz, s0, s1, x2, q2, n2, x3, q3, n3, h0, h1, h2, (fun _ => rfl)⟩
   · have e0 := h0 (zdq hd 0 rfl)
     obtain ⟨gz, hk⟩ := x2
     refine zsb 141 _ _ rfl _ 128 (B) rfl e0 141 gz hk Try.size141 ?_
     exact hK _ undef _ rfl ⟨zr hB (by omega) _, (by simpa [World.setRow] using hz), (s0).rowOther (by omega), (s1).rowOther (by omega), ⟨_, hk.row _⟩, (fun h => absurd h (by simp [setL])), (fun _ => hk.row _), (let ⟨g, h⟩ := x3; ⟨g, (h).rowOther (by omega)⟩), (fun h => (q3 h).rowOther (by omega)), (fun h => (n3 h).rowOther (by omega)), h0, h1, h2, h3⟩
   · have e3 := h3 (zdq hd 3 rfl)
     obtain ⟨gz, hk⟩ := x3
     refine zsb 26 _ _ rfl _ 64 (A) rfl e3 26 gz hk Try.size26 ?_
     exact hK _ undef _ rfl ⟨zr hB (by omega) _, (by simpa [World.setRow] using hz), (s0).rowOther (by omega), (s1).rowOther (by omega), (let ⟨g, h⟩ := x2; ⟨g, (h).rowOther (by omega)⟩), (fun h => (q2 h).rowOther (by omega)), (fun h => (n2 h).rowOther (by omega)), ⟨_, hk.row _⟩, (fun h => absurd h (by simp [setL])), (fun _ => hk.row _), h0, h1, h2, h3⟩
 · intro L v wx hL ⟨hB, hz, s0, s1, x2, q2, n2, x3, q3, n3, h0, h1, h2, h3⟩
   have r2 := n2 (hL 4 (by decide))
   have r3 := n3 (hL 5 (by decide))
   have e0 := h0 (hL 0 (by decide))
   have e1 := h1 (hL 1 (by decide))
   have e2 := h2 (hL 2 (by decide))
   have e3 := h3 (hL 3 (by decide))
   clear hL x2 q2 n2 x3 q3 n3 h0 h1 h2 h3
   simp only [Exit.then, e0, e1, e2, e3]
   clear e0 e1 e2 e3
   go_wp2_with fail
   show Q .ret _ _
   rw [HQ.out]
   refine bodyPost_ret (results_bb rfl _ _ _ 128 141 5 _ _ 64 26 5 _ rfl r2 Try.underlying141 Try.size141 rfl r3 Try.underlying26 Try.size26) rfl ⟨rfl, hB⟩
set_option maxRecDepth 100000 in
set_option maxHeartbeats 3200000 in
theorem longDivision_any (p m : Nat) (a b : Nat → Nat) (w : World) (hp : p = 2 ∨ p = 3 ∨ p = 5 ∨ p = 7) (ha : ∀ k, k < 128 → a k < p) (hb : ∀ k, k < 64 → b k < p) (hm : deg b = (m : Int)) (hbm : 0 < b m) (hm6 : m < 64) :
 Calls Try.prog 165 #[.int .i64 (p : Int), .agg (zb 128 a), .agg (zb 64 b)] w fun e w' => e = .returned (.tuple #[.agg (zb 128 (quoW p (invN p (b m)) m b a)), .agg (zb 64 (resW p (invN p (b m)) m b a))]) ∧ Below w.heap.size w w' := by
 obtain ⟨inv, hinv⟩ : ∃ v, v = invN p (b m) := ⟨_, rfl⟩
 have hi7 : inv < p := by have := (invF hp hbm (hb m hm6)).2.1; omega
 have p2 : 2 ≤ p := by omega
 have p7 : p ≤ 7 := by omega
 rw [← hinv]
 have HA := Lib.hid ha; clear ha
 have HB := Lib.hid hb; clear hb
 have HI := Lib.hid hinv; clear hinv
 have HM := Lib.hid hm; clear hm
 go_enter Try.func165, Try.ntmps165
 go_wp2
 refine wp_scope_labels (fun l a' w' => ldJ p m inv a b w l a' w') (fun l a' _ => ldM l a') ?_ ?_
 · go_upto_region 2 with (fail)
   rw [← zero128, ← z64]
   obtain ⟨wo, hwo⟩ : ∃ wo : World, wo = (((((w.alloc (.cells (zb 128 a) 141)).alloc (.cells (zb 64 b) 26)).alloc (.cells (zb 128 fun _ => 0) 141)).alloc (.cells (zb 64 fun _ => 0) 26)).alloc (.cells (zb 128 fun _ => 0) 141)) := ⟨_, rfl⟩
   have b0 : Blk wo (w.heap.size) 128 141 a := by subst hwo; have := (((((Blk.new w 128 141 a).alloc (.cells (zb 64 b) 26)).alloc (.cells (zb 128 fun _ => 0) 141)).alloc (.cells (zb 64 fun _ => 0) 26)).alloc (.cells (zb 128 fun _ => 0) 141)); simpa using this
   have b1 : Blk wo (w.heap.size + 1) 64 26 b := by subst hwo; have := ((((Blk.new (w.alloc (.cells (zb 128 a) 141)) 64 26 b).alloc (.cells (zb 128 fun _ => 0) 141)).alloc (.cells (zb 64 fun _ => 0) 26)).alloc (.cells (zb 128 fun _ => 0) 141)); simpa using this
   have b2 : Blk wo (w.heap.size + 1 + 1) 128 141 (fun _ => 0) := by subst hwo; have := (((Blk.new ((w.alloc (.cells (zb 128 a) 141)).alloc (.cells (zb 64 b) 26)) 128 141 (fun _ => 0)).alloc (.cells (zb 64 fun _ => 0) 26)).alloc (.cells (zb 128 fun _ => 0) 141)); simpa using this
   have b3 : Blk wo (w.heap.size + 1 + 1 + 1) 64 26 (fun _ => 0) := by subst hwo; have := ((Blk.new (((w.alloc (.cells (zb 128 a) 141)).alloc (.cells (zb 64 b) 26)).alloc (.cells (zb 128 fun _ => 0) 141)) 64 26 (fun _ => 0)).alloc (.cells (zb 128 fun _ => 0) 141)); simpa using this
   have b4 : Blk wo (w.heap.size + 1 + 1 + 1 + 1) 128 141 (fun _ => 0) := by subst hwo; have := (Blk.new ((((w.alloc (.cells (zb 128 a) 141)).alloc (.cells (zb 64 b) 26)).alloc (.cells (zb 128 fun _ => 0) 141)).alloc (.cells (zb 64 fun _ => 0) 26)) 128 141 (fun _ => 0)); simpa using this
   have hb : Below w.heap.size w wo := by subst hwo; exact ((((((Below.refl _ _).alloc (Nat.le_refl _) _).alloc (by simp) _).alloc (by simp; omega) _).alloc (by simp; omega) _).alloc (by simp; omega) _)
   rw [← hwo]
   clear hwo
   have ha : Below wo.heap.size wo wo := Below.refl _ _
   go_upto_region 4 with (first | refine zlb rfl 26 _ rfl _ rfl 64 26 _ (b1.below (by assumption) b1.lt) 5 Try.underlying26 Try.size26 ?_ | (go_at_call 69; refine (acc (degree_any _ _) (by assumption)).mono ?_; rintro e w1 ⟨rfl, h1, ha⟩; rw [HM.out]))
   replace hb := hb.trans (ha.mono hb.size)
   replace b0 := b0.zw ha
   replace b1 := b1.zw ha
   replace b2 := b2.zw ha
   replace b3 := b3.zw ha
   replace b4 := b4.zw ha
   clear ha h1
   have c1 := b1.cell (i := m) hm6
   go_wp2_with (first | (go_at_call 193; refine (inverseNumber_any p (b m) _ hp hbm (HB.out m hm6)).mono ?_; rintro e w1 ⟨rfl, rfl⟩; rw [← HI.out]))
   go_step3
   simp only [Exit.then]
   apply_assumption
   have hA : a = dS p inv m b a (127 - 127) := by rw [Nat.sub_self, dS_zero]
   have b4' := b4.congr (g := qS p inv m b a (127 - 127)) (fun k _ => by rw [Nat.sub_self, qS_zero])
   by_cases h0 : a 127 = 0
   · exact wp_mono (ld_zero p m inv a b w _ _ _ _ _ _ _ _ _ _ _ _ _ _ _ _ _ _ _ _ _ _ _ _ _ _ _ _ _ _ _ _ _ _ _ _ _ _ _ _ _ _ _ _ _ _ _ _ _ _ _ _ _ _ _ _ _ _ _ _ _ _ _ _ _ _ 127 w1 _ a hb b0 b1 b2 b3 b4' (by omega) (by omega) hA HA.out h0) jumps_less
   · exact wp_mono (ld_take p m inv a b w _ _ _ _ _ _ _ _ _ _ _ _ _ _ _ _ _ _ _ _ _ _ _ _ _ _ _ _ _ _ _ _ _ _ _ _ _ _ _ _ _ _ _ _ _ _ _ _ _ _ _ _ _ _ _ _ _ _ _ _ _ _ _ _ _ _ 127 w1 _ a hb b0 b1 b2 b3 b4' (by omega) (by omega) hA HA.out h0 p2 p7 hi7 HB.out hm6) jumps_less
 · intro l a' w' hJ
   obtain ⟨t, v9, v12, u13, u14, u15, u16, u17, u18, u19, u20, u21, u22, u23, u24, u25, u26, u27, u28, u29, u30, u31, u32, u33, u34, u35, u36, u37, u38, u39, u40, u41, u42, u43, u44, u45, u46, u47, u48, u49, u50, u51, u52, u53, u54, u55, u56, u57, u58, u59, u60, u61, u62, u63, u64, u65, u66, u67, u68, u69, u70, u71, u72, u73, u74, u75, u76, u77, rfl, hb, b0, b1, b2, b3, b4, ht1, ht2, hl⟩ := hJ
   rcases hl with ⟨rfl, rfl⟩ | ⟨rfl, rfl, ht3⟩ | ⟨rfl, rfl⟩
   · refine ⟨behind Try.f165 1, rfl, ?_⟩
     by_cases hlt : m < t
     · obtain ⟨j, rfl⟩ : ∃ j, t = j + 1 := ⟨t - 1, by omega⟩
       rw [show ((j + 1 : Nat) : Int) - 1 = (j : Int) by omega]
       rw [show 128 - (j + 1) = 127 - j by omega] at b0 b4
       rw [show ldM 1 ({ tmps := #[.int .i64 (p : Int), .agg (zb 128 a), .agg (zb 64 b), undef, .pointer (some ⟨w.heap.size, 0, none⟩), .pointer (some ⟨w.heap.size + 1, 0, none⟩), .pointer (some ⟨w.heap.size + 1 + 1, 0, none⟩), .pointer (some ⟨w.heap.size + 1 + 1 + 1, 0, none⟩), .pointer (some ⟨w.heap.size + 1 + 1 + 1 + 1, 0, none⟩), v9, .int .i64 (m : Int), .int .u8 (inv : Int), .int .i64 (j : Int), u13, u14, u15, u16, u17, u18, u19, u20, u21, u22, u23, u24, u25, u26, u27, u28, u29, u30, u31, u32, u33, u34, u35, u36, u37, u38, u39, u40, u41, u42, u43, u44, u45, u46, u47, u48, u49, u50, u51, u52, u53, u54, u55, u56, u57, u58, u59, u60, u61, u62, u63, u64, u65, u66, u67, u68, u69, u70, u71, u72, u73, u74, u75, u76, u77], defers := [] } : Act) = 3 * (j + 1) + 2 by simp [ldM, intOf] <;> omega]
       by_cases h0 : dS p inv m b a (127 - j) j = 0
       · exact behind_tail rfl (ld_zero p m inv a b w v9 u13 u14 u15 u16 u17 u18 u19 u20 u21 u22 u23 u24 u25 u26 u27 u28 u29 u30 u31 u32 u33 u34 u35 u36 u37 u38 u39 u40 u41 u42 u43 u44 u45 u46 u47 u48 u49 u50 u51 u52 u53 u54 u55 u56 u57 u58 u59 u60 u61 u62 u63 u64 u65 u66 u67 u68 u69 u70 u71 u72 u73 u74 u75 u76 u77 j w' _ _ hb b0 b1 b2 b3 b4 (by omega) (by omega) rfl (dS_lt (by omega) HA.out _) h0)
       · exact behind_tail rfl (ld_take p m inv a b w v9 u13 u14 u15 u16 u17 u18 u19 u20 u21 u22 u23 u24 u25 u26 u27 u28 u29 u30 u31 u32 u33 u34 u35 u36 u37 u38 u39 u40 u41 u42 u43 u44 u45 u46 u47 u48 u49 u50 u51 u52 u53 u54 u55 u56 u57 u58 u59 u60 u61 u62 u63 u64 u65 u66 u67 u68 u69 u70 u71 u72 u73 u74 u75 u76 u77 j w' _ _ hb b0 b1 b2 b3 b4 (by omega) (by omega) rfl (dS_lt (by omega) HA.out _) h0 p2 p7 hi7 HB.out hm6)
     · have e : t = m := by omega
       subst e
       rw [show ldM 1 ({ tmps := #[.int .i64 (p : Int), .agg (zb 128 a), .agg (zb 64 b), undef, .pointer (some ⟨w.heap.size, 0, none⟩), .pointer (some ⟨w.heap.size + 1, 0, none⟩), .pointer (some ⟨w.heap.size + 1 + 1, 0, none⟩), .pointer (some ⟨w.heap.size + 1 + 1 + 1, 0, none⟩), .pointer (some ⟨w.heap.size + 1 + 1 + 1 + 1, 0, none⟩), v9, .int .i64 (t : Int), .int .u8 (inv : Int), .int .i64 ((t : Int) - 1), u13, u14, u15, u16, u17, u18, u19, u20, u21, u22, u23, u24, u25, u26, u27, u28, u29, u30, u31, u32, u33, u34, u35, u36, u37, u38, u39, u40, u41, u42, u43, u44, u45, u46, u47, u48, u49, u50, u51, u52, u53, u54, u55, u56, u57, u58, u59, u60, u61, u62, u63, u64, u65, u66, u67, u68, u69, u70, u71, u72, u73, u74, u75, u76, u77], defers := [] } : Act) = 3 * t + 2 by simp [ldM, intOf] <;> omega]
       exact ld_stop p t inv a b w v9 u13 u14 u15 u16 u17 u18 u19 u20 u21 u22 u23 u24 u25 u26 u27 u28 u29 u30 u31 u32 u33 u34 u35 u36 u37 u38 u39 u40 u41 u42 u43 u44 u45 u46 u47 u48 u49 u50 u51 u52 u53 u54 u55 u56 u57 u58 u59 u60 u61 u62 u63 u64 u65 u66 u67 u68 u69 u70 u71 u72 u73 u74 u75 u76 u77 w' _ hb b0 b1 b2 b3 b4 ht2
   · refine ⟨behind Try.f165 2, rfl, ?_⟩
     rw [show ldM 2 ({ tmps := #[.int .i64 (p : Int), .agg (zb 128 a), .agg (zb 64 b), undef, .pointer (some ⟨w.heap.size, 0, none⟩), .pointer (some ⟨w.heap.size + 1, 0, none⟩), .pointer (some ⟨w.heap.size + 1 + 1, 0, none⟩), .pointer (some ⟨w.heap.size + 1 + 1 + 1, 0, none⟩), .pointer (some ⟨w.heap.size + 1 + 1 + 1 + 1, 0, none⟩), v9, .int .i64 (m : Int), .int .u8 (inv : Int), .int .i64 (t : Int), u13, u14, u15, u16, u17, u18, u19, u20, u21, u22, u23, u24, u25, u26, u27, u28, u29, u30, u31, u32, u33, u34, u35, u36, u37, u38, u39, u40, u41, u42, u43, u44, u45, u46, u47, u48, u49, u50, u51, u52, u53, u54, u55, u56, u57, u58, u59, u60, u61, u62, u63, u64, u65, u66, u67, u68, u69, u70, u71, u72, u73, u74, u75, u76, u77], defers := [] } : Act) = 3 * (t + 1) + 1 by simp [ldM, intOf] <;> omega]
     exact ld_next p m inv a b w v9 u13 u14 u15 u16 u17 u18 u19 u20 u21 u22 u23 u24 u25 u26 u27 u28 u29 u30 u31 u32 u33 u34 u35 u36 u37 u38 u39 u40 u41 u42 u43 u44 u45 u46 u47 u48 u49 u50 u51 u52 u53 u54 u55 u56 u57 u58 u59 u60 u61 u62 u63 u64 u65 u66 u67 u68 u69 u70 u71 u72 u73 u74 u75 u76 u77 t w' _ hb b0 b1 b2 b3 b4 ht1 ht3
   · refine ⟨behind Try.f165 0, rfl, ?_⟩
     exact ld_done p t inv a b w v9 u13 u14 u15 u16 u17 u18 u19 u20 u21 u22 u23 u24 u25 u26 u27 u28 u29 u30 u31 u32 u33 u34 u35 u36 u37 u38 u39 u40 u41 u42 u43 u44 u45 u46 u47 u48 u49 u50 u51 u52 u53 u54 u55 u56 u57 u58 u59 u60 u61 u62 u63 u64 u65 u66 u67 u68 u69 u70 u71 u72 u73 u74 u75 u76 u77 _ w' _ _ _ hb b0 b1 b2 b3 b4 _ rfl
end Go.Proofs.Ytgcajgmokcmcgaa
end
section
namespace Go.Proofs.Ytgcajgmokcmcgaa
open Go.RowKit
set_option linter.unusedVariables false
set_option linter.unusedSimpArgs false
attribute [local irreducible] deg invN dS qS stp stpr quoP resP
theorem splice_cut (a g : Nat → Nat) (hg : ∀ k, 64 ≤ k → g k = 0) : splice (bl 128 g) 0 (bl 64 a) = bl 128 (cut a) := by
 unfold splice
 apply List.ext_getElem?
 intro i
 by_cases h : i < 64
 · rw [List.take_zero, List.nil_append, List.getElem?_append_left (by rw [zl]; exact h)]
   have e1 := bcells_get (f := a) h
   have e2 := bcells_get (f := cut a) (show i < 128 by omega)
   simp only [List.getElem?_toArray] at e1 e2
   rw [e1, e2, cut_in a h]
 · rw [List.take_zero, List.nil_append, List.getElem?_append_right (by rw [zl]; omega), zl, List.getElem?_drop]
   by_cases h2 : i < 128
   · have e1 := bcells_get (f := g) (show 0 + 64 + (i - 64) < 128 by omega)
     have e2 := bcells_get (f := cut a) h2
     simp only [List.getElem?_toArray] at e1 e2
     rw [e1, e2, zcz a (by omega), hg _ (by omega)]
   · rw [List.getElem?_eq_none (by rw [zl]; omega), List.getElem?_eq_none (by rw [zl]; omega)]
theorem wp_copy_splice {P : Program} {o : Oper} {a : Act} {w : World} {K : Act → World → Prop} {Q : Exit → Act → World → Prop} (hgd : o.guard = none) (d s : Operand) (dT sT : TypeId)
 (ho : o.op = .call { callee := .builtin .copy, args := #[d, s], argTypes := #[dT, sT] }) (elem : TypeId) (hu : P.underlying dT = some (.slice elem)) (hsz : (P.info? elem).map (·.size) = some 1)
 (dp sp : Option Addr) (dLen dCap sLen sCap : Nat) (hd : a.eval d = .slice dp dLen dCap) (hs : a.eval s = .slice sp sLen sCap)
 (g off : Nat) (cur : List Value) (t : TypeId) (hg : w.heap[g]? = some (.cells cur.toArray t (0, 0))) (cs : List Value) (hn : cs.length = Nat.min sLen dLen)
 (hpos : 0 < cs.length → dp = some ⟨g, off, none⟩ ∧ ∃ ad, sp = some ad ∧ ∀ j v, cs[j]? = some v → w.cell? (ad.add j) = some v)
 (hfit : off + cs.length ≤ cur.length) (h1 : ∀ v ∈ cs, v.oneCell' = true) (B : Nat) (w0 : World) (hb : Below B w0 w) (hBg : B ≤ g)
 (h : ∀ w', Hid (w'.heap[g]? = some (.cells (splice cur off cs).toArray t (0, 0))) → Below B w0 w' → K (a.put o.dst (goInt cs.length)) w') : Oper.wp P o a w K Q := by
 have := step_copy_splice (P := P) (ops := #[]) (K := K) (Q := Q) (E := True) hgd d s dT sT ho elem hu hsz dp sp dLen dCap sLen sCap hd hs g off cur t hg cs hn hpos hfit h1 B w0 hb hBg h
 rwa [if_pos (by simp [Region.wanted, hgd])] at this
set_option maxRecDepth 100000 in
set_option maxHeartbeats 3200000 in
theorem quotientAndRest_any (p : Nat) (a b : Nat → Nat) (w : World) (hp : p = 2 ∨ p = 3 ∨ p = 5 ∨ p = 7) (ha : ∀ k, k < 64 → a k < p) (hbp : ∀ k, k < 64 → b k < p) (hd : 0 ≤ deg b) :
 Calls Try.prog 118 #[.int .i64 (p : Int), .agg (zb 64 a), .agg (zb 64 b)] w fun e w' => e = .returned (.tuple #[.agg (zb 64 (quoP p a b)), .agg (zb 64 (resP p a b))]) ∧ Below w.heap.size w w' := by
 obtain ⟨m, hm⟩ : ∃ m : Nat, deg b = (m : Int) := ⟨(deg b).toNat, by omega⟩
 obtain ⟨hm6, hbm, _⟩ := deg_top hm
 have p0 : 0 < p := by omega
 have HL := Lib.hid (fun W => longDivision_any p m (cut a) b W hp (fun k _ => cut_all p0 ha k) hbp hm hbm hm6)
 have HQ := Lib.hid (quoP_at (p := p) (a := a) hm)
 have HR := Lib.hid (resP_at (p := p) (a := a) hm)
 clear hm hd ha hbp
 go_enter Try.func118, Try.ntmps118
 go_upto_region 2 with (fail)
 rw [← zero128, ← z64]
 obtain ⟨wo, hwo⟩ : ∃ wo : World, wo = (((((w.alloc (.cells (zb 64 a) 26)).alloc (.cells (zb 64 b) 26)).alloc (.cells (zb 64 fun _ => 0) 26)).alloc (.cells (zb 64 fun _ => 0) 26)).alloc (.cells (zb 128 fun _ => 0) 141)) := ⟨_, rfl⟩
 have b0 : Blk wo (w.heap.size) 64 26 a := by subst hwo; have := (((((Blk.new w 64 26 a).alloc (.cells (zb 64 b) 26)).alloc (.cells (zb 64 fun _ => 0) 26)).alloc (.cells (zb 64 fun _ => 0) 26)).alloc (.cells (zb 128 fun _ => 0) 141)); simpa using this
 have b1 : Blk wo (w.heap.size + 1) 64 26 b := by subst hwo; have := ((((Blk.new (w.alloc (.cells (zb 64 a) 26)) 64 26 b).alloc (.cells (zb 64 fun _ => 0) 26)).alloc (.cells (zb 64 fun _ => 0) 26)).alloc (.cells (zb 128 fun _ => 0) 141)); simpa using this
 have b2 : Blk wo (w.heap.size + 1 + 1) 64 26 (fun _ => 0) := by subst hwo; have := (((Blk.new ((w.alloc (.cells (zb 64 a) 26)).alloc (.cells (zb 64 b) 26)) 64 26 (fun _ => 0)).alloc (.cells (zb 64 fun _ => 0) 26)).alloc (.cells (zb 128 fun _ => 0) 141)); simpa using this
 have b3 : Blk wo (w.heap.size + 1 + 1 + 1) 64 26 (fun _ => 0) := by subst hwo; have := ((Blk.new (((w.alloc (.cells (zb 64 a) 26)).alloc (.cells (zb 64 b) 26)).alloc (.cells (zb 64 fun _ => 0) 26)) 64 26 (fun _ => 0)).alloc (.cells (zb 128 fun _ => 0) 141)); simpa using this
 have b4 : Blk wo (w.heap.size + 1 + 1 + 1 + 1) 128 141 (fun _ => 0) := by subst hwo; have := (Blk.new ((((w.alloc (.cells (zb 64 a) 26)).alloc (.cells (zb 64 b) 26)).alloc (.cells (zb 64 fun _ => 0) 26)).alloc (.cells (zb 64 fun _ => 0) 26)) 128 141 (fun _ => 0)); simpa using this
 have hb : Below w.heap.size w wo := by subst hwo; exact ((((((Below.refl _ _).alloc (Nat.le_refl _) _).alloc (by simp) _).alloc (by simp; omega) _).alloc (by simp; omega) _).alloc (by simp; omega) _)
 rw [← hwo]
 clear hwo
 have lt_b0 : (w.heap.size) < wo.heap.size := b0.lt
 have lt_b1 : (w.heap.size + 1) < wo.heap.size := b1.lt
 have lt_b2 : (w.heap.size + 1 + 1) < wo.heap.size := b2.lt
 have lt_b3 : (w.heap.size + 1 + 1 + 1) < wo.heap.size := b3.lt
 have lt_b4 : (w.heap.size + 1 + 1 + 1 + 1) < wo.heap.size := b4.lt
 have hbase : w.heap.size ≤ wo.heap.size := hb.size
 refine zq Try.mixed (by kernel_rfl) (by kernel_rfl) (fun v => by (simp only [frL, Act.put, pA, pB, pC, Nat.reduceAdd, Nat.zero_add]; exact rfl))
  (fun L v wx => Below w.heap.size w wx ∧ wo.heap.size ≤ wx.heap.size ∧ Blk wx (w.heap.size) 64 26 (a) ∧ Blk wx (w.heap.size + 1) 64 26 (b) ∧ Blk wx (w.heap.size + 1 + 1) 64 26 (fun _ => 0) ∧ Blk wx (w.heap.size + 1 + 1 + 1) 64 26 (fun _ => 0) ∧ (∃ g, Blk wx (w.heap.size + 1 + 1 + 1 + 1) 128 141 (g)) ∧ (L 2 = false → Blk wx (w.heap.size + 1 + 1 + 1 + 1) 128 141 (fun _ => 0)) ∧ (L 2 = true → Blk wx (w.heap.size + 1 + 1 + 1 + 1) 128 141 (cut a)) ∧ (L 0 = true → v 0 = (.slice (some ⟨w.heap.size + 1 + 1 + 1 + 1, 0, none⟩) 128 128)) ∧ (L 1 = true → v 1 = (.slice (some ⟨w.heap.size, 0, none⟩) 64 64)) ∧ (L 2 = true → v 2 = (goInt ((64 : Nat) : Int)))) ?_ ?_ ?_
 · intro v hv0
   exact ⟨hb.drew, Nat.le_refl _, b0.drew, b1.drew, b2.drew, b3.drew, ⟨_, b4.drew⟩, (fun _ => b4.drew), (fun h => by cases h), (fun h => by cases h), (fun h => by cases h), (fun h => by cases h)⟩
 · refine (.cons rfl ?_ (.cons rfl ?_ (.cons rfl ?_ (.nil _))))
   all_goals intro L v wx hd hn ⟨hB, hz, s0, s1, s2, s3, x4, q4, n4, h0, h1, h2⟩ K hK
   · go_wp2_with fail
     exact hK _ (.slice (some ⟨w.heap.size + 1 + 1 + 1 + 1, 0, none⟩) 128 128) _ (by simp only [Act.put, pA, pB, pC ]) ⟨hB, hz, s0, s1, s2, s3, x4, q4, n4, (fun _ => rfl), h1, h2⟩
   · go_wp2_with fail
     exact hK _ (.slice (some ⟨w.heap.size, 0, none⟩) 64 64) _ (by simp only [Act.put, pA, pB, pC ]) ⟨hB, hz, s0, s1, s2, s3, x4, q4, n4, h0, (fun _ => rfl), h2⟩
   · have e0 := h0 (zdq hd 0 rfl)
     have e1 := h1 (zdq hd 1 rfl)
     obtain ⟨gz, hk, hgz⟩ : ∃ g, Blk wx (w.heap.size + 1 + 1 + 1 + 1) 128 141 g ∧ ∀ k, 64 ≤ k → g k = 0 := by
      cases hL : L 2 with
      | false => exact ⟨_, q4 hL, fun _ _ => rfl⟩
      | true => exact ⟨_, n4 hL, fun k hk => zcz a hk⟩
     have hg : wx.heap[w.heap.size + 1 + 1 + 1 + 1]? = some (.cells (bl 128 gz).toArray 141 (0, 0)) := by unfold Blk at hk; exact hk
     refine wp_copy_splice rfl _ _ 143 143 rfl 5 Try.underlying143 Try.size5 _ _ _ _ _ _ e0 e1 (w.heap.size + 1 + 1 + 1 + 1) 0 (bl 128 gz) 141 hg (bl 64 a) (by rw [zl]; rfl) (fun _ => ⟨rfl, _, rfl, fun j v hv => by rw [addr_zero_add]; have := s0.range j v hv; rwa [Nat.zero_add] at this⟩) (by rw [zl, zl]; omega) bl_one (w.heap.size + 1 + 1 + 1 + 1) wx (Below.refl _ _) (Nat.le_refl _) ?_
     intro wy hyg hy
     have hnew : Blk wy (w.heap.size + 1 + 1 + 1 + 1) 128 141 (cut a) := by unfold Blk; rw [hyg.out, splice_cut a gz hgz]
     rw [zl]
     exact hK _ (goInt ((64 : Nat) : Int)) _ (by simp only [Act.put, pA, pB, pC, e0, e1]) ⟨hB.trans (hy.mono (by omega)), (Nat.le_trans hz hy.size), (s0).below hy (by omega), (s1).below hy (by omega), (s2).below hy (by omega), (s3).below hy (by omega), ⟨_, hnew⟩, (fun h => absurd h (by simp [setL])), (fun _ => hnew), h0, h1, (fun _ => rfl)⟩
 · intro L v wx hL ⟨hB, hz, s0, s1, s2, s3, x4, q4, n4, h0, h1, h2⟩
   have r4 := n4 (hL 2 (by decide))
   have e0 := h0 (hL 0 (by decide))
   have e1 := h1 (hL 1 (by decide))
   have e2 := h2 (hL 2 (by decide))
   clear hL x4 q4 n4 h0 h1 h2
   simp only [Exit.then, e0, e1, e2]
   clear e0 e1 e2
   replace hb := hB
   replace b1 := s1
   replace b2 := s2
   replace b3 := s3
   replace b4 := r4
   clear hB s1 s2 s3 r4 hz
   have hx10 : ∀ w1 : World, Blk ((w1.alloc (.cells (zb 128 fun _ => 0) 141)).alloc (.cells (zb 64 fun _ => 0) 26)) (w1.heap.size + 1) 64 26 (fun _ => 0) := fun w1 => by
    have := Blk.new (w1.alloc (.cells (zb 128 fun _ => 0) 141)) 64 26 (fun _ => 0)
    simpa using this
   have HX := Lib.hid hx10
   clear hx10
   go_upto_region 4 with (first | refine zlb rfl 141 _ rfl _ rfl 128 141 _ (b4) 5 Try.underlying141 Try.size141 ?_ | refine zlb rfl 26 _ rfl _ rfl 64 26 _ (b1) 5 Try.underlying26 Try.size26 ?_ | (go_at_call 165; refine (HL.out _).mono ?_; rintro e w1 ⟨rfl, h1⟩; rw [← HQ.out, ← HR.out]) | (rw [← zero128, ← z64]; refine wpList_store_blk rfl 141 _ _ rfl _ 128 (quoP p a b) rfl rfl 141 _ ((Blk.new w1 128 141 (fun _ => 0)).alloc _) Try.size141 ?_) | (refine wpList_store_blk rfl 26 _ _ rfl _ 64 (resP p a b) rfl rfl 26 _ ((HX.out w1).rowOther (by omega)) Try.size26 ?_))
   have a9 := (((Blk.new w1 128 141 (fun _ => 0)).alloc (.cells (zb 64 fun _ => 0) 26)).row (quoP p a b)).rowOther (k := w1.heap.size + 1) (cs := zb 64 (resP p a b)) (by omega)
   have a10 := ((HX.out w1).rowOther (k := w1.heap.size) (cs := zb 128 (quoP p a b)) (by omega)).row (resP p a b)
   have hb4 := zr (zr (((Below.refl w1.heap.size w1).alloc (Nat.le_refl _) (.cells (zb 128 fun _ => 0) 141)).alloc (by simp) (.cells (zb 64 fun _ => 0) 26)) (Nat.le_refl _) (zb 128 (quoP p a b))) (show w1.heap.size ≤ w1.heap.size + 1 by omega) (zb 64 (resP p a b))
   obtain ⟨w4, hw4⟩ : ∃ w4 : World, w4 = (((w1.alloc (.cells (zb 128 fun _ => 0) 141)).alloc (.cells (zb 64 fun _ => 0) 26)).setRow w1.heap.size (zb 128 (quoP p a b))).setRow (w1.heap.size + 1) (zb 64 (resP p a b)) := ⟨_, rfl⟩
   rw [← hw4] at a9 a10 hb4 ⊢
   clear hw4
   replace b2 := b2.zw h1
   replace b3 := b3.zw h1
   have hl3 := b3.lt
   replace b2 := b2.zw hb4
   replace b3 := b3.zw hb4
   replace hb := (hb.trans (h1.mono hb.size))
   replace hb := hb.trans (hb4.mono hb.size)
   obtain ⟨n9, hn9⟩ : ∃ n9, n9 = w1.heap.size := ⟨_, rfl⟩
   rw [← hn9] at a9 a10 hl3 ⊢
   clear hn9 hb4 h1 b1 b4
   have hat := fun (W : World) (a : Option Addr) => run_arrayAt (P := Try.prog) (w := W) 26 5 64 a 64 128 Try.underlying26 (by omega)
   have lt_a9 : (n9) < w4.heap.size := a9.lt
   have lt_a10 : (n9 + 1) < w4.heap.size := a10.lt
   have lt_b2 : (w.heap.size + 1 + 1) < w4.heap.size := b2.lt
   have lt_b3 : (w.heap.size + 1 + 1 + 1) < w4.heap.size := b3.lt
   have hbase : w.heap.size ≤ w4.heap.size := hb.size
   refine zq Try.mixed (by kernel_rfl) (by kernel_rfl) (fun v => by (simp only [frL, Act.put, pA, pB, pC, Nat.reduceAdd, Nat.zero_add]; exact rfl))
    (fun L v wx => Below w.heap.size w wx ∧ w4.heap.size ≤ wx.heap.size ∧ Blk wx (n9) 128 141 (quoP p a b) ∧ Blk wx (n9 + 1) 64 26 (resP p a b) ∧ (∃ g, Blk wx (w.heap.size + 1 + 1) 64 26 (g)) ∧ (L 4 = false → Blk wx (w.heap.size + 1 + 1) 64 26 (fun _ => 0)) ∧ (L 4 = true → Blk wx (w.heap.size + 1 + 1) 64 26 (quoP p a b)) ∧ (∃ g, Blk wx (w.heap.size + 1 + 1 + 1) 64 26 (g)) ∧ (L 5 = false → Blk wx (w.heap.size + 1 + 1 + 1) 64 26 (fun _ => 0)) ∧ (L 5 = true → Blk wx (w.heap.size + 1 + 1 + 1) 64 26 (resP p a b)) ∧ (L 0 = true → v 0 = (.slice (some ⟨n9, 0, none⟩) 64 128)) ∧ (L 1 = true → v 1 = (.pointer (some ⟨n9, 0, none⟩) )) ∧ (L 2 = true → v 2 = (.agg (zb 64 (quoP p a b)))) ∧ (L 3 = true → v 3 = (.agg (zb 64 (resP p a b))))) ?_ ?_ ?_
   · intro v hv0
     exact ⟨hb.drew, Nat.le_refl _, a9.drew, a10.drew, ⟨_, b2.drew⟩, (fun _ => b2.drew), (fun h => by cases h), ⟨_, b3.drew⟩, (fun _ => b3.drew), (fun h => by cases h), (fun h => by cases h), (fun h => by cases h), (fun h => by cases h), (fun h => by cases h)⟩
   · refine (.cons rfl ?_ (.cons rfl ?_ (.cons rfl ?_ (.cons rfl ?_ (.cons rfl ?_ (.cons rfl ?_ (.nil _)))))))
     all_goals intro L v wx hd hn ⟨hB, hz, s0, s1, x2, q2, n2, x3, q3, n3, h0, h1, h2, h3⟩ K hK
     · go_wp2_with fail
       exact hK _ (.slice (some ⟨n9, 0, none⟩) 64 128) _ (by simp only [Act.put, pA, pB, pC ]) ⟨hB, hz, s0, s1, x2, q2, n2, x3, q3, n3, (fun _ => rfl), h1, h2, h3⟩
     · have e0 := h0 (zdq hd 0 rfl)
       go_wp2_with fail
       exact hK _ (.pointer (some ⟨n9, 0, none⟩) ) _ (by simp only [Act.put, pA, pB, pC, e0]) ⟨hB, hz, s0, s1, x2, q2, n2, x3, q3, n3, h0, (fun _ => rfl), h2, h3⟩
     · have e1 := h1 (zdq hd 1 rfl)
       refine wp_load_mid 26 _ rfl _ (0) e1 _ _ (s0.pre (m := 64) (by omega)) Try.underlying26 rfl (by rw [zl]; exact Try.size26) ?_
       exact hK _ _ _ rfl ⟨hB, hz, s0, s1, x2, q2, n2, x3, q3, n3, h0, h1, (fun _ => rfl), h3⟩
     · refine wp_load_blk 26 _ rfl _ rfl 64 26 _ s1 _ Try.underlying26 Try.size26 ?_
       exact hK _ _ _ rfl ⟨hB, hz, s0, s1, x2, q2, n2, x3, q3, n3, h0, h1, h2, (fun _ => rfl)⟩
     · have e2 := h2 (zdq hd 2 rfl)
       obtain ⟨gz, hk⟩ := x2
       refine zsb 26 _ _ rfl _ 64 (quoP p a b) rfl e2 26 gz hk Try.size26 ?_
       exact hK _ undef _ rfl ⟨zr hB (by omega) _, (by simpa [World.setRow] using hz), (s0).rowOther (by omega), (s1).rowOther (by omega), ⟨_, hk.row _⟩, (fun h => absurd h (by simp [setL])), (fun _ => hk.row _), (let ⟨g, h⟩ := x3; ⟨g, (h).rowOther (by omega)⟩), (fun h => (q3 h).rowOther (by omega)), (fun h => (n3 h).rowOther (by omega)), h0, h1, h2, h3⟩
     · have e3 := h3 (zdq hd 3 rfl)
       obtain ⟨gz, hk⟩ := x3
       refine zsb 26 _ _ rfl _ 64 (resP p a b) rfl e3 26 gz hk Try.size26 ?_
       exact hK _ undef _ rfl ⟨zr hB (by omega) _, (by simpa [World.setRow] using hz), (s0).rowOther (by omega), (s1).rowOther (by omega), (let ⟨g, h⟩ := x2; ⟨g, (h).rowOther (by omega)⟩), (fun h => (q2 h).rowOther (by omega)), (fun h => (n2 h).rowOther (by omega)), ⟨_, hk.row _⟩, (fun h => absurd h (by simp [setL])), (fun _ => hk.row _), h0, h1, h2, h3⟩
   · intro L v wx hL ⟨hB, hz, s0, s1, x2, q2, n2, x3, q3, n3, h0, h1, h2, h3⟩
     have r2 := n2 (hL 4 (by decide))
     have r3 := n3 (hL 5 (by decide))
     have e0 := h0 (hL 0 (by decide))
     have e1 := h1 (hL 1 (by decide))
     have e2 := h2 (hL 2 (by decide))
     have e3 := h3 (hL 3 (by decide))
     clear hL x2 q2 n2 x3 q3 n3 h0 h1 h2 h3
     simp only [Exit.then, e0, e1, e2, e3]
     clear e0 e1 e2 e3
     go_wp2_with fail
     show bodyPost Try.prog Try.f118 _ .ret _ _
     refine bodyPost_ret (results_bb rfl _ _ _ 64 26 5 _ _ 64 26 5 _ rfl r2 Try.underlying26 Try.size26 rfl r3 Try.underlying26 Try.size26) rfl ⟨rfl, hB⟩
end Go.Proofs.Ytgcajgmokcmcgaa
end
section
namespace Go.Proofs.Ytgcajgmokcmcgaa
open Go Go.RowKit
/-- the first n cells are the same -/
def eqN (n : Nat) (f g : Nat → Nat) : Bool := (List.range n).all fun i => f i == g i
theorem eqN_iff {n : Nat} {f g : Nat → Nat} : eqN n f g = true ↔ ∀ i, i < n → f i = g i := by
 simp [eqN, List.all_eq_true]
section
variable {P : Program}
theorem run_part_byte (w : World) (e n i : Nat) (f : Nat → Nat) (he : P.underlying e = some (.int .u8)) (hi : i < n) : (part e (zb n f) (i * 1)).run P w = .ok (.int .u8 (f i : Int)) w := by
 have h := bcells_get (f := f) hi
 rw [Nat.mul_one]
 unfold part isAgg
 simp only [Sem.run_bind, run_underlying he, Result.andThen_ok, Sem.run_pure]
 simp [h]
theorem zeb (w : World) (d t e n : Nat) (f g : Nat → Nat) (hu : P.underlying t = some (.array n e)) (he : P.underlying e = some (.int .u8)) (hs : (P.info? e).map (·.size) = some 1) :
 (Op.equalIn (d + 2) t (.agg (zb n f)) (.agg (zb n g))).run P w = .ok (eqN n f g) w := by
 have hsz : (sizeOf e).run P w = .ok 1 w := by
  cases hq : P.info? e with
  | none => simp [hq] at hs
  | some i =>
   have : i.size = 1 := by simpa [hq] using hs
   simp [sizeOf, typeInfo, hq, this, Sem.run_bind]
 rw [Op.equalIn]
 simp only [Sem.run_bind, run_underlying hu, Result.andThen_ok, hsz]
 rw [Std.Legacy.Range.forIn_eq_forIn_range']
 have key : ∀ l : List Nat, (∀ i, i ∈ l → i < n) → (forIn l ((none : Option Bool), ()) fun i __s => (do
           let __do_lift ← part e (zb n f) (i * 1)
           let __do_lift_1 ← part e (zb n g) (i * 1)
           let __do_lift ← Op.equalIn (d + 1) e __do_lift __do_lift_1
           if (!__do_lift) = true then pure (ForInStep.done (some false, ())) else pure (ForInStep.yield (none, ())) : Sem (ForInStep (Option Bool × Unit)))).run P w = .ok (if (l.all fun i => f i == g i) then none else some false, ()) w := by
  intro l
  induction l with
  | nil => intro _; simp
  | cons i l ih =>
   intro hl
   have hi := hl i (by simp)
   rw [List.forIn_cons]
   simp only [Sem.run_bind, run_part_byte w e n i f he hi, run_part_byte w e n i g he hi, Result.andThen_ok, run_equalIn_int w d e .u8 .u8 _ _ he]
   by_cases h : f i = g i
   · have h' : ((f i : Int) == (g i : Int)) = true := by simp [h]
     rw [h']
     simp only [Bool.not_true, Bool.false_eq_true, if_false, Sem.run_pure, Result.andThen_ok, List.all_cons, h, beq_self_eq_true, Bool.true_and]
     exact ih (fun j hj => hl j (by simp [hj]))
   · have h' : ((f i : Int) == (g i : Int)) = false := by simp; omega
     rw [h']
     simp [List.all_cons, h]
 have hr := key (List.range' 0 n) (fun i hi => by simpa using hi)
 have e1 : (List.range' 0 n).all (fun i => f i == g i) = eqN n f g := by rw [eqN, List.range_eq_range']
 rw [e1] at hr
 have e2 : ([:n].size) = n := by simp [Std.Legacy.Range.size]
 rw [show (List.range' [:n].start [:n].size [:n].step) = List.range' 0 n by rw [e2]]
 rw [hr]
 cases eqN n f g <;> simp
end
end Go.Proofs.Ytgcajgmokcmcgaa
end
section
namespace Go.Proofs.Ytgcajgmokcmcgaa
open Go.RowKit
set_option linter.unusedVariables false
set_option linter.unusedSimpArgs false
attribute [local irreducible] deg invN dS qS stp stpr quoP resP
theorem Try.noGuard26 : Try.prog.eqGuardType Try.prog.depth 26 = false := by kernel_rfl
theorem eqN_zero (f : Nat → Nat) : eqN 64 f (fun _ => 0) = decide (deg f < 0) := by
 by_cases h : deg f < 0
 · rw [eqN_iff.2 (deg_neg_iff.1 h)]; simp [h]
 · have : eqN 64 f (fun _ => 0) = false := by
    cases he : eqN 64 f (fun _ => 0) with
    | false => rfl
    | true => exact absurd (deg_neg_iff.2 (eqN_iff.1 he)) h
   rw [this]; simp [h]
theorem prime_of {n : Nat} {fs : List (Nat → Nat)} (h : codeL (n : Int) fs = 0) : n = 2 ∨ n = 3 ∨ n = 5 ∨ n = 7 := by
 rcases okP_cases (codeL_zero h).1 with h | h | h | h <;> omega
end Go.Proofs.Ytgcajgmokcmcgaa
end
section
namespace Go.Proofs.Ytgcajgmokcmcgaa
open Go.RowKit
set_option linter.unusedVariables false
/-- three polynomials, one behind the other -/
def c3 (r u v : Nat → Nat) : Nat → Nat := fun k => if k < 64 then r k else if k < 128 then u (k - 64) else v (k - 128)
end Go.Proofs.Ytgcajgmokcmcgaa
end
section
namespace Go.Proofs.Ytgcajgmokcmcgaa
open Go Go.RowKit
section
variable {P : Program}
theorem wp_load_any {o : Oper} {a : Act} {w : World} {K : Act → World → Prop} {Q : Exit → Act → World → Prop} (ty : TypeId) (x : Operand) (ho : o.op = .load ty x)
 (b : Nat) (hx : a.eval x = .pointer (some ⟨b, 0, none⟩)) (n : Nat) (t : TypeId) (f : Nat → Nat) (hb : Blk w b n t f) (d : TypeDesc)
 (hu : P.underlying ty = some d) (hd : (match d with | .struct _ | .array _ _ => true | _ => false) = true) (hi : (P.info? ty).map (·.size) = some n) (h : K (a.put o.dst (.agg (zb n f))) w) : o.wp P a w K Q := by
 have hb' : w.heap[b]? = some (.cells (zb n f) t (0, 0)) := by unfold Blk at hb; exact hb
 exact wp_load_row ty x ho b hx t _ (0, 0) d hb' hu hd (by rw [zbs]; exact hi) h
theorem zlc {o : Oper} {a : Act} {w : World} {K : Act → World → Prop} {Q : Exit → Act → World → Prop} {ty : TypeId} {x : Operand} {b n : Nat} {t : TypeId} {f : Nat → Nat} {d : TypeDesc} (hb : Blk w b n t f) (hu : P.underlying ty = some d) (hi : (P.info? ty).map (·.size) = some n) (h : K (a.put o.dst (.agg (zb n f))) w) (ho : o.op = .load ty x := by rfl) (hx : a.eval x = .pointer (some ⟨b, 0, none⟩) := by rfl) (hd : (match d with | .struct _ | .array _ _ => true | _ => false) = true := by rfl) : o.wp P a w K Q := wp_load_any ty x ho b hx n t f hb d hu hd hi h
theorem wpList_load_any {ops : Array Oper} {rest : List Oper} {o : Oper} {a : Act} {w : World} {Q : Exit → Act → World → Prop} (hgd : o.guard = none) (ty : TypeId) (x : Operand) (ho : o.op = .load ty x)
 (b : Nat) (hx : a.eval x = .pointer (some ⟨b, 0, none⟩)) (n : Nat) (t : TypeId) (f : Nat → Nat) (hb : Blk w b n t f) (d : TypeDesc)
 (hu : P.underlying ty = some d) (hd : (match d with | .struct _ | .array _ _ => true | _ => false) = true) (hi : (P.info? ty).map (·.size) = some n)
 (h : wpList P ops Q rest (a.put o.dst (.agg (zb n f))) w) : wpList P ops Q (o :: rest) a w := by
 have hb' : w.heap[b]? = some (.cells (zb n f) t (0, 0)) := by unfold Blk at hb; exact hb
 exact wpList_load_row hgd ty x ho b hx t _ (0, 0) d hb' hu hd (by rw [zbs]; exact hi) h
theorem zla {ops : Array Oper} {rest : List Oper} {o : Oper} {a : Act} {w : World} {Q : Exit → Act → World → Prop} {ty : TypeId} {b n : Nat} {t : TypeId} {f : Nat → Nat} {d : TypeDesc} (x : Operand) (hb : Blk w b n t f) (hu : P.underlying ty = some d) (hi : (P.info? ty).map (·.size) = some n) (h : wpList P ops Q rest (a.put o.dst (.agg (zb n f))) w) (hgd : o.guard = none := by rfl) (ho : o.op = .load ty x := by rfl) (hx : a.eval x = .pointer (some ⟨b, 0, none⟩) := by rfl) (hd : (match d with | .struct _ | .array _ _ => true | _ => false) = true := by rfl) : wpList P ops Q (o :: rest) a w := wpList_load_any hgd ty x ho b hx n t f hb d hu hd hi h
theorem zsr {ops : Array Oper} {rest : List Oper} {o : Oper} {a : Act} {w : World} {Q : Exit → Act → World → Prop} {ty : TypeId} {b n : Nat} {t : TypeId} {f : Nat → Nat} (x y : Operand) (g : Nat → Nat) (hb : Blk w b n t f) (hi : (P.info? ty).map (·.size) = some n) (h : wpList P ops Q rest (a.put o.dst undef) (w.setRow b (zb n g))) (hgd : o.guard = none := by rfl) (ho : o.op = .store ty x y := by rfl) (hx : a.eval x = .pointer (some ⟨b, 0, none⟩) := by rfl) (hy : a.eval y = .agg (zb n g) := by rfl) : wpList P ops Q (o :: rest) a w := wpList_store_blk hgd ty x y ho b n g hx hy t f hb hi h
end
end Go.Proofs.Ytgcajgmokcmcgaa
end
section
namespace Go.Proofs.Ytgcajgmokcmcgaa
attribute [local irreducible] deg invN
/-- the sum of t below n -/
def cs : Nat → (Nat → Int) → Int
 | 0, _ => 0
 | n + 1, t => cs n t + t n
def sz (f g : Nat → Int) : Nat → Int := fun k => f k - g k
end Go.Proofs.Ytgcajgmokcmcgaa
end
section
namespace Go.Proofs.Ytgcajgmokcmcgaa
/-- sums and products as in the whole numbers -/
class Rg (R : Type) extends Add R, Mul R, Neg R where
 o : R
 e : R
 acomm : ∀ a b : R, a + b = b + a
 aassoc : ∀ a b c : R, a + b + c = a + (b + c)
 oadd : ∀ a : R, o + a = a
 nadd : ∀ a : R, -a + a = o
 mcomm : ∀ a b : R, a * b = b * a
 massoc : ∀ a b c : R, a * b * c = a * (b * c)
 emul : ∀ a : R, e * a = a
 madd : ∀ a b c : R, a * (b + c) = a * b + a * c
namespace Rg
variable {R : Type} [Rg R]
/-- a^n -/
def pw (a : R) : Nat → R
 | 0 => e
 | n + 1 => a * pw a n
/-- k times a -/
def nm : Nat → R → R
 | 0, _ => o
 | k + 1, a => nm k a + a
/-- the sum of c(i) x^i y^(n - i), for the n + 1 numbers of a list -/
def hm (x y : R) : List Nat → R
 | [] => o
 | c :: cs => nm c (pw y cs.length) + x * hm x y cs
def pas : Nat → List Nat → List Nat
 | q, [] => [q]
 | q, c :: cs => (q + c) :: pas c cs
def row : Nat → List Nat
 | 0 => [1]
 | n + 1 => pas 0 (row n)
end Rg
end Go.Proofs.Ytgcajgmokcmcgaa
set_option linter.unusedVariables false
set_option linter.unusedVariables false
set_option linter.unusedVariables false
namespace Go.Proofs.Ytgcajgmokcmcgaa
attribute [local irreducible] deg invN quoP resP
/-- the number with the digits f below n -/
def vl (p : Nat) (f : Nat → Nat) : Nat → Nat
 | 0 => 0
 | n + 1 => f 0 + p * vl p (fun k => f (k + 1)) n
/-- the numbers of the monic polynomials of the degree n -/
def monL (p n : Nat) : List Nat := List.range' (p ^ n) (p ^ n)
/-- how often m divides a, and what is left -/
def dvo (p : Nat) (m : Nat → Nat) : Nat → (Nat → Nat) → Nat × (Nat → Nat)
 | 0, a => (0, a)
 | f + 1, a => if deg (resP p a m) < 0 then ((dvo p m f (quoP p a m)).1 + 1, (dvo p m f (quoP p a m)).2) else (0, a)
end Go.Proofs.Ytgcajgmokcmcgaa
set_option linter.unusedVariables false
namespace Go.Proofs.Ytgcajgmokcmcgaa
attribute [local irreducible] deg invN quoP resP
/-- all of a list, divided out one after the other: what is told, and what is left -/
def foR (p : Nat) : List Nat → (Nat → Nat) → List (Nat × Nat) × (Nat → Nat)
 | [], a => ([], a)
 | N :: ms, a => ((if 0 < (dvo p (ofN p N) 64 a).1 then [(N, (dvo p (ofN p N) 64 a).1)] else []) ++ (foR p ms (dvo p (ofN p N) 64 a).2).1, (foR p ms (dvo p (ofN p N) 64 a).2).2)
/-- degree by degree -/
def run (p : Nat) : Nat → Nat → (Nat → Nat) → List (Nat × Nat)
 | 0, _, _ => []
 | f + 1, n, a => if deg a ≤ 0 then [] else (foR p (monL p n) a).1 ++ run p f (n + 1) (foR p (monL p n) a).2
end Go.Proofs.Ytgcajgmokcmcgaa
set_option linter.unusedVariables false
set_option linter.unusedVariables false
set_option linter.unusedVariables false
set_option linter.unusedVariables false
end
section
namespace Go.Proofs.Ytgcajgmokcmcgaa
open Go Go.RowKit Go.ChangeMaps
open Go.Maps (Keyed)
/-- block b is a map with the entries L, keys of type k -/
def MapG (P : Program) (k : TypeId) (w : World) (b : Nat) (L : List (Value × Value)) : Prop :=
 ∃ es clock, w.heap[b]? = some (.map es clock) ∧ es.toList.map (fun e => (e.key, e.val)) = L ∧ ∀ e ∈ es.toList, ∃ l, keyOf P k e.key = some l
theorem MapG.lt {P : Program} {k : TypeId} {w : World} {b : Nat} {L : List (Value × Value)} (h : MapG P k w b L) : b < w.heap.size := by
 obtain ⟨es, clock, hb, _⟩ := h
 exact (Array.getElem?_eq_some_iff.1 hb).1
theorem MapG.new (P : Program) (k : TypeId) (w : World) : MapG P k (w.alloc (.map #[] 0)) w.heap.size [] := ⟨#[], 0, (MapKept.heap_alloc w _).1, rfl, by simp⟩
theorem MapG.of {P : Program} {k : TypeId} {w w' : World} {b : Nat} {L : List (Value × Value)} (h : MapG P k w b L) (e : w'.heap[b]? = w.heap[b]?) : MapG P k w' b L := by
 obtain ⟨es, clock, hb, r⟩ := h
 exact ⟨es, clock, e.trans hb, r⟩
theorem MapG.alloc {P : Program} {k : TypeId} {w : World} {b : Nat} {L : List (Value × Value)} (h : MapG P k w b L) (o : Obj) : MapG P k (w.alloc o) b L := h.of (Below.heap_alloc _ _ _ h.lt)
theorem MapG.drew {P : Program} {k : TypeId} {w : World} {b : Nat} {L : List (Value × Value)} (h : MapG P k w b L) : MapG P k w.drew b L := h
theorem MapG.below {P : Program} {k : TypeId} {w w' : World} {B b : Nat} {L : List (Value × Value)} (h : MapG P k w b L) (hb : Below B w w') (e : b < B) : MapG P k w' b L := h.of (hb.block b e)
theorem MapG.zw {P : Program} {k : TypeId} {w w' : World} {b : Nat} {L : List (Value × Value)} (h : MapG P k w b L) (hb : Below w.heap.size w w') : MapG P k w' b L := MapG.below h hb (MapG.lt h)
theorem MapG.setOther {P : Program} {k : TypeId} {w : World} {b : Nat} {L : List (Value × Value)} (h : MapG P k w b L) {a : Addr} {v : Value} (e : b ≠ a.block) : MapG P k (w.setCell a v) b L := h.of (heap_setCell_other _ _ _ _ e)
theorem MapG.rowOther {P : Program} {k : TypeId} {w : World} {b : Nat} {L : List (Value × Value)} (h : MapG P k w b L) {j : Nat} {cs : Array Value} (e : b ≠ j) : MapG P k (w.setRow j cs) b L := h.of (setRow_other _ _ _ _ e)
/-- block b is one cell that holds v -/
def One (w : World) (b : Nat) (t : TypeId) (v : Value) : Prop := w.heap[b]? = some (.cells #[v] t (0, 0))
theorem One.new (w : World) (t : TypeId) (v : Value) : One (w.alloc (.cells #[v] t)) w.heap.size t v := heap_alloc_last w _
theorem One.lt {w : World} {b : Nat} {t : TypeId} {v : Value} (h : One w b t v) : b < w.heap.size := by
 unfold One at h
 exact (Array.getElem?_eq_some_iff.1 h).1
theorem One.cell {w : World} {b : Nat} {t : TypeId} {v : Value} (h : One w b t v) : w.cell? ⟨b, 0, none⟩ = some v := by
 rw [cell_of_row _ _ _ _ _ _ h]; rfl
theorem One.frozen {w : World} {b : Nat} {t : TypeId} {v : Value} (h : One w b t v) (i : Nat) : w.frozen? ⟨b, i, none⟩ = false := frozen_of_row _ _ _ _ _ h
theorem One.of {w w' : World} {b : Nat} {t : TypeId} {v : Value} (h : One w b t v) (e : w'.heap[b]? = w.heap[b]?) : One w' b t v := by unfold One at *; rw [e]; exact h
theorem One.alloc {w : World} {b : Nat} {t : TypeId} {v : Value} (h : One w b t v) (o : Obj) : One (w.alloc o) b t v := h.of (Below.heap_alloc _ _ _ h.lt)
theorem One.drew {w : World} {b : Nat} {t : TypeId} {v : Value} (h : One w b t v) : One w.drew b t v := h
theorem One.below {w w' : World} {B b : Nat} {t : TypeId} {v : Value} (h : One w b t v) (hb : Below B w w') (e : b < B) : One w' b t v := h.of (hb.block b e)
theorem One.zw {w w' : World} {b : Nat} {t : TypeId} {v : Value} (h : One w b t v) (hb : Below w.heap.size w w') : One w' b t v := One.below h hb (One.lt h)
theorem One.setOther {w : World} {b : Nat} {t : TypeId} {v x : Value} (h : One w b t v) {a : Addr} (e : b ≠ a.block) : One (w.setCell a x) b t v := h.of (heap_setCell_other _ _ _ _ e)
theorem One.rowOther {w : World} {b : Nat} {t : TypeId} {v : Value} (h : One w b t v) {j : Nat} {cs : Array Value} (e : b ≠ j) : One (w.setRow j cs) b t v := h.of (setRow_other _ _ _ _ e)
theorem One.grown {w w' : World} {b j : Nat} {t : TypeId} {v : Value} (h : One w b t v) (hg : w.grownBy w' (some j)) (e : b ≠ j) : One w' b t v := h.of (hg.block b h.lt (fun x => e (by cases x; rfl)))
/-- the look-up at a key -/
theorem MapG.look {P : Program} {k e t : TypeId} (K : Keyed P k) (ht : P.underlying t = some (.map k e)) {w : World} {b : Nat} {L : List (Value × Value)} (h : MapG P k w b L) {z : Value} (hz : (zeroValue e).run P w = .ok z w) (c : Bool) {key : Value} {kl : Lit} (hkey : keyOf P k key = some kl) :
 ((Instr.lookup t (.map (some b)) key c).run P w = .ok (if c then .tuple #[z, .bool false] else z) w ∧ ∀ q ∈ L, q.1 ≠ key) ∨
 ∃ v, (key, v) ∈ L ∧ (Instr.lookup t (.map (some b)) key c).run P w = .ok (if c then .tuple #[v, .bool true] else v) w := by
 obtain ⟨es, clock, hb, rfl, hr⟩ := h
 rcases K.find w hkey es.toList hr with ⟨h1, h2⟩ | ⟨j, e0, h1, h2, h3⟩
 · refine .inl ⟨by simp [Instr.lookup, run_underlying ht, MapKept.run_getObj_map hb, K.check w _ hkey, h1, hz, Result.andThen], ?_⟩
   intro q hq
   obtain ⟨e, he, rfl⟩ := List.mem_map.1 hq
   exact h2 e he
 · refine .inr ⟨e0.val, ?_, by simp [Instr.lookup, run_underlying ht, MapKept.run_getObj_map hb, K.check w _ hkey, h1, Result.andThen]⟩
   exact List.mem_map.2 ⟨e0, List.mem_of_getElem? h2, by rw [h3]⟩
/-- a new key -/
theorem MapG.put {P : Program} {k e t : TypeId} (K : Keyed P k) (ht : P.underlying t = some (.map k e)) {w : World} {b : Nat} {L : List (Value × Value)} (h : MapG P k w b L) {key val : Value} {kl : Lit} (hkey : keyOf P k key = some kl) (hn : ∀ q ∈ L, q.1 ≠ key) :
 ∃ w', (Instr.mapUpdate t (.map (some b)) key val).run P w = .ok () w' ∧ MapG P k w' b (L ++ [(key, val)]) ∧ w.grownBy w' (some b) := by
 obtain ⟨es, clock, hb, rfl, hr⟩ := h
 rcases K.find w hkey es.toList hr with ⟨h1, h2⟩ | ⟨j, e0, h1, h2, h3⟩
 · refine ⟨setBlock w b (.map (es.push ⟨key, val, clock⟩) (clock + 1)), ?_, ⟨_, _, heap_setBlock_same hb _, by simp, ?_⟩, ⟨rfl, rfl, rfl, by simp [setBlock], fun i _ hi => heap_setBlock_other hb _ (fun e => hi (by rw [e]))⟩⟩
   · simp [Instr.mapUpdate, run_underlying ht, MapKept.run_getObj_map hb, K.check w false hkey, h1, MapKept.run_setObj_map _ hb, Result.andThen, setBlock]
   · intro x hx
     simp only [Array.toList_push, List.mem_append, List.mem_singleton] at hx
     rcases hx with hx | rfl
     · exact hr x hx
     · exact ⟨_, hkey⟩
 · exact absurd h3 (hn (e0.key, e0.val) (List.mem_map.2 ⟨e0, List.mem_of_getElem? h2, rfl⟩))
/-- what a store into the map leaves of another block -/
theorem Blk.grown {w w' : World} {b n j : Nat} {t : TypeId} {f : Nat → Nat} (h : Blk w b n t f) (hg : w.grownBy w' (some j)) (e : b ≠ j) : Blk w' b n t f := by
 have hl := h.lt
 unfold Blk at *; rw [hg.block b hl (fun x => e (by cases x; rfl))]; exact h
attribute [irreducible] MapG One
end Go.Proofs.Ytgcajgmokcmcgaa
end
