/-
  What the rows of this claim rest on: arrays of bytes, walks of the functions, plain mathematics.
-/
import Derived.WalkKit
import Derived.WalkSpells
import Derived.WalkLawsBesides
import Derived.Lib.Hide
import Derived.Laws.Rows
import Derived.Laws.CopyOwn
import Derived.Deep.QuietTactic
import Derived.Deep.WholeRow
import Derived.Deep.Draws
import Derived.Deep.MidRow
import Derived.Deep.CutRange
import Derived.Deep.DeepCutAuto
import Derived.Deep.RegionHeld3
import Derived.BigQuiet
import Derived.BigRegion
import Derived.Great.BuildSlice
import Derived.Test.YtobcdekochenfaaRows
section
namespace Go.Proofs.Ytobcdekochenfaa
open Go.RowKit
theorem pA {α : Type} (l : List α) (i : Nat) (a : α) : l.toArray.setIfInBounds i a = (l.set i a).toArray := List.setIfInBounds_toArray ..
theorem pB {α : Type} (xs : List α) (x a : α) : (x :: xs).set 0 a = a :: xs := List.set_cons_zero
theorem pC {α : Type} (xs : List α) (x a : α) (i : Nat) : (x :: xs).set (i + 1) a = x :: xs.set i a := List.set_cons_succ
/-- the cells of an array of n bytes -/
def bl (n : Nat) (f : Nat → Nat) : List Value := (List.range n).map fun i => Value.int .u8 (f i : Int)
abbrev zb (n : Nat) (f : Nat → Nat) : Array Value := (bl n f).toArray
theorem zl (n : Nat) (f : Nat → Nat) : (bl n f).length = n := by simp [bl]
theorem bl_one {n : Nat} {f : Nat → Nat} : ∀ v ∈ bl n f, v.oneCell' = true := by
 intro v hv
 simp only [bl, List.mem_map] at hv
 obtain ⟨i, _, rfl⟩ := hv
 rfl

theorem zbs (n : Nat) (f : Nat → Nat) : (zb n f).size = n := by simp [bl]
theorem bcells_get {n : Nat} {f : Nat → Nat} {i : Nat} (h : i < n) : (zb n f)[i]? = some (.int .u8 (f i : Int)) := by
 simp [bl, h]
def upd (f : Nat → Nat) (i v : Nat) : Nat → Nat := fun j => if j = i then v else f j
theorem bcells_set {n : Nat} {f : Nat → Nat} {i v : Nat} : (zb n f).setIfInBounds i (.int .u8 (v : Int)) = zb n (upd f i v) := by
 apply Array.ext
 · simp [bl]
 · intro j h1 h2
   have hj : j < n := by simpa [bl] using h2
   rw [Array.getElem_setIfInBounds (by simpa [bl] using hj)]
   by_cases e : i = j
   · subst e; simp [bl, upd]
   · have e' : ¬ j = i := fun h => e h.symm
     simp [bl, upd, e, e']
theorem upd_lt {a b : Nat → Nat} {k v : Nat} (hv : v = a k) : ∀ i, upd (fun i => if i < k then a i else b i) k v i = if i < k + 1 then a i else b i := by
 intro i; subst hv; unfold upd
 by_cases e : i = k
 · subst e; simp
 · have : (i < k + 1) ↔ i < k := by omega
   simp [e, this]
theorem zbc {n : Nat} {f g : Nat → Nat} (h : ∀ i, i < n → f i = g i) : zb n f = zb n g := by
 unfold zb bl
 congr 1
 apply List.map_congr_left
 intro i hi
 rw [h i (by simpa using hi)]
theorem bcells_one (n : Nat) (f : Nat → Nat) : (zb n f).all (·.oneCell') = true :=
 Array.all_eq_true_iff_forall_mem.2 fun v hv => bl_one v (by simpa using hv)
/-- block b holds the bytes f -/
def Blk (w : World) (b n : Nat) (t : TypeId) (f : Nat → Nat) : Prop := w.heap[b]? = some (.cells (zb n f) t (0, 0))

theorem Blk.new (w : World) (n : Nat) (t : TypeId) (f : Nat → Nat) : Blk (w.alloc (.cells (zb n f) t)) w.heap.size n t f := heap_alloc_last w _
theorem Blk.lt {w : World} {b n : Nat} {t : TypeId} {f : Nat → Nat} (h : Blk w b n t f) : b < w.heap.size := by
 unfold Blk at h
 exact (Array.getElem?_eq_some_iff.1 h).1
theorem Blk.cell {w : World} {b n : Nat} {t : TypeId} {f : Nat → Nat} (h : Blk w b n t f) {i : Nat} (hi : i < n) : w.cell? ⟨b, i, none⟩ = some (.int .u8 (f i : Int)) := by
 rw [cell_of_row _ _ _ _ _ _ h]; exact bcells_get hi
theorem Blk.frozen {w : World} {b n : Nat} {t : TypeId} {f : Nat → Nat} (h : Blk w b n t f) (i : Nat) : w.frozen? ⟨b, i, none⟩ = false := frozen_of_row _ _ _ _ _ h
theorem Blk.congr {w : World} {b n : Nat} {t : TypeId} {f g : Nat → Nat} (h : Blk w b n t f) (e : ∀ i, i < n → f i = g i) : Blk w b n t g := by
 unfold Blk at *; rw [h, zbc e]
theorem Blk.set {w : World} {b n : Nat} {t : TypeId} {f : Nat → Nat} (h : Blk w b n t f) {i v : Nat} {x : Int} (e : x = (v : Int)) : Blk (w.setCell ⟨b, i, none⟩ (.int .u8 x)) b n t (upd f i v) := by
 subst e; unfold Blk at *
 rw [heap_setCell_same _ _ _ _ _ _ h, bcells_set]
theorem Blk.setOther {w : World} {b n : Nat} {t : TypeId} {f : Nat → Nat} (h : Blk w b n t f) {a : Addr} {v : Value} (e : b ≠ a.block) : Blk (w.setCell a v) b n t f := by
 unfold Blk at *; rw [heap_setCell_other _ _ _ _ e]; exact h
theorem Blk.alloc {w : World} {b n : Nat} {t : TypeId} {f : Nat → Nat} (h : Blk w b n t f) (o : Obj) : Blk (w.alloc o) b n t f := by
 have := h.lt
 unfold Blk at *; rw [Below.heap_alloc _ _ _ this]; exact h
theorem Blk.drew {w : World} {b n : Nat} {t : TypeId} {f : Nat → Nat} (h : Blk w b n t f) : Blk w.drew b n t f := h
theorem Blk.row {w : World} {b n : Nat} {t : TypeId} {f : Nat → Nat} (h : Blk w b n t f) (g : Nat → Nat) : Blk (w.setRow b (zb n g)) b n t g := setRow_heap _ _ _ _ _ _ h
theorem Blk.rowOther {w : World} {b n : Nat} {t : TypeId} {f : Nat → Nat} (h : Blk w b n t f) {k : Nat} {cs : Array Value} (e : b ≠ k) : Blk (w.setRow k cs) b n t f := by
 unfold Blk at *; rw [setRow_other _ _ _ _ e]; exact h
theorem Blk.below {w w' : World} {B b n : Nat} {t : TypeId} {f : Nat → Nat} (h : Blk w b n t f) (hb : Below B w w') (e : b < B) : Blk w' b n t f := by
 unfold Blk at *; rw [hb.block b e]; exact h

theorem Blk.zw {w w' : World} {b n : Nat} {t : TypeId} {f : Nat → Nat} (h : Blk w b n t f) (hb : Below w.heap.size w w') : Blk w' b n t f := Blk.below h hb (Blk.lt h)
theorem Blk.range {w : World} {b n : Nat} {t : TypeId} {f : Nat → Nat} (h : Blk w b n t f) : w.rangeAt b 0 (bl n f) := by
 intro j v hv
 rw [Nat.zero_add, cell_of_row _ _ _ _ _ _ h]
 simpa using hv
theorem addr_zero_add (b i : Nat) : (⟨b, 0, none⟩ : Addr).add i = ⟨b, i, none⟩ := by unfold Addr.add; split <;> simp_all

theorem zal (w : World) (o : Obj) : Below w.heap.size w (w.alloc o) := (Below.refl _ _).alloc (Nat.le_refl _) _
/-- y points to a block from N on that holds g -/
def PF (y : Value) (w : World) (N n : Nat) (t : TypeId) (g : Nat → Nat) : Prop := ∃ b, y = .pointer (some ⟨b, 0, none⟩) ∧ N ≤ b ∧ Blk w b n t g
def AF (y : Value) (w : World) (N n : Nat) (t : TypeId) : Prop := ∃ g, PF y w N n t g
theorem PF.below {y : Value} {w w' : World} {N n : Nat} {t : TypeId} {g : Nat → Nat} (h : PF y w N n t g) (hb : Below w.heap.size w w') : PF y w' N n t g := by
 obtain ⟨b, e, hN, hk⟩ := h
 exact ⟨b, e, hN, hk.zw hb⟩
theorem AF.below {y : Value} {w w' : World} {N n : Nat} {t : TypeId} (h : AF y w N n t) (hb : Below w.heap.size w w') : AF y w' N n t := by
 obtain ⟨g, h⟩ := h
 exact ⟨g, h.below hb⟩
theorem PF.af {y : Value} {w : World} {N n : Nat} {t : TypeId} {g : Nat → Nat} (h : PF y w N n t g) : AF y w N n t := ⟨g, h⟩
theorem PF.new (w : World) {N : Nat} (n : Nat) (t : TypeId) (g : Nat → Nat) (h : N ≤ w.heap.size) : PF (.pointer (some ⟨w.heap.size, 0, none⟩)) (w.alloc (.cells (zb n g) t)) N n t g := ⟨_, rfl, h, Blk.new _ _ _ _⟩
theorem PF.ne_new {y : Value} {w : World} {N n : Nat} {t : TypeId} {g : Nat → Nat} (h : PF y w N n t g) : y ≠ .pointer (some ⟨w.heap.size, 0, none⟩) := by
 obtain ⟨b, e, _, hk⟩ := h
 have := hk.lt
 rw [e]
 intro h'
 injection h' with h'
 injection h' with h'
 injection h' with h'
 omega
theorem AF.ne_new {y : Value} {w : World} {N n : Nat} {t : TypeId} (h : AF y w N n t) : y ≠ .pointer (some ⟨w.heap.size, 0, none⟩) := by
 obtain ⟨g, h⟩ := h
 exact h.ne_new
theorem PF.row {w : World} {b N n : Nat} {t : TypeId} {f : Nat → Nat} (hb : Blk w b n t f) (hN : N ≤ b) (g : Nat → Nat) : PF (.pointer (some ⟨b, 0, none⟩)) (w.setRow b (zb n g)) N n t g := ⟨b, rfl, hN, hb.row g⟩
theorem PF.rowOther {y : Value} {w : World} {b N n : Nat} {t : TypeId} {g : Nat → Nat} {cs : Array Value} (h : PF y w N n t g) (e : y ≠ .pointer (some ⟨b, 0, none⟩)) : PF y (w.setRow b cs) N n t g := by
 obtain ⟨b', e', hN, hk⟩ := h
 refine ⟨b', e', hN, hk.rowOther ?_⟩
 rintro rfl
 exact e e'
theorem AF.row {y : Value} {w : World} {b N n m : Nat} {t u : TypeId} {f g : Nat → Nat} (h : AF y w N n t) (hb : Blk w b m u f) : AF y (w.setRow b (zb m g)) N n t := by
 obtain ⟨g', b', e', hN, hk⟩ := h
 by_cases e : b' = b
 · subst e
   have h1 := hk.symm.trans hb
   simp only [Option.some.injEq, Obj.cells.injEq, and_true] at h1
   obtain ⟨h1, h2⟩ := h1
   have h3 : n = m := by have := congrArg Array.size h1; rwa [zbs, zbs] at this
   subst h3; subst h2
   exact ⟨g, b', e', hN, hk.row g⟩
 · exact ⟨g', b', e', hN, hk.rowOther e⟩
theorem PF.out {y : Value} {w : World} {N n : Nat} {t : TypeId} {g : Nat → Nat} (h : PF y w N n t g) : ∃ b, y = .pointer (some ⟨b, 0, none⟩) ∧ N ≤ b ∧ Blk w b n t g := h
theorem AF.out {y : Value} {w : World} {N n : Nat} {t : TypeId} (h : AF y w N n t) : ∃ g b, y = .pointer (some ⟨b, 0, none⟩) ∧ N ≤ b ∧ Blk w b n t g := h
theorem zr {N b : Nat} {w0 w : World} (hb : Below N w0 w) (h : N ≤ b) (cs : Array Value) : Below N w0 (w.setRow b cs) := below_setRow hb h cs

theorem acc {P : Program} {k : FuncId} {args : Array Value} {w W0 : World} {v : Ending} (h : Calls P k args w fun e w' => e = v ∧ Below w.heap.size w w') (ha : Below W0.heap.size W0 w) :
 Calls P k args w fun e w' => e = v ∧ Below w.heap.size w w' ∧ Below W0.heap.size W0 w' :=
 h.mono fun _ _ ⟨he, hb⟩ => ⟨he, hb, ha.trans (hb.mono ha.size)⟩
section
variable {P : Program}
theorem run_index_blk (t e n : Nat) (f : Nat → Nat) (k : IntKind) (i : Nat) (hu : P.underlying t = some (.array n e)) (he : P.underlying e = some (.int .u8)) (hs : (P.info? e).map (·.size) = some 1) (hi : i < n) (w : World) :
 (Instr.index t (.agg (zb n f)) (.int k (i : Int))).run P w = .ok (.int .u8 (f i : Int)) w := by
 cases hq : P.info? e with
 | none => simp [hq] at hs
 | some ie =>
  have hsz : ie.size = 1 := by simpa [hq] using hs
  have hin : (0 : Int) ≤ (i : Int) ∧ (i : Int) < (n : Int) := by omega
  have hagg : (isAgg e).run P w = .ok false w := by
   unfold isAgg
   rw [Sem.run_bind, run_underlying he w]
   rfl
  have hg : (bl n f)[i]? = some (.int .u8 (f i : Int)) := by simp [bl, hi]
  simp [Instr.index, asIntOf, Sem.run_bind, run_underlying hu, sizeOf, typeInfo, hq, hsz, part, hagg, hg]
  intro h; omega
theorem wp_load_blk {o : Oper} {a : Act} {w : World} {K : Act → World → Prop} {Q : Exit → Act → World → Prop} (ty : TypeId) (x : Operand) (ho : o.op = .load ty x)
 (b : Nat) (hx : a.eval x = .pointer (some ⟨b, 0, none⟩)) (n : Nat) (t : TypeId) (f : Nat → Nat) (hb : Blk w b n t f) (e : TypeId)
 (hu : P.underlying ty = some (.array n e)) (hi : (P.info? ty).map (·.size) = some n) (h : K (a.put o.dst (.agg (zb n f))) w) : o.wp P a w K Q :=
 wp_load_row ty x ho b hx t _ (0, 0) _ hb hu rfl (by rw [zbs]; exact hi) h
theorem zsb {o : Oper} {a : Act} {w : World} {K : Act → World → Prop} {Q : Exit → Act → World → Prop} (ty : TypeId) (x y : Operand) (ho : o.op = .store ty x y)
 (b : Nat) (n : Nat) (g : Nat → Nat) (hx : a.eval x = .pointer (some ⟨b, 0, none⟩)) (hy : a.eval y = .agg (zb n g)) (t : TypeId) (f : Nat → Nat) (hb : Blk w b n t f)
 (hi : (P.info? ty).map (·.size) = some n) (h : K (a.put o.dst undef) (w.setRow b (zb n g))) : o.wp P a w K Q :=
 wp_store_row ty x y ho b _ hx hy t _ hb (by rw [zbs]; exact hi) (by rw [zbs, zbs]) (bcells_one n g) h
theorem wpList_store_new {ops : Array Oper} {rest : List Oper} {o : Oper} {a : Act} {w : World} {Q : Exit → Act → World → Prop} (hgd : o.guard = none) (ty : TypeId) (x y : Operand) (ho : o.op = .store ty x y)
 (old : Array Value) (t : TypeId) (n : Nat) (g : Nat → Nat) (hx : a.eval x = .pointer (some ⟨w.heap.size, 0, none⟩)) (hy : a.eval y = .agg (zb n g)) (hold : old.size = n)
 (hi : (P.info? ty).map (·.size) = some n)
 (h : wpList P ops Q rest (a.put o.dst undef) (w.alloc (.cells (zb n g) t))) : wpList P ops Q (o :: rest) a (w.alloc (.cells old t)) :=
 wpList_store_row hgd ty x y ho _ _ hx hy t old (heap_alloc_last w _) (by rw [zbs]; exact hi) (by rw [zbs]; exact hold) (bcells_one n g) (by rw [World.setRow_alloc_new]; exact h)
theorem zlb {ops : Array Oper} {rest : List Oper} {o : Oper} {a : Act} {w : World} {Q : Exit → Act → World → Prop} (hgd : o.guard = none) (ty : TypeId) (x : Operand) (ho : o.op = .load ty x)
 (b : Nat) (hx : a.eval x = .pointer (some ⟨b, 0, none⟩)) (n : Nat) (t : TypeId) (f : Nat → Nat) (hb : Blk w b n t f) (e : TypeId)
 (hu : P.underlying ty = some (.array n e)) (hi : (P.info? ty).map (·.size) = some n)
 (h : wpList P ops Q rest (a.put o.dst (.agg (zb n f))) w) : wpList P ops Q (o :: rest) a w :=
 wpList_load_row hgd ty x ho b hx t _ (0, 0) _ hb hu rfl (by rw [zbs]; exact hi) h
theorem wpList_store_blk {ops : Array Oper} {rest : List Oper} {o : Oper} {a : Act} {w : World} {Q : Exit → Act → World → Prop} (hgd : o.guard = none) (ty : TypeId) (x y : Operand) (ho : o.op = .store ty x y)
 (b : Nat) (n : Nat) (g : Nat → Nat) (hx : a.eval x = .pointer (some ⟨b, 0, none⟩)) (hy : a.eval y = .agg (zb n g)) (t : TypeId) (f : Nat → Nat) (hb : Blk w b n t f)
 (hi : (P.info? ty).map (·.size) = some n)
 (h : wpList P ops Q rest (a.put o.dst undef) (w.setRow b (zb n g))) : wpList P ops Q (o :: rest) a w :=
 wpList_store_row hgd ty x y ho b _ hx hy t _ hb (by rw [zbs]; exact hi) (by rw [zbs, zbs]) (bcells_one n g) h
theorem run_loadVar_blk (w : World) (b n : Nat) (t ty e : TypeId) (f : Nat → Nat) (hb : Blk w b n t f) (hu : P.underlying ty = some (.array n e)) (hi : (P.info? ty).map (·.size) = some n) :
 (loadVar ty ⟨b, 0, none⟩).run P w = .ok (.agg (zb n f)) w :=
 run_loadVar_row w b t ty _ (0, 0) _ hb hu rfl (by rw [zbs]; exact hi)
theorem zrb {fn : Func} {p : Tmp} {ty : TypeId} (h : fn.results = #[.cell p ty]) (tmps : Array Value) (w : World) (b n : Nat) (t e : TypeId) (f : Nat → Nat)
 (hp : tmps.getD p undef = .pointer (some ⟨b, 0, none⟩)) (hb : Blk w b n t f) (hu : P.underlying ty = some (.array n e)) (hi : (P.info? ty).map (·.size) = some n) :
 (results fn tmps).run P w = .ok (.agg (zb n f)) w :=
 results_cell_row h tmps w b t _ (0, 0) _ hp hb hu rfl (by rw [zbs]; exact hi)
theorem results_bb {fn : Func} {p p2 : Tmp} {ty ty2 : TypeId} (h : fn.results = #[.cell p ty, .cell p2 ty2]) (tmps : Array Value) (w : World) (b n : Nat) (t e : TypeId) (f : Nat → Nat) (b2 n2 : Nat) (t2 e2 : TypeId) (f2 : Nat → Nat)
 (hp : tmps.getD p undef = .pointer (some ⟨b, 0, none⟩)) (hb : Blk w b n t f) (hu : P.underlying ty = some (.array n e)) (hi : (P.info? ty).map (·.size) = some n)
 (hp2 : tmps.getD p2 undef = .pointer (some ⟨b2, 0, none⟩)) (hb2 : Blk w b2 n2 t2 f2) (hu2 : P.underlying ty2 = some (.array n2 e2)) (hi2 : (P.info? ty2).map (·.size) = some n2) :
 (results fn tmps).run P w = .ok (.tuple #[.agg (zb n f), .agg (zb n2 f2)]) w := by
 have hp' : tmps[p]?.getD undef = .pointer (some ⟨b, 0, none⟩) := by simpa using hp
 have hp2' : tmps[p2]?.getD undef = .pointer (some ⟨b2, 0, none⟩) := by simpa using hp2
 simp [results, h, hp', hp2', asAddr, run_loadVar_blk w b n t ty e f hb hu hi, run_loadVar_blk w b2 n2 t2 ty2 e2 f2 hb2 hu2 hi2]
end
theorem z64 : zb 64 (fun _ => 0) = #[.int .u8 0, .int .u8 0, .int .u8 0, .int .u8 0, .int .u8 0, .int .u8 0, .int .u8 0, .int .u8 0, .int .u8 0, .int .u8 0, .int .u8 0, .int .u8 0, .int .u8 0, .int .u8 0, .int .u8 0, .int .u8 0, .int .u8 0, .int .u8 0, .int .u8 0, .int .u8 0, .int .u8 0, .int .u8 0, .int .u8 0, .int .u8 0, .int .u8 0, .int .u8 0, .int .u8 0, .int .u8 0, .int .u8 0, .int .u8 0, .int .u8 0, .int .u8 0, .int .u8 0, .int .u8 0, .int .u8 0, .int .u8 0, .int .u8 0, .int .u8 0, .int .u8 0, .int .u8 0, .int .u8 0, .int .u8 0, .int .u8 0, .int .u8 0, .int .u8 0, .int .u8 0, .int .u8 0, .int .u8 0, .int .u8 0, .int .u8 0, .int .u8 0, .int .u8 0, .int .u8 0, .int .u8 0, .int .u8 0, .int .u8 0, .int .u8 0, .int .u8 0, .int .u8 0, .int .u8 0, .int .u8 0, .int .u8 0, .int .u8 0, .int .u8 0] := by rfl
attribute [irreducible] Blk PF AF bl
end Go.Proofs.Ytobcdekochenfaa
end
section
namespace Go.Proofs.Ytobcdekochenfaa
def okP (p : Int) : Bool := p == 2 || p == 3 || p == 5 || p == 7
def okA (p : Int) (f : Nat → Nat) : Bool := okP p && (List.range 64).all fun i => decide ((f i : Int) < p)
theorem okP_cases {p : Int} (h : okP p = true) : p = 2 ∨ p = 3 ∨ p = 5 ∨ p = 7 := by
 simp only [okP, Bool.or_eq_true, beq_iff_eq] at h
 rcases h with ((h | h) | h) | h <;> simp [h]
theorem okP_false {p : Int} (h : okP p = false) : (p == 2) = false ∧ (p == 3) = false ∧ (p == 5) = false ∧ (p == 7) = false := by
 simp only [okP, Bool.or_eq_false_iff] at h
 exact ⟨h.1.1.1, h.1.1.2, h.1.2, h.2⟩
theorem okP_le {p : Int} (h : okP p = true) : 2 ≤ p ∧ p ≤ 7 := by rcases okP_cases h with h | h | h | h <;> subst h <;> decide
theorem okA_iff {p : Int} {f : Nat → Nat} : okA p f = true ↔ okP p = true ∧ ∀ i, i < 64 → (f i : Int) < p := by
 simp [okA, List.all_eq_true]
theorem okA_lt {p : Int} {f : Nat → Nat} (h : okA p f = true) {i : Nat} (hi : i < 64) : (f i : Int) < p := (okA_iff.1 h).2 i hi
/-- the code of a list of polynomials -/
def codeL (p : Int) (fs : List (Nat → Nat)) : Int := if okP p && fs.all (okA p) then 0 else 1
/-- f cut off at 64 -/
def cut (f : Nat → Nat) : Nat → Nat := fun i => if i < 64 then f i else 0
/-- a byte -/
def byte (f : Nat → Nat) : Prop := ∀ i, f i < 256
end Go.Proofs.Ytobcdekochenfaa
end
section
namespace Go.Proofs.Ytobcdekochenfaa
open Go.RowKit
theorem foldl_set : ∀ (vs : List Value) (k : Nat) (pre post old : List Value), old.length = vs.length → pre.length = k →
 (vs.zipIdx 0).foldl (fun (cs : Array Value) (x : Value × Nat) => cs.setIfInBounds (k + x.2) x.1) (pre ++ old ++ post).toArray = (pre ++ vs ++ post).toArray := by
 have key : ∀ (vs : List Value) (j k : Nat) (pre post old : List Value), old.length = vs.length → pre.length = k + j →
  (vs.zipIdx j).foldl (fun (cs : Array Value) (x : Value × Nat) => cs.setIfInBounds (k + x.2) x.1) (pre ++ old ++ post).toArray = (pre ++ vs ++ post).toArray := by
  intro vs
  induction vs with
  | nil => intro j k pre post old h _; have : old = [] := List.length_eq_zero_iff.1 h; subst this; rfl
  | cons v vs ih =>
   intro j k pre post old h hp
   cases old with
   | nil => simp at h
   | cons o old =>
    simp only [List.zipIdx_cons, List.foldl_cons]
    have e : (pre ++ o :: old ++ post).toArray.setIfInBounds (k + j) v = ((pre ++ [v]) ++ old ++ post).toArray := by
     rw [List.setIfInBounds_toArray]
     congr 1
     rw [← hp]
     simp
    rw [e, ih (j + 1) k (pre ++ [v]) post old (by simpa using h) (by simp; omega)]
    simp
 intro vs k pre post old h hp
 exact key vs 0 k pre post old h (by omega)
theorem fill_cat (sz : Nat) : ∀ (vss : List (List Value)) (k : Nat) (pre old : List Value), (∀ vs ∈ vss, vs.length = sz) → pre.length = k * sz → old.length = vss.length * sz →
 Instr.fill (fun i => some (i * sz, sz)) (pre ++ old).toArray ((vss.zipIdx k).map fun x => (x.2, Value.agg x.1.toArray)) = some (pre ++ vss.flatten).toArray := by
 intro vss
 induction vss with
 | nil => intro k pre old _ _ h; have : old = [] := List.length_eq_zero_iff.1 (by simpa using h); subst this; simp [Instr.fill]
 | cons vs vss ih =>
  intro k pre old hs hp ho
  have h1 : vs.length = sz := hs vs (by simp)
  have hlen : sz ≤ old.length := by rw [ho, List.length_cons, Nat.succ_mul]; omega
  simp only [List.zipIdx_cons, List.map_cons, Instr.fill]
  have hc : (Value.agg vs.toArray).cells = vs.toArray := rfl
  rw [hc, if_neg (by simp; omega)]
  have := foldl_set vs (k * sz) pre (old.drop sz) (old.take sz) (by simp; omega) hp
  rw [List.append_assoc, List.take_append_drop] at this
  have e : ∀ (cs : Array Value), vs.toArray.zipIdx.foldl (fun cs x => cs.setIfInBounds (k * sz + x.2) x.1) cs = (vs.zipIdx 0).foldl (fun cs x => cs.setIfInBounds (k * sz + x.2) x.1) cs := by
   intro cs
   rw [← Array.foldl_toList]
   simp
  rw [e, this]
  have := ih (k + 1) (pre ++ vs) (old.drop sz) (fun v hv => hs v (by simp [hv])) (by simp [hp, h1, Nat.succ_mul]) (by simp [ho, Nat.succ_mul])
  rw [this]
  simp

/-- block b holds the polynomials fs, one behind the other -/
def PolS (w : World) (b : Nat) (fs : List (Nat → Nat)) : Prop := w.heap[b]? = some (.cells ((fs.map (bl 64)).flatten).toArray 23 (0, 0))
theorem PolS.lt {w : World} {b : Nat} {fs : List (Nat → Nat)} (h : PolS w b fs) : b < w.heap.size := by
 unfold PolS at h
 exact (Array.getElem?_eq_some_iff.1 h).1
theorem PolS.below {w w' : World} {B b : Nat} {fs : List (Nat → Nat)} (h : PolS w b fs) (hb : Below B w w') (e : b < B) : PolS w' b fs := by
 unfold PolS at *; rw [hb.block b e]; exact h
theorem PolS.zw {w w' : World} {b : Nat} {fs : List (Nat → Nat)} (h : PolS w b fs) (hb : Below w.heap.size w w') : PolS w' b fs := PolS.below h hb (PolS.lt h)
theorem flat_get : ∀ (fs : List (Nat → Nat)) (i : Nat) (f : Nat → Nat) (j : Nat), fs[i]? = some f → j < 64 → ((fs.map (bl 64)).flatten)[i * 64 + j]? = some (.int .u8 (f j : Int))
 | [], _, _, _, h, _ => by simp at h
 | g :: fs, 0, f, j, h, hj => by
  simp only [List.getElem?_cons_zero, Option.some.injEq] at h
  subst h
  rw [List.map_cons, List.flatten_cons, Nat.zero_mul, Nat.zero_add, List.getElem?_append_left (by rw [zl]; exact hj)]
  simp [bl, hj]
 | g :: fs, i + 1, f, j, h, hj => by
  rw [List.map_cons, List.flatten_cons, List.getElem?_append_right (by rw [zl]; omega), zl]
  have := flat_get fs i f j (by simpa using h) hj
  rw [show (i + 1) * 64 + j - 64 = i * 64 + j by omega]
  exact this
theorem PolS.range {w : World} {b : Nat} {fs : List (Nat → Nat)} (h : PolS w b fs) {i : Nat} {f : Nat → Nat} (hi : fs[i]? = some f) : w.rangeAt b (i * 64) (bl 64 f) := by
 intro j v hv
 have hj : j < 64 := by
  have := (List.getElem?_eq_some_iff.1 hv).1
  rwa [zl] at this
 rw [cell_of_row _ _ _ _ _ _ h]
 have e : (bl 64 f)[j]? = some (.int .u8 (f j : Int)) := by simp [bl, hj]
 rw [e] at hv
 injection hv with hv
 subst hv
 simpa using flat_get fs i f j hi hj
section
variable {P : Program}
theorem wpList_build_polys {ops : Array Oper} {rest : List Oper} {o : Oper} {a : Act} {w : World} {Q : Exit → Act → World → Prop} (hg : o.guard = none) (t : TypeId) (parts : Array (Nat × Operand)) (fs : List (Nat → Nat))
 (ho : o.op = .buildSlice t fs.length parts) (e : TypeId) (he : e = 23)
 (hu : P.underlying t = some (.slice e)) (hie : (P.info? e).map (fun i => (i.size, i.zero.isSome)) = some (64, true)) (hpos : 0 < fs.length) (hsm : fs.length ≤ 8)
 (hp : (parts.toList.map fun x => (x.1, a.eval x.2)) = ((fs.map (bl 64)).zipIdx 0).map fun x => (x.2, Value.agg x.1.toArray))
 (h : ∀ w', w' = w.alloc (.cells ((fs.map (bl 64)).flatten).toArray e) → PolS w' w.heap.size fs → Below w.heap.size w w' → wpList P ops Q rest (a.put o.dst (.slice (some ⟨w.heap.size, 0, none⟩) fs.length fs.length)) w') : wpList P ops Q (o :: rest) a w := by
 subst he
 cases hi : P.info? 23 with
 | none => simp [hi] at hie
 | some ie =>
  simp only [hi, Option.map_some, Option.some.injEq, Prod.mk.injEq] at hie
  obtain ⟨hs, hz⟩ := hie
  obtain ⟨z, hzz⟩ := Option.isSome_iff_exists.1 hz
  refine wpList_buildSlice hg t 23 fs.length parts ho _ ie z hu hi hzz (by rw [hs]; omega) (by rw [hs]; omega) ?_ (h _ rfl (heap_alloc_last w _) (zal _ _))
  rw [Array.toList_map, hp, hs]
  have := fill_cat 64 (fs.map (bl 64)) 0 [] ((Array.range (fs.length * 64)).map (z.cells[· % z.cells.size]!)).toList (by
   intro vs hv
   obtain ⟨f, _, rfl⟩ := List.mem_map.1 hv
   exact zl _ _) (by simp) (by simp)
  rw [List.nil_append, List.nil_append, Array.toArray_toList] at this
  exact this
end
attribute [irreducible] PolS
end Go.Proofs.Ytobcdekochenfaa
end
section
namespace Go.Proofs.Ytobcdekochenfaa
open Go.RowKit
theorem Try.size22 : (Try.prog.info? 22).map (·.size) = some 64 := by kernel_rfl
theorem Try.size23 : (Try.prog.info? 23).map (·.size) = some 64 := by kernel_rfl
theorem Try.size5 : (Try.prog.info? 5).map (·.size) = some 1 := by kernel_rfl
theorem Try.mixed : Try.prog.follows .mixedOrders = true := by kernel_rfl
theorem ret_int {k : IntKind} {a b : Int} (h : a = b) : Ending.returned (.int k a) = .returned (.int k b) := by rw [h]
theorem ret_bool {a b : Bool} (h : a = b) : Ending.returned (.bool a) = .returned (.bool b) := by rw [h]

theorem isPrime_any (p : Int) (w : World) : Calls Try.prog 66 #[.int .i64 p] w fun e w' => e = .returned (.bool (okP p)) ∧ w = w' := by
 cases hp : okP p with
 | true =>
  rcases okP_cases hp with rfl | rfl | rfl | rfl <;>
  · go_enter Try.func66, Try.ntmps66
    go_wp2
    go_ret
    exact ⟨rfl, rfl⟩
 | false =>
  obtain ⟨h2, h3, h5, h7⟩ := okP_false hp
  go_enter Try.func66, Try.ntmps66
  go_wp2
  go_ret
  exact ⟨rfl, rfl⟩
theorem l01Prime_any (p : Int) (w : World) : Calls Try.prog 134 #[.int .i64 p] w fun e w' => e = .returned (.bool (okP p)) ∧ w = w' := by
 cases hp : okP p with
 | true =>
  rcases okP_cases hp with rfl | rfl | rfl | rfl <;>
  · go_enter Try.func134, Try.ntmps134
    go_wp2
    go_ret
    exact ⟨rfl, rfl⟩
 | false =>
  obtain ⟨h2, h3, h5, h7⟩ := okP_false hp
  go_enter Try.func134, Try.ntmps134
  go_wp2
  go_ret
  exact ⟨rfl, rfl⟩

theorem byteOk (f : Nat → Nat) (hf : byte f) (k : Nat) : (0 : Int) ≤ (f k : Int) ∧ (f k : Int) ≤ 255 := by have := hf k; omega

set_option maxHeartbeats 800000 in
theorem IsPoly_any (p : Int) (f : Nat → Nat) (hf : byte f) (w : World) : Calls Try.prog 113 #[.int .i64 p, .agg (zb 64 f)] w fun e w' => e = .returned (.bool (okA p f)) ∧ Below w.heap.size w w' := by
 cases hp : okP p with
 | false =>
  go_enter Try.func113, Try.ntmps113
  go_wp2_with (go_at_call 66; refine (isPrime_any _ _).mono ?_; rintro e w' ⟨rfl, rfl⟩)
  go_ret
  exact ⟨ret_bool (by simp [okA, hp]), (Below.refl _ _).alloc (Nat.le_refl _) _⟩
 | true =>
  have hb := okP_le hp
  go_enter Try.func113, Try.ntmps113
  go_wp2_with (first | (go_at_call 66; refine (isPrime_any _ _).mono ?_; rintro e w' ⟨rfl, rfl⟩) | refine zlb rfl 23 _ rfl _ rfl 64 23 _ (Blk.new _ _ _ _) 5 Try.underlying23 Try.size23 ?_)
  go_loop [11] (fun i => ∃ k : Nat, k ≤ 64 ∧ (∀ j, j < k → (f j : Int) < p) ∧ i = .int .i64 (k : Int)) (fun i => 64 - (intOf i).toNat)
  case atStart => exact ⟨0, by omega, fun j hj => by omega, rfl⟩
  case round =>
   obtain ⟨k, hk, hall, rfl⟩ := hrel
   have HA := Lib.hid hall; clear hall
   by_cases hlt : k < 64
   · have hx := fun W => run_index_blk (P := Try.prog) 23 5 64 f .i64 k Try.underlying23 Try.underlying5 Try.size5 hlt W
     have hfk := byteOk f hf k
     by_cases hge : p ≤ (f k : Int)
     · go_wp2_with fail
       go_ret
       refine ⟨ret_bool ?_, (Below.refl _ _).alloc (Nat.le_refl _) _⟩
       cases h : okA p f with
       | false => rfl
       | true => have := okA_lt h hlt; omega
     · go_wp2_with fail
       go_round
       case rel =>
        refine ⟨k + 1, by omega, fun j hj => ?_, by go_num⟩
        by_cases e : j = k
        · subst e; omega
        · exact HA.out j (by omega)
       case measure => simp [intOf]; omega
   · go_wp2_with fail
     go_ret
     refine ⟨ret_bool ?_, (Below.refl _ _).alloc (Nat.le_refl _) _⟩
     exact (okA_iff.2 ⟨hp, fun i hi => HA.out i (by omega)⟩).symm

set_option maxHeartbeats 800000 in
theorem l01Is_any (p : Int) (f : Nat → Nat) (hf : byte f) (w : World) : Calls Try.prog 107 #[.int .i64 p, .agg (zb 64 f)] w fun e w' => e = .returned (.bool (okA p f)) ∧ Below w.heap.size w w' := by
 go_enter Try.func107, Try.ntmps107
 go_wp2_with fail
 go_loop [5] (fun i => ∃ k : Nat, k ≤ 64 ∧ (∀ j, j < k → (f j : Int) < p) ∧ i = .int .i64 (k : Int)) (fun i => 64 - (intOf i).toNat)
 case atStart => exact ⟨0, by omega, fun j hj => by omega, rfl⟩
 case round =>
  obtain ⟨k, hk, hall, rfl⟩ := hrel
  have HA := Lib.hid hall; clear hall
  by_cases hlt : k < 64
  · have hc := (Blk.new w 64 23 f).cell hlt
    have hfk := byteOk f hf k
    by_cases hge : p ≤ (f k : Int)
    · go_wp2_with fail
      go_ret
      refine ⟨ret_bool ?_, (Below.refl _ _).alloc (Nat.le_refl _) _⟩
      cases h : okA p f with
      | false => rfl
      | true => have := okA_lt h hlt; omega
    · go_wp2_with fail
      go_round
      case rel =>
       refine ⟨k + 1, by omega, fun j hj => ?_, by go_num⟩
       by_cases e : j = k
       · subst e; omega
       · exact HA.out j (by omega)
      case measure => simp [intOf]; omega
  · go_wp2_with (go_at_call 134; refine (l01Prime_any _ _).mono ?_; rintro e w' ⟨rfl, rfl⟩)
    go_ret
    refine ⟨ret_bool ?_, (Below.refl _ _).alloc (Nat.le_refl _) _⟩
    cases hp : okP p with
    | false => simp [okA, hp]
    | true => exact (okA_iff.2 ⟨hp, fun i hi => HA.out i (by omega)⟩).symm
end Go.Proofs.Ytobcdekochenfaa
end
section
namespace Go.Proofs.Ytobcdekochenfaa
open Go.RowKit
theorem codeL_p {p : Int} {fs : List (Nat → Nat)} (h : okP p = false) : codeL p fs = 1 := by simp [codeL, h]
theorem codeL_bad {p : Int} {fs : List (Nat → Nat)} {k : Nat} {f : Nat → Nat} (hk : fs[k]? = some f) (h : okA p f = false) : codeL p fs = 1 := by
 have : ¬ (fs.all (okA p) = true) := by
  rw [List.all_eq_true]
  intro h2
  have := h2 f (List.mem_of_getElem? hk)
  rw [h] at this; cases this
 simp [codeL, this]
theorem codeL_ok {p : Int} {fs : List (Nat → Nat)} (hp : okP p = true) (h : ∀ (j : Nat) (f : Nat → Nat), fs[j]? = some f → okA p f = true) : codeL p fs = 0 := by
 have : fs.all (okA p) = true := by
  rw [List.all_eq_true]
  intro f hf
  obtain ⟨j, hj⟩ := List.getElem?_of_mem hf
  exact h j f hj
 simp [codeL, hp, this]
set_option maxRecDepth 100000 in
set_option maxHeartbeats 800000 in
theorem checkPolys_any (p : Int) (fs : List (Nat → Nat)) (hf : ∀ f ∈ fs, byte f) (b : Nat) (w : World) (hs : PolS w b fs) (hl : fs.length ≤ 8) :
 Calls Try.prog 86 #[.int .i64 p, .slice (some ⟨b, 0, none⟩) fs.length fs.length] w fun e w' => e = .returned (.int .i64 (codeL p fs)) ∧ Below w.heap.size w w' := by
 cases hp : okP p with
 | false =>
  go_enter Try.func86, Try.ntmps86
  go_wp2_with (go_at_call 66; refine (isPrime_any _ _).mono ?_; rintro e w' ⟨rfl, rfl⟩)
  go_ret
  exact ⟨ret_int (codeL_p hp).symm, Below.refl _ _⟩
 | true =>
  go_enter Try.func86, Try.ntmps86
  go_wp2_with (go_at_call 66; refine (isPrime_any _ _).mono ?_; rintro e w' ⟨rfl, rfl⟩)
  go_loopw [12] (fun i wr => ∃ k : Nat, k ≤ fs.length ∧ (∀ j f, j < k → fs[j]? = some f → okA p f = true) ∧ i = .int .i64 (k : Int) ∧ Below w.heap.size w wr) (fun i _ => fs.length - (intOf i).toNat)
  case atStart => exact ⟨0, by omega, fun j f hj => by omega, rfl, Below.refl _ _⟩
  case round =>
   obtain ⟨k, hk, hall, rfl, hb⟩ := hrel
   have HA := Lib.hid hall; clear hall
   by_cases hlt : k < fs.length
   · obtain ⟨f, hfk⟩ : ∃ f, fs[k]? = some f := ⟨_, List.getElem?_eq_getElem hlt⟩
     have hr := (hs.zw hb).range hfk
     have HK := Lib.hid hfk
     have hbf := hf f (List.mem_of_getElem? hfk)
     clear hfk
     have hb2 := okP_le hp
     cases hkk : okA p f with
     | false =>
      go_wp2_with (first | refine wpList_load_mid rfl 23 _ rfl b (k * 64) rfl _ _ hr Try.underlying23 rfl (by rw [zl]; exact Try.size23) ?_ | refine wpList_store_new rfl 23 _ _ rfl _ 23 64 f rfl rfl rfl Try.size23 ?_ | refine zlb rfl 23 _ rfl _ rfl 64 23 _ (Blk.new _ _ _ _) 5 Try.underlying23 Try.size23 ?_ | (go_at_call 113; refine (IsPoly_any _ _ hbf _).mono ?_; rintro e w' ⟨rfl, hw⟩))
      go_ret
      exact ⟨ret_int (codeL_bad HK.out hkk).symm, hb.trans (((zal _ _).trans (hw.mono (by simp))).mono hb.size)⟩
     | true =>
      go_wp2_with (first | refine wpList_load_mid rfl 23 _ rfl b (k * 64) rfl _ _ hr Try.underlying23 rfl (by rw [zl]; exact Try.size23) ?_ | refine wpList_store_new rfl 23 _ _ rfl _ 23 64 f rfl rfl rfl Try.size23 ?_ | refine zlb rfl 23 _ rfl _ rfl 64 23 _ (Blk.new _ _ _ _) 5 Try.underlying23 Try.size23 ?_ | (go_at_call 113; refine (IsPoly_any _ _ hbf _).mono ?_; rintro e w' ⟨rfl, hw⟩))
      go_roundw
      case rel =>
       refine ⟨k + 1, by omega, fun j g hj hg => ?_, by go_num, hb.trans (((zal _ _).trans (hw.mono (by simp))).mono hb.size)⟩
       by_cases e : j = k
       · subst e
         have := HK.out
         rw [hg] at this
         injection this with this
         subst this
         exact hkk
       · exact HA.out j g (by omega) hg
      case measure => simp [intOf]; omega
   · go_wp2_with fail
     go_ret
     refine ⟨ret_int (codeL_ok hp fun j f hj => HA.out j f ?_ hj).symm, hb⟩
     have := (List.getElem?_eq_some_iff.1 hj).1
     omega
set_option maxRecDepth 100000 in
set_option maxHeartbeats 800000 in
theorem l01Code_any (p : Int) (fs : List (Nat → Nat)) (hf : ∀ f ∈ fs, byte f) (b : Nat) (w : World) (hs : PolS w b fs) (hl : fs.length ≤ 8) :
 Calls Try.prog 84 #[.int .i64 p, .slice (some ⟨b, 0, none⟩) fs.length fs.length] w fun e w' => e = .returned (.int .i64 (codeL p fs)) ∧ Below w.heap.size w w' := by
 cases hp : okP p with
 | false =>
  go_enter Try.func84, Try.ntmps84
  go_wp2_with (go_at_call 134; refine (l01Prime_any _ _).mono ?_; rintro e w' ⟨rfl, rfl⟩)
  go_ret
  exact ⟨ret_int (codeL_p hp).symm, Below.refl _ _⟩
 | true =>
  go_enter Try.func84, Try.ntmps84
  go_wp2_with (go_at_call 134; refine (l01Prime_any _ _).mono ?_; rintro e w' ⟨rfl, rfl⟩)
  go_loopw [5] (fun i wr => ∃ k : Nat, k ≤ fs.length ∧ (∀ j f, j < k → fs[j]? = some f → okA p f = true) ∧ i = .int .i64 (k : Int) ∧ Below w.heap.size w wr) (fun i _ => fs.length - (intOf i).toNat)
  case atStart => exact ⟨0, by omega, fun j f hj => by omega, rfl, Below.refl _ _⟩
  case round =>
   obtain ⟨k, hk, hall, rfl, hb⟩ := hrel
   have HA := Lib.hid hall; clear hall
   by_cases hlt : k < fs.length
   · obtain ⟨f, hfk⟩ : ∃ f, fs[k]? = some f := ⟨_, List.getElem?_eq_getElem hlt⟩
     have hr := (hs.zw hb).range hfk
     have HK := Lib.hid hfk
     have hbf := hf f (List.mem_of_getElem? hfk)
     clear hfk
     cases hkk : okA p f with
     | false =>
      go_wp2_with (first | refine wpList_load_mid rfl 23 _ rfl b (k * 64) rfl _ _ hr Try.underlying23 rfl (by rw [zl]; exact Try.size23) ?_ | (go_at_call 107; refine (l01Is_any _ _ hbf _).mono ?_; rintro e w' ⟨rfl, hw⟩))
      go_ret
      exact ⟨ret_int (codeL_bad HK.out hkk).symm, hb.trans (hw.mono hb.size)⟩
     | true =>
      go_wp2_with (first | refine wpList_load_mid rfl 23 _ rfl b (k * 64) rfl _ _ hr Try.underlying23 rfl (by rw [zl]; exact Try.size23) ?_ | (go_at_call 107; refine (l01Is_any _ _ hbf _).mono ?_; rintro e w' ⟨rfl, hw⟩))
      go_roundw
      case rel =>
       refine ⟨k + 1, by omega, fun j g hj hg => ?_, by go_num, hb.trans (hw.mono hb.size)⟩
       by_cases e : j = k
       · subst e
         have := HK.out
         rw [hg] at this
         injection this with this
         subst this
         exact hkk
       · exact HA.out j g (by omega) hg
      case measure => simp [intOf]; omega
   · go_wp2_with fail
     go_ret
     refine ⟨ret_int (codeL_ok hp fun j f hj => HA.out j f ?_ hj).symm, hb⟩
     have := (List.getElem?_eq_some_iff.1 hj).1
     omega
end Go.Proofs.Ytobcdekochenfaa
end
section
namespace Go.Proofs.Ytobcdekochenfaa
open Go.RowKit
set_option linter.unusedVariables false
set_option maxRecDepth 100000 in
set_option maxHeartbeats 400000 in
theorem toPoly_any (f : Nat → Nat) (hf : byte f) (w : World) : Calls Try.prog 25 #[.agg (zb 64 f)] w fun e w' => e = .returned (.agg (zb 64 f)) ∧ Below w.heap.size w w' := by
 go_enter Try.func25, Try.ntmps25
 go_wp2_with fail
 rw [← z64]
 go_loopw [4] (fun i wr => ∃ k : Nat, k ≤ 64 ∧ i = .int .i64 (k : Int) ∧ Below w.heap.size w wr ∧ Blk wr w.heap.size 64 22 f ∧ Blk wr (w.heap.size + 1) 64 23 (fun _ => 0) ∧ Blk wr (w.heap.size + 1 + 1) 64 23 (fun i => if i < k then f i else 0)) (fun i _ => 64 - (intOf i).toNat)
 case atStart =>
  refine ⟨0, by omega, rfl, (((Below.refl _ _).alloc (Nat.le_refl _) _).alloc (by simp) _).alloc (by simp; omega) _, ?_, ?_, ?_⟩
  · exact (((Blk.new w _ _ _).alloc _).alloc _)
  · have := ((Blk.new (w.alloc (.cells (zb 64 f) 22)) 64 23 (fun _ => 0)).alloc (.cells (zb 64 fun _ => 0) 23)); simpa using this
  · have := (Blk.new ((w.alloc (.cells (zb 64 f) 22)).alloc (.cells (zb 64 fun _ => 0) 23)) 64 23 (fun _ => 0)); simpa using this
 case round =>
  obtain ⟨k, hk, rfl, hb, h0, h1, h2⟩ := hrel
  by_cases hlt : k < 64
  · have c4 := h0.cell hlt
    have c5 := h2.cell hlt
    have z4 := h2.frozen k
    have b1 := byteOk f hf k
    go_wp2_with fail
    go_roundw
    case rel =>
     refine ⟨k + 1, by omega, by go_num, hb.setCell (by simp; omega) _, ?_, ?_, ?_⟩
     · exact h0.setOther (by simp; omega)
     · exact h1.setOther (by simp)
     · exact (h2.set (v := f k) rfl).congr (fun i _ => upd_lt (a := f) rfl i)
    case measure => simp [intOf]; omega
  · have e : k = 64 := by omega
    subst e
    go_wp2_with (first | refine zlb rfl 23 _ rfl _ rfl 64 23 _ (h2) 5 Try.underlying23 Try.size23 ?_ | refine wpList_store_blk rfl 23 _ _ rfl _ 64 ((fun i => if i < 64 then f i else 0)) rfl rfl 23 _ (h1) Try.size23 ?_)
    refine bodyPost_ret (zrb rfl _ _ _ 64 23 5 _ rfl (h1.row _) Try.underlying23 Try.size23) rfl ⟨?_, ?_⟩
    · rw [zbc (g := f)]
      intro i hi; simp [hi]
    · exact below_setRow hb (by omega) _

/-- f and k times g, modulo p -/
def addK (p : Nat) (f g : Nat → Nat) (k : Int) : Nat → Nat := fun i => (((f i : Int) + k * (g i : Int)) % (p : Int)).toNat
theorem tmod_twice (x : Int) (p : Nat) (hp : 0 < p) : (x.tmod p + p).tmod p = x % (p : Int) := by
 have h1 : -(p : Int) < x.tmod p := by
  have := Int.tmod_lt_of_pos (-x) (b := (p : Int)) (by omega)
  rw [Int.neg_tmod] at this; omega
 rw [Int.tmod_eq_emod_of_nonneg (by omega), Int.add_emod_right]
 rw [Int.tmod_def, Int.sub_mul_emod_self_left]
theorem small_mul (k : Int) (n : Nat) (hk1 : -6 ≤ k) (hk2 : k ≤ 6) (hn : n < 7) : -42 ≤ k * (n : Int) ∧ k * (n : Int) ≤ 42 := by
 have : n = 0 ∨ n = 1 ∨ n = 2 ∨ n = 3 ∨ n = 4 ∨ n = 5 ∨ n = 6 := by omega
 rcases this with h | h | h | h | h | h | h <;> subst h <;> constructor <;> omega

set_option maxRecDepth 100000 in
set_option maxHeartbeats 800000 in
theorem l01Add_any (p : Nat) (f g : Nat → Nat) (k0 : Int) (w : World) (hp1 : 2 ≤ p) (hp2 : p ≤ 7) (hk1 : -6 ≤ k0) (hk2 : k0 ≤ 6) (hf : ∀ i, i < 64 → f i < p) (hg : ∀ i, i < 64 → g i < p) :
 Calls Try.prog 79 #[.int .i64 (p : Int), .agg (zb 64 f), .agg (zb 64 g), .int .i64 k0] w fun e w' => e = .returned (.agg (zb 64 (addK p f g k0))) ∧ Below w.heap.size w w' := by
 go_enter Try.func79, Try.ntmps79
 go_wp2_with fail
 have HF := Lib.hid hf; clear hf
 have HG := Lib.hid hg; clear hg
 rw [← z64]
 go_loopw [9] (fun i wr => ∃ k : Nat, k ≤ 64 ∧ i = .int .i64 (k : Int) ∧ Below w.heap.size w wr ∧ Blk wr w.heap.size 64 23 (fun i => if i < k then addK p f g k0 i else f i) ∧ Blk wr (w.heap.size + 1) 64 23 g ∧ Blk wr (w.heap.size + 1 + 1) 64 23 (fun _ => 0)) (fun i _ => 64 - (intOf i).toNat)
 case atStart =>
  refine ⟨0, by omega, rfl, (((Below.refl _ _).alloc (Nat.le_refl _) _).alloc (by simp) _).alloc (by simp; omega) _, ?_, ?_, ?_⟩
  · exact (((Blk.new w _ _ _).alloc _).alloc _).congr (by simp)
  · have := ((Blk.new (w.alloc (.cells (zb 64 f) 23)) 64 23 g).alloc (.cells (zb 64 fun _ => 0) 23)); simpa using this
  · have := (Blk.new ((w.alloc (.cells (zb 64 f) 23)).alloc (.cells (zb 64 g) 23)) 64 23 (fun _ => 0)); simpa using this
 case round =>
  obtain ⟨k, hk, rfl, hb, h0, h1, h2⟩ := hrel
  by_cases hlt : k < 64
  · have c4 : wr.cell? ⟨w.heap.size, k, none⟩ = some (.int .u8 (f k : Int)) := by rw [h0.cell hlt]; simp
    have c5 := h1.cell hlt
    have z4 := h0.frozen k
    have b1 : f k < p := HF.out k hlt
    have b2 : g k < p := HG.out k hlt
    obtain ⟨m1, m2⟩ := small_mul k0 (g k) hk1 hk2 (by omega)
    have t1 : -(p : Int) < ((f k : Int) + k0 * (g k : Int)).tmod p := by
     have := Int.tmod_lt_of_pos (-((f k : Int) + k0 * (g k : Int))) (b := (p : Int)) (by omega)
     rw [Int.neg_tmod] at this; omega
    have t2 : ((f k : Int) + k0 * (g k : Int)).tmod p < (p : Int) := Int.tmod_lt_of_pos _ (by omega)
    have hA : Hid (((f k : Int) + k0 * (g k : Int)).tmod p % p % 256 = (addK p f g k0 k : Int)) := by
     have e1 : ((f k : Int) + k0 * (g k : Int)).tmod p % p = ((f k : Int) + k0 * (g k : Int)) % p := by rw [Int.tmod_def, Int.sub_mul_emod_self_left]
     have e2 := Int.emod_nonneg ((f k : Int) + k0 * (g k : Int)) (b := (p : Int)) (by omega)
     have e3 := Int.emod_lt_of_pos ((f k : Int) + k0 * (g k : Int)) (b := (p : Int)) (by omega)
     unfold addK
     rw [Int.toNat_of_nonneg e2, e1]
     exact Int.emod_eq_of_lt e2 (by omega)
    have hm0 : (0 : Int) ≤ ((f k : Int) + k0 * (g k : Int)).tmod p + p := by omega
    go_wp2_with fail
    go_region
    go_wp2_with fail
    go_roundw
    case rel =>
     refine ⟨k + 1, by omega, by go_num, (hb.setCell (by simp) _).drew, ?_, ?_, ?_⟩
     · exact ((h0.set (v := addK p f g k0 k) hA.out).congr (fun i _ => upd_lt (a := addK p f g k0) rfl i)).drew
     · exact (h1.setOther (by simp)).drew
     · exact (h2.setOther (by simp; omega)).drew
    case measure => simp [intOf]; omega
  · have e : k = 64 := by omega
    subst e
    go_wp2_with (first | refine zlb rfl 23 _ rfl _ rfl 64 23 _ (h0) 5 Try.underlying23 Try.size23 ?_ | refine wpList_store_blk rfl 23 _ _ rfl _ 64 ((fun i => if i < 64 then addK p f g k0 i else f i)) rfl rfl 23 _ (h2) Try.size23 ?_)
    refine bodyPost_ret (zrb rfl _ _ _ 64 23 5 _ rfl (h2.row _) Try.underlying23 Try.size23) rfl ⟨?_, ?_⟩
    · rw [zbc (g := addK p f g k0)]
      intro i hi; simp [hi]
    · exact below_setRow hb (by omega) _
end Go.Proofs.Ytobcdekochenfaa
end
section
namespace Go.Proofs.Ytobcdekochenfaa
open Go.RowKit
set_option linter.unusedVariables false
theorem Try.elem23 : (Try.prog.info? 23).map (fun i => (i.size, i.zero.isSome)) = some (64, true) := by kernel_rfl
theorem codeL_two (p : Int) (fs : List (Nat → Nat)) : codeL p fs = 0 ∨ codeL p fs = 1 := by
 unfold codeL; split <;> simp
theorem codeL_zero {p : Int} {fs : List (Nat → Nat)} (h : codeL p fs = 0) : okP p = true ∧ ∀ f ∈ fs, okA p f = true := by
 unfold codeL at h
 split at h
 · rename_i h'
   simpa [List.all_eq_true] using h'
 · cases h
end Go.Proofs.Ytobcdekochenfaa
end
section
namespace Go.Proofs.Ytobcdekochenfaa
open Go.RowKit
set_option linter.unusedVariables false
theorem okP_nat {p : Int} (h : okP p = true) : ∃ n : Nat, p = (n : Int) ∧ 2 ≤ n ∧ n ≤ 7 := by
 have := okP_le h
 exact ⟨p.toNat, by omega, by omega, by omega⟩
theorem lt_of_code {n : Nat} {fs : List (Nat → Nat)} (hc : codeL (n : Int) fs = 0) {f : Nat → Nat} (h : f ∈ fs) : ∀ i, i < 64 → f i < n := by
 intro i hi
 have := okA_lt ((codeL_zero hc).2 f h) hi
 omega
def degB (f : Nat → Nat) : Nat → Int
 | 0 => -1
 | n + 1 => if f n ≠ 0 then (n : Int) else degB f n
def deg (f : Nat → Nat) : Int := degB f 64
theorem degB_step {f : Nat → Nat} {k : Nat} (h : f k = 0) : degB f (k + 1) = degB f k := by simp [degB, h]
theorem degB_hit {f : Nat → Nat} {k : Nat} (h : f k ≠ 0) : degB f (k + 1) = (k : Int) := by simp [degB, h]
set_option maxHeartbeats 400000 in
theorem degree_any (f : Nat → Nat) (w : World) :
 Calls Try.prog 82 #[.agg (zb 64 f)] w fun e w' => e = .returned (.int .i64 (deg f)) ∧ Below w.heap.size w w' := by
 go_enter Try.func82, Try.ntmps82
 go_wp2_with fail
 go_loop [3] (fun i => ∃ k : Nat, k ≤ 64 ∧ degB f 64 = degB f k ∧ i = .int .i64 ((k : Int) - 1)) (fun i => (intOf i + 1).toNat)
 case atStart => exact ⟨64, by omega, rfl, by rfl⟩
 case round =>
  obtain ⟨k, hk, hd, rfl⟩ := hrel
  have hD := Lib.hid hd; clear hd
  rcases k with _ | k
  · go_wp2
    go_ret
    exact ⟨ret_int (by rw [deg, hD.out]; rfl), (Below.refl _ _).alloc (Nat.le_refl _) _⟩
  · have hc := (Blk.new w 64 23 f).cell (i := k) (by omega)
    have e1 : ((k + 1 : Nat) : Int) - 1 = (k : Int) := by omega
    rw [e1]
    by_cases h0 : f k = 0
    · have hb : ((f k : Int) != 0) = false := by simp [h0]
      go_wp2
      go_round
      case rel => exact ⟨k, by omega, by rw [hD.out, degB_step h0], by go_num⟩
      case measure => simp [intOf]
    · have hb : ((f k : Int) != 0) = true := by simpa using h0
      go_wp2
      go_ret
      exact ⟨ret_int (by rw [deg, hD.out, degB_hit h0]), (Below.refl _ _).alloc (Nat.le_refl _) _⟩
set_option maxHeartbeats 400000 in
theorem l01Deg_any (f : Nat → Nat) (w : World) :
 Calls Try.prog 74 #[.agg (zb 64 f)] w fun e w' => e = .returned (.int .i64 (deg f)) ∧ Below w.heap.size w w' := by
 go_enter Try.func74, Try.ntmps74
 go_wp2_with fail
 go_loop [3] (fun i => ∃ k : Nat, k ≤ 64 ∧ degB f 64 = degB f k ∧ i = .int .i64 ((k : Int) - 1)) (fun i => (intOf i + 1).toNat)
 case atStart => exact ⟨64, by omega, rfl, by rfl⟩
 case round =>
  obtain ⟨k, hk, hd, rfl⟩ := hrel
  have hD := Lib.hid hd; clear hd
  rcases k with _ | k
  · go_wp2
    go_ret
    exact ⟨ret_int (by rw [deg, hD.out]; rfl), (Below.refl _ _).alloc (Nat.le_refl _) _⟩
  · have hc := (Blk.new w 64 23 f).cell (i := k) (by omega)
    have e1 : ((k + 1 : Nat) : Int) - 1 = (k : Int) := by omega
    rw [e1]
    by_cases h0 : f k = 0
    · have hb : ((f k : Int) == 0) = true := by simp [h0]
      go_wp2
      go_round
      case rel => exact ⟨k, by omega, by rw [hD.out, degB_step h0], by go_num⟩
      case measure => simp [intOf]
    · have hb : ((f k : Int) == 0) = false := by simpa using h0
      go_wp2
      go_ret
      exact ⟨ret_int (by rw [deg, hD.out, degB_hit h0]), (Below.refl _ _).alloc (Nat.le_refl _) _⟩
end Go.Proofs.Ytobcdekochenfaa
end
section
namespace Go.Proofs.Ytobcdekochenfaa
open Go.RowKit
set_option linter.unusedVariables false
theorem degB_spec (f : Nat → Nat) : ∀ k, (degB f k = -1 ∧ ∀ j, j < k → f j = 0) ∨ ∃ d, d < k ∧ degB f k = (d : Int) ∧ f d ≠ 0 ∧ ∀ j, d < j → j < k → f j = 0
 | 0 => .inl ⟨rfl, fun j hj => by omega⟩
 | k + 1 => by
  by_cases h : f k = 0
  · rw [degB_step h]
    rcases degB_spec f k with ⟨e, hz⟩ | ⟨d, hd, e, hne, hz⟩
    · refine .inl ⟨e, fun j hj => ?_⟩
      by_cases hj2 : j = k
      · rw [hj2]; exact h
      · exact hz j (by omega)
    · refine .inr ⟨d, by omega, e, hne, fun j h1 h2 => ?_⟩
      by_cases hj2 : j = k
      · rw [hj2]; exact h
      · exact hz j h1 (by omega)
  · exact .inr ⟨k, by omega, degB_hit h, h, fun j h1 h2 => by omega⟩
theorem deg_spec (f : Nat → Nat) : (deg f = -1 ∧ ∀ j, j < 64 → f j = 0) ∨ ∃ d : Nat, d < 64 ∧ deg f = (d : Int) ∧ f d ≠ 0 ∧ ∀ j : Nat, d < j → j < 64 → f j = 0 := degB_spec f 64
set_option maxHeartbeats 400000 in
theorem l01In_any (n l h : Int) (w : World) : Calls Try.prog 85 #[.int .i64 n, .int .i64 l, .int .i64 h] w fun e w' => e = .returned (.bool (decide (l ≤ n ∧ n ≤ h))) ∧ w = w' := by
 by_cases h1 : l ≤ n
 · by_cases h2 : n ≤ h
   · go_enter Try.func85, Try.ntmps85
     go_wp2
     go_ret
     exact ⟨ret_bool (by simp [h1, h2]), rfl⟩
   · go_enter Try.func85, Try.ntmps85
     go_wp2
     go_ret
     exact ⟨ret_bool (by simp [h2]), rfl⟩
 · go_enter Try.func85, Try.ntmps85
   go_wp2
   go_ret
   exact ⟨ret_bool (by simp; omega), rfl⟩
theorem l01In_yes (n l h : Int) (h1 : l ≤ n ∧ n ≤ h) (w : World) : Calls Try.prog 85 #[.int .i64 n, .int .i64 l, .int .i64 h] w fun e w' => e = .returned (.bool true) ∧ w = w' :=
 (l01In_any n l h w).mono fun _ _ ⟨a, b⟩ => ⟨by rw [a, decide_eq_true h1], b⟩
theorem l01In_no (n l h : Int) (h1 : ¬ (l ≤ n ∧ n ≤ h)) (w : World) : Calls Try.prog 85 #[.int .i64 n, .int .i64 l, .int .i64 h] w fun e w' => e = .returned (.bool false) ∧ w = w' :=
 (l01In_any n l h w).mono fun _ _ ⟨a, b⟩ => ⟨by rw [a, decide_eq_false h1], b⟩
end Go.Proofs.Ytobcdekochenfaa
end
section
namespace Go.Proofs.Ytobcdekochenfaa
open Go.RowKit
set_option linter.unusedVariables false
/-- digit i of n at base p -/
def dgt (p n i : Nat) : Nat := n / p ^ i % p
theorem pow_two_le (p i : Nat) (hp : 2 ≤ p) : 2 ^ i ≤ p ^ i := Nat.pow_le_pow_left hp i
theorem dgt_bound {p n k : Nat} (hp : 2 ≤ p) (hn : n ≤ 1000000000000) (h : 0 < n / p ^ k) : k < 40 := by
 by_cases hk : k < 40
 · exact hk
 · exfalso
   have h1 : p ^ k ≤ n := by
    by_cases h2 : p ^ k ≤ n
    · exact h2
    · rw [Nat.div_eq_of_lt (by omega)] at h; omega
   have h2 := pow_two_le p k hp
   have h3 : 2 ^ 40 ≤ 2 ^ k := Nat.pow_le_pow_right (by omega) (by omega)
   have h4 : (2 : Nat) ^ 40 = 1099511627776 := by decide +kernel
   omega
theorem dgt_zero {p n k i : Nat} (hp : 2 ≤ p) (h : n / p ^ k = 0) (hi : k ≤ i) : dgt p n i = 0 := by
 unfold dgt
 have h1 : n < p ^ k := by
  by_cases h2 : n < p ^ k
  · exact h2
  · have := Nat.div_pos (show p ^ k ≤ n by omega) (Nat.pow_pos (by omega))
    omega
 have h2 : p ^ k ≤ p ^ i := Nat.pow_le_pow_right (by omega) hi
 rw [Nat.div_eq_of_lt (by omega)]
 exact Nat.zero_mod _
theorem dgt_next (p n k : Nat) : n / p ^ (k + 1) = n / p ^ k / p := by
 rw [Nat.pow_succ, Nat.div_div_eq_div_mul]
def ofN (p : Nat) (n : Nat) : Nat → Nat := fun i => dgt p n i
set_option maxRecDepth 100000 in
set_option maxHeartbeats 800000 in
theorem l01Of_any (p n : Nat) (w : World) (hp1 : 2 ≤ p) (hp2 : p ≤ 7) (hn : (n : Int) ≤ 1000000000000) :
 Calls Try.prog 77 #[.int .i64 (p : Int), .int .i64 (n : Int)] w fun e w' => e = .returned (.agg (zb 64 (ofN p n))) ∧ Below w.heap.size w w' := by
 go_enter Try.func77, Try.ntmps77
 go_upto_region 1 with (fail)
 rw [← z64]
 obtain ⟨wo, hwo⟩ : ∃ wo : World, wo = w.alloc (.cells (zb 64 fun _ => 0) 23) := ⟨_, rfl⟩
 have hsz := Lib.hid (show wo.heap.size = w.heap.size + 1 by rw [hwo]; simp)
 rw [← hwo]
 have HW := Lib.hid hwo; clear hwo
 go_upto_region 2 with (refine wpList_store_new rfl 23 _ _ rfl _ 23 64 (fun _ => 0) rfl (by exact congrArg Value.agg z64.symm) rfl Try.size23 ?_)
 rw [hsz.out]
 have hwo := HW.out
 clear hsz HW
 subst hwo
 go_wp2_with fail
 go_loopw [1, 6] (fun v i wr => ∃ k : Nat, k ≤ 64 ∧ i = .int .i64 (k : Int) ∧ v = .int .i64 ((n / p ^ k : Nat) : Int) ∧ Below w.heap.size w wr ∧ Blk wr w.heap.size 64 23 (fun _ => 0) ∧ Blk wr (w.heap.size + 1) 64 23 (fun i => if i < k then dgt p n i else 0)) (fun v _ _ => (intOf v).toNat)
 case atStart =>
  refine ⟨0, by omega, rfl, by rw [Nat.pow_zero, Nat.div_one], ((Below.refl _ _).alloc (Nat.le_refl _) _).alloc (by simp) _, (Blk.new w _ _ _).alloc _, ?_⟩
  have := (Blk.new (w.alloc (.cells (zb 64 fun _ => 0) 23)) 64 23 (fun _ => 0)).congr (g := fun i => if i < 0 then dgt p n i else 0) (by simp)
  simpa using this
 case round =>
  obtain ⟨k, hk, rfl, rfl, hb, h0, h1⟩ := hrel
  obtain ⟨q, hq⟩ : ∃ q, q = n / p ^ k := ⟨_, rfl⟩
  rw [← hq]
  by_cases hpos : 0 < q
  · have hk40 : k < 40 := dgt_bound (n := n) hp1 (by omega) (by rw [← hq]; exact hpos)
    have hqn : q ≤ n := by rw [hq]; exact Nat.div_le_self _ _
    have z1 := h1.frozen k
    have c1 := h1.cell (i := k) (by omega)
    have hm : q % p < p := Nat.mod_lt _ (by omega)
    have hmi : ((q : Int) % (p : Int)) < (p : Int) := Int.emod_lt_of_pos _ (by omega)
    have hmi0 : 0 ≤ ((q : Int) % (p : Int)) := Int.emod_nonneg _ (by omega)
    have hdi0 : 0 ≤ ((q : Int) / (p : Int)) := Int.ediv_nonneg (by omega) (by omega)
    have hdi1 : ((q : Int) / (p : Int)) ≤ 1000000000000 := by
     have := Int.ediv_le_self (p : Int) (show (0 : Int) ≤ (q : Int) by omega)
     omega
    have hd : q / p < q := Nat.div_lt_self hpos (by omega)
    have HQ := Lib.hid hq; clear hq
    have HD := Lib.hid hd; clear hd
    go_wp2_with fail
    go_roundw
    case rel =>
     refine ⟨k + 1, by omega, by go_num, ?_, hb.setCell (by simp) _, h0.setOther (by simp), ?_⟩
     · rw [dgt_next, ← HQ.out]; push_cast; rfl
     · exact (h1.set (v := dgt p n k) (by unfold dgt; rw [← HQ.out]; push_cast; rfl)).congr (fun i _ => upd_lt (a := dgt p n) (b := fun _ => 0) rfl i)
    case measure =>
     simp only [intOf]
     have := HD.out
     have e : (q : Int) / (p : Int) = ((q / p : Nat) : Int) := by push_cast; rfl
     rw [e]
     omega
  · have hq0 : q = 0 := by omega
    subst hq0
    have HQ := Lib.hid hq; clear hq
    go_wp2_with (first | refine zlb rfl 23 _ rfl _ rfl 64 23 _ (h1) 5 Try.underlying23 Try.size23 ?_ | refine wpList_store_blk rfl 23 _ _ rfl _ 64 ((fun i => if i < k then dgt p n i else 0)) rfl rfl 23 _ (h0) Try.size23 ?_)
    refine bodyPost_ret (zrb rfl _ _ _ 64 23 5 _ rfl (h0.row _) Try.underlying23 Try.size23) rfl ⟨?_, below_setRow hb (by omega) _⟩
    rw [zbc (g := ofN p n)]
    intro i _
    unfold ofN
    by_cases hi : i < k
    · rw [if_pos hi]
    · rw [if_neg hi, dgt_zero hp1 HQ.out.symm (by omega)]
end Go.Proofs.Ytobcdekochenfaa
end
section
namespace Go.Proofs.Ytobcdekochenfaa
open Go.RowKit
set_option linter.unusedVariables false
theorem small_nat_mul {a b p : Nat} (hp : p ≤ 7) (ha : a < p) (hb : b < p) : (a : Int) * (b : Int) ≤ 36 ∧ 0 ≤ (a : Int) * (b : Int) := by
 refine ⟨?_, Int.mul_nonneg (by omega) (by omega)⟩
 have : a * b ≤ 6 * 6 := Nat.mul_le_mul (by omega) (by omega)
 have h : ((a * b : Nat) : Int) ≤ 36 := by omega
 rwa [Int.natCast_mul] at h
end Go.Proofs.Ytobcdekochenfaa
end
section
namespace Go.Proofs.Ytobcdekochenfaa
/-- the coefficient at k of the product, after the rows below i -/
def cv (p : Nat) (f g : Nat → Nat) : Nat → Nat → Nat
 | 0, _ => 0
 | i + 1, k => (cv p f g i k + (if i ≤ k then f i * g (k - i) else 0)) % p
theorem cv_zero (p : Nat) (f g : Nat → Nat) (k : Nat) : cv p f g 0 k = 0 := rfl
theorem cv_succ (p : Nat) (f g : Nat → Nat) (i k : Nat) : cv p f g (i + 1) k = (cv p f g i k + (if i ≤ k then f i * g (k - i) else 0)) % p := rfl
theorem cv_lt (p : Nat) (f g : Nat → Nat) (hp : 0 < p) (i k : Nat) : cv p f g i k < p := by
 cases i with
 | zero => exact hp
 | succ i => exact Nat.mod_lt _ hp
theorem cv_same {p : Nat} {f g : Nat → Nat} (hp : 0 < p) {i k : Nat} (h : i ≤ k → f i * g (k - i) = 0) : cv p f g (i + 1) k = cv p f g i k := by
 rw [cv_succ]
 have : (if i ≤ k then f i * g (k - i) else 0) = 0 := by
  by_cases hik : i ≤ k
  · rw [if_pos hik, h hik]
  · rw [if_neg hik]
 rw [this, Nat.add_zero, Nat.mod_eq_of_lt (cv_lt p f g hp i k)]
theorem cv_skip {p : Nat} {f g : Nat → Nat} (hp : 0 < p) {i : Nat} (hf : f i = 0) (k : Nat) : cv p f g (i + 1) k = cv p f g i k :=
 cv_same hp (fun _ => by rw [hf, Nat.zero_mul])
theorem cv_stop {p : Nat} {f g : Nat → Nat} (hp : 0 < p) {n : Nat} (hf : ∀ i, n ≤ i → f i = 0) (k : Nat) : ∀ d, cv p f g (n + d) k = cv p f g n k
 | 0 => rfl
 | d + 1 => by
  rw [show n + (d + 1) = (n + d) + 1 by omega, cv_skip hp (hf _ (by omega)), cv_stop hp hf k d]
/-- the product -/
def prd (p : Nat) (f g : Nat → Nat) : Nat → Nat := fun k => cv p (cut f) (cut g) 64 k
theorem zcz (f : Nat → Nat) {i : Nat} (h : 64 ≤ i) : cut f i = 0 := by unfold cut; rw [if_neg (by omega)]
theorem cut_in (f : Nat → Nat) {i : Nat} (h : i < 64) : cut f i = f i := by unfold cut; rw [if_pos h]
theorem prd_rows {p : Nat} {f g : Nat → Nat} (hp : 0 < p) {n : Nat} (hn : n ≤ 64) (hf : ∀ i, n ≤ i → i < 64 → f i = 0) (k : Nat) : prd p f g k = cv p (cut f) (cut g) n k := by
 have := cv_stop (f := cut f) (g := cut g) hp (n := n) (fun i hi => by
  by_cases h : i < 64
  · rw [cut_in f h]; exact hf i hi h
  · exact zcz f (by omega)) k (64 - n)
 rw [show n + (64 - n) = 64 by omega] at this
 exact this
end Go.Proofs.Ytobcdekochenfaa
end
section
namespace Go.Proofs.Ytobcdekochenfaa
open Go.RowKit
set_option linter.unusedVariables false
attribute [local irreducible] deg
theorem Try.size178 : (Try.prog.info? 178).map (·.size) = some 128 := by kernel_rfl
theorem zero128 : zb 128 (fun _ => 0) = Try.zeroCells178 := by simp only [zb, bl]; kernel_rfl
end Go.Proofs.Ytobcdekochenfaa
end
section
namespace Go.Proofs.Ytobcdekochenfaa
open Go.RowKit
def setL (L : Nat → Bool) (i : Nat) : Nat → Bool := fun j => if j = i then true else L j
def updV (v : Nat → Value) (i : Nat) (y : Value) : Nat → Value := fun j => if j = i then y else v j
/-- the frame a0 with the value v i laid into the slot of operation i, for each i -/
def frL (a0 : Act) : List Oper → Nat → (Nat → Value) → Act
 | [], _, _ => a0
 | o :: os, k, v => frL (a0.put o.dst (v k)) os (k + 1) v
def fr (a0 : Act) (ops : Array Oper) (v : Nat → Value) : Act := frL a0 ops.toList 0 v

/-- all later edges lead back; no slot is written twice -/
def edgesOk (ops : Array Oper) : Bool := (List.range ops.size).all fun i => (ops[i]?.map fun o => o.after.all fun e => !Region.binds .any e || decide (e.on < i)).getD true
def dstsOkL : List Oper → Bool
 | [] => true
 | o :: os => (match o.dst with | none => true | some d => os.all fun q => q.dst != some d) && dstsOkL os
theorem put_comm {a : Act} {d e : Option Tmp} {x y : Value} (h : d = none ∨ d ≠ e) : (a.put d x).put e y = (a.put e y).put d x := by
 cases d with
 | none => cases e <;> rfl
 | some d =>
  cases e with
  | none => rfl
  | some e =>
   have hne : d ≠ e := by
    rcases h with h | h
    · cases h
    · exact fun h' => h (by rw [h'])
   simp only [Act.put]
   congr 1
   apply Array.ext_getElem?
   intro j
   simp only [Array.getElem?_setIfInBounds, Array.size_setIfInBounds]
   by_cases h1 : e = j <;> by_cases h2 : d = j <;> simp_all
theorem put_twice {a : Act} {d : Option Tmp} {x y : Value} : (a.put d x).put d y = a.put d y := by
 cases d with
 | none => rfl
 | some d => simp [Act.put]
theorem frL_congr : ∀ (os : List Oper) (a0 : Act) (k : Nat) (v v' : Nat → Value), (∀ j, k ≤ j → v j = v' j) → frL a0 os k v = frL a0 os k v'
 | [], _, _, _, _, _ => rfl
 | o :: os, a0, k, v, v', h => by
  simp only [frL]
  rw [h k (Nat.le_refl _)]
  exact frL_congr os _ (k + 1) v v' fun j hj => h j (by omega)
theorem frL_put : ∀ (os : List Oper) (a0 : Act) (k : Nat) (v : Nat → Value) (d : Option Tmp) (y : Value), (d = none ∨ os.all (fun q => q.dst != d) = true) → (frL a0 os k v).put d y = frL (a0.put d y) os k v
 | [], _, _, _, _, _, _ => rfl
 | o :: os, a0, k, v, d, y, h => by
  simp only [frL]
  have h' : d = none ∨ os.all (fun q => q.dst != d) = true := by
   rcases h with h | h
   · exact .inl h
   · simp only [List.all_cons, Bool.and_eq_true] at h; exact .inr h.2
  rw [frL_put os _ (k + 1) v d y h']
  congr 1
  rcases h with h | h
  · subst h; rfl
  · simp only [List.all_cons, Bool.and_eq_true] at h
    have : o.dst ≠ d := by simpa using h.1
    exact put_comm (.inr this)
theorem frL_step : ∀ (os : List Oper) (a0 : Act) (k : Nat) (v : Nat → Value) (i : Nat) (o : Oper) (y : Value), dstsOkL os = true → os[i]? = some o → (frL a0 os k v).put o.dst y = frL a0 os k (updV v (k + i) y)
 | [], _, _, _, _, _, _, _, h => by simp at h
 | p :: os, a0, k, v, 0, o, y, hd, h => by
  simp only [List.getElem?_cons_zero, Option.some.injEq] at h
  subst h
  simp only [dstsOkL, Bool.and_eq_true] at hd
  have h' : p.dst = none ∨ os.all (fun q => q.dst != p.dst) = true := by
   cases hp : p.dst with
   | none => exact .inl rfl
   | some d => right; have := hd.1; rw [hp] at this; exact this
  simp only [frL, Nat.add_zero]
  rw [frL_put os _ (k + 1) v p.dst y h', put_twice]
  have : updV v k y k = y := by simp [updV]
  rw [this]
  exact frL_congr os _ (k + 1) _ _ fun j hj => by simp [updV, show j ≠ k by omega]
 | p :: os, a0, k, v, i + 1, o, y, hd, h => by
  simp only [dstsOkL, Bool.and_eq_true] at hd
  simp only [List.getElem?_cons_succ] at h
  simp only [frL]
  rw [frL_step os _ (k + 1) v i o y hd.2 h]
  have e1 : updV v (k + (i + 1)) y k = v k := by simp [updV]
  have e2 : k + 1 + i = k + (i + 1) := by omega
  rw [e1, e2]
theorem put_self {a : Act} {d : Option Tmp} : (a.put d ((d.map fun t => a.tmps.getD t undef).getD undef)) = a := by
 cases d with
 | none => rfl
 | some d =>
  simp only [Act.put, Option.map_some, Option.getD_some]
  cases a with
  | mk t ds =>
   congr 1
   apply Array.ext_getElem?
   intro j
   simp only [Array.getElem?_setIfInBounds]
   by_cases h : d = j
   · subst h
     by_cases hs : d < t.size <;> simp [hs]
   · simp [h]
theorem frL_start : ∀ (os : List Oper) (a0 : Act) (k : Nat) (v : Nat → Value), (∀ i o, os[i]? = some o → v (k + i) = ((o.dst.map fun t => a0.tmps.getD t undef).getD undef)) → frL a0 os k v = a0
 | [], _, _, _, _ => rfl
 | o :: os, a0, k, v, h => by
  simp only [frL]
  have h0 := h 0 o rfl
  rw [Nat.add_zero] at h0
  rw [h0, put_self]
  exact frL_start os a0 (k + 1) v fun i p hp => by
   have := h (i + 1) p (by simpa using hp)
   rw [show k + 1 + i = k + (i + 1) by omega]
   exact this
section
variable {P : Program} {ops : Array Oper} {Q : Exit → Act → World → Prop}
/-- what is asked of operation i -/
def StepOk (P : Program) (ops : Array Oper) (Q : Exit → Act → World → Prop) (a0 : Act) (Ψ : (Nat → Bool) → (Nat → Value) → World → Prop) (i : Nat) (o : Oper) : Prop :=
 ∀ (L : Nat → Bool) (v : Nat → Value) (w : World), (∀ e, e ∈ o.after → Region.binds .any e = true → L e.on = true) →
  (∀ j p, ops[j]? = some p → L j = true → ∀ e, e ∈ p.after → Region.binds .any e = true → e.on ≠ i) → Ψ L v w →
  ∀ K : Act → World → Prop, (∀ a' y w', a' = (fr a0 ops v).put o.dst y → Ψ (setL L i) (updV v i y) w' → K a' w') →
   if Region.wanted o (yielded ops (fr a0 ops v).tmps) = true then Oper.wp P o (fr a0 ops v) w K Q else K ((fr a0 ops v).put o.dst undef) w

theorem zdq {A : Array Edge} {L : Nat → Bool} (hd : ∀ e, e ∈ A → Region.binds .any e = true → L e.on = true) (i : Nat) (h : A.toList.any (fun e => e.on == i && Region.binds .any e) = true) : L i = true := by
 obtain ⟨e, he, h2⟩ := List.any_eq_true.1 h
 simp only [Bool.and_eq_true, beq_iff_eq] at h2
 rw [← h2.1]
 exact hd e (by simpa using he) h2.2
theorem wpAny_inv {a0 : Act} {Ψ : (Nat → Bool) → (Nat → Value) → World → Prop} (hd : dstsOkL ops.toList = true) (he : edgesOk ops = true)
 (hstep : ∀ i o, ops[i]? = some o → StepOk P ops Q a0 Ψ i o)
 (hend : ∀ L v w, (∀ i, i < ops.size → L i = true) → Ψ L v w → Q .normal (fr a0 ops v) w) :
 ∀ (fuel : Nat) (listed : Array Bool) (v : Nat → Value) (w : World), listed.size = ops.size → (listed.toList.filter (!·)).length = fuel → Ψ (fun j => listed.getD j false) v w →
  (∀ j p, ops[j]? = some p → listed.getD j false = true → ∀ e, e ∈ p.after → Region.binds .any e = true → listed.getD e.on false = true) →
  wpAny P .any ops Q fuel listed (fr a0 ops v) w := by
 have hall : ∀ listed : Array Bool, listed.size = ops.size → Region.ready .any ops listed = [] → ∀ i, i < ops.size → listed.getD i false = true := by
  intro listed hs hr i
  induction i using Nat.strongRecOn with
  | _ i ih =>
   intro hi
   cases hb : listed.getD i false with
   | true => rfl
   | false =>
    exfalso
    have hmem : i ∈ Region.ready .any ops listed := by
     unfold Region.ready
     simp only [List.mem_filter, List.mem_range, hi, true_and, Bool.and_eq_true]
     have ho : ops[i]? = some ops[i] := Array.getElem?_eq_getElem hi
     constructor
     · have : listed.getD i true = false := by
        have h2 : i < listed.size := by omega
        simpa [Array.getD, h2] using hb
       simp [this]
     · rw [ho]
       simp only [Option.map_some, Option.getD_some, Array.all_eq_true_iff_forall_mem]
       intro e hem
       have hE := he
       unfold edgesOk at hE
       rw [List.all_eq_true] at hE
       have := hE i (by simpa using hi)
       rw [ho] at this
       simp only [Option.map_some, Option.getD_some, Array.all_eq_true_iff_forall_mem] at this
       have h3 := this e hem
       cases hbd : Region.binds .any e with
       | false => simp
       | true =>
        simp only [hbd, Bool.not_true, Bool.false_or, decide_eq_true_eq] at h3
        simp [ih e.on h3 (by omega)]
    rw [hr] at hmem
    cases hmem
 intro fuel
 induction fuel with
 | zero =>
  intro listed v w hs hc hI _
  have hl : ∀ i, i < ops.size → listed.getD i false = true := by
   intro i hi
   have h2 : i < listed.size := by omega
   cases hb : listed[i] with
   | true => simp [Array.getD, h2, hb]
   | false =>
    exfalso
    have : false ∈ listed.toList.filter (!·) := by
     rw [List.mem_filter]
     exact ⟨by rw [← hb]; simp, rfl⟩
    rw [List.length_eq_zero_iff.1 hc] at this
    cases this
  refine ⟨?_, hend _ v w hl hI⟩
  unfold Region.ready
  rw [List.filter_eq_nil_iff]
  intro i hi
  have hi' : i < ops.size := by simpa using hi
  have h2 : i < listed.size := by omega
  have := hl i hi'
  have h4 : listed.getD i true = true := by simpa [Array.getD, h2] using this
  simp [h4]
 | succ fuel ih =>
  intro listed v w hs hc hI hcl
  refine ⟨fun hr => hend _ v w (hall listed hs hr) hI, ?_⟩
  intro i hi
  unfold Region.ready at hi
  simp only [List.mem_filter, List.mem_range, Bool.and_eq_true] at hi
  obtain ⟨hin, hnl, haf⟩ := hi
  have ho : ops[i]? = some ops[i] := Array.getElem?_eq_getElem hin
  rw [ho] at haf
  simp only [Option.map_some, Option.getD_some, Array.all_eq_true_iff_forall_mem] at haf
  have h2 : i < listed.size := by omega
  have hfalse : listed[i] = false := by
   have : listed.getD i true = false := by simpa using hnl
   simpa [Array.getD, h2] using this
  refine wpOp_step ho fun K' hK => ?_
  refine hstep i _ ho _ v w ?_ ?_ hI K' ?_
  · intro e hem hb
    have := haf e hem
    simpa [hb] using this
  · intro j p hp hj e hem hb he'
    have := hcl j p hp hj e hem hb
    rw [he'] at this
    simp [Array.getD, h2, hfalse] at this
  · intro a' y w' ha' hΨ
    subst ha'
    refine hK _ _ ?_
    have hst : (fr a0 ops v).put ops[i].dst y = fr a0 ops (updV v i y) := by
     have := frL_step ops.toList a0 0 v i ops[i] y hd (by simp [hin])
     rw [Nat.zero_add] at this
     exact this
    rw [hst]
    have e : (fun j => (listed.setIfInBounds i true).getD j false) = setL (fun j => listed.getD j false) i := by
     funext j
     unfold setL
     by_cases h : j = i
     · subst h; simp [Array.getD, h2]
     · have h' : ¬ i = j := fun e => h e.symm
       simp only [h, if_false, Array.getD, Array.size_setIfInBounds]
       by_cases h3 : j < listed.size
       · simp [h3, h']
       · simp [h3]
    refine ih _ _ _ (by simpa using hs) ?_ ?_ ?_
    · have : ∀ (l : List Bool) (i : Nat) (h : i < l.length), l[i] = false → ((l.set i true).filter (!·)).length + 1 = (l.filter (!·)).length := by
       intro l
       induction l with
       | nil => intro i h; simp at h
       | cons b l ihl =>
        intro i h hf
        cases i with
        | zero => simp at hf; subst hf; simp
        | succ i =>
         simp only [List.set_cons_succ]
         have := ihl i (by simpa using h) (by simpa using hf)
         cases b <;> simp <;> omega
      have := this listed.toList i (by simpa using h2) (by simpa using hfalse)
      rw [Array.toList_setIfInBounds]
      omega
    · rw [e]
      exact hΨ
    · intro j p hp hj e2 hem hb
      have ej := congrFun e j
      have ee := congrFun e e2.on
      skip
      rw [ej] at hj
      rw [ee]
      unfold setL at hj ⊢
      by_cases h1 : e2.on = i
      · simp [h1]
      · simp only [h1, if_false]
        by_cases h2 : j = i
        · subst h2
          rw [ho] at hp
          simp only [Option.some.injEq] at hp
          subst hp
          have := haf e2 hem
          simpa [hb] using this
        · simp only [h2, if_false] at hj
          exact hcl j p hp hj e2 hem hb

/-- what is asked of operation i, no guard before it; F: the frame, written out -/
def StepU (P : Program) (ops : Array Oper) (Q : Exit → Act → World → Prop) (F : (Nat → Value) → Act) (Ψ : (Nat → Bool) → (Nat → Value) → World → Prop) (i : Nat) (o : Oper) : Prop :=
 ∀ (L : Nat → Bool) (v : Nat → Value) (w : World), (∀ e, e ∈ o.after → Region.binds .any e = true → L e.on = true) →
  (∀ j p, ops[j]? = some p → L j = true → ∀ e, e ∈ p.after → Region.binds .any e = true → e.on ≠ i) → Ψ L v w →
  ∀ K : Act → World → Prop, (∀ a' y w', a' = (F v).put o.dst y → Ψ (setL L i) (updV v i y) w' → K a' w') → Oper.wp P o (F v) w K Q
inductive Steps (P : Program) (ops : Array Oper) (Q : Exit → Act → World → Prop) (F : (Nat → Value) → Act) (Ψ : (Nat → Bool) → (Nat → Value) → World → Prop) : List Oper → Nat → Prop
 | nil (k : Nat) : Steps P ops Q F Ψ [] k
 | cons {o : Oper} {os : List Oper} {k : Nat} (hg : o.guard = none) (h : StepU P ops Q F Ψ k o) (hs : Steps P ops Q F Ψ os (k + 1)) : Steps P ops Q F Ψ (o :: os) k
theorem steps_of {F : (Nat → Value) → Act} {Ψ : (Nat → Bool) → (Nat → Value) → World → Prop} : ∀ (os : List Oper) (k : Nat), Steps P ops Q F Ψ os k → ∀ i o, os[i]? = some o → o.guard = none ∧ StepU P ops Q F Ψ (k + i) o
 | [], _, _, _, _, h => by simp at h
 | p :: os, k, hs, 0, o, h => by
  simp only [List.getElem?_cons_zero, Option.some.injEq] at h
  subst h
  cases hs with
  | cons hg h _ => exact ⟨hg, h⟩
 | p :: os, k, hs, i + 1, o, h => by
  cases hs with
  | cons _ _ hs =>
   have := steps_of os (k + 1) hs i o (by simpa using h)
   rwa [show k + 1 + i = k + (i + 1) by omega] at this
end
end Go.Proofs.Ytobcdekochenfaa
end
section
namespace Go.Proofs.Ytobcdekochenfaa
open Go.RowKit
set_option linter.unusedVariables false
set_option linter.unusedSimpArgs false
attribute [local irreducible] deg
theorem Blk.pre {w : World} {b n m : Nat} {t : TypeId} {f : Nat → Nat} (h : Blk w b n t f) (hm : m ≤ n) : w.rangeAt b 0 (bl m f) := by
 intro j v hv
 have hj : j < m := by
  have := (List.getElem?_eq_some_iff.1 hv).1
  rwa [zl] at this
 have e : (bl m f)[j]? = some (.int .u8 (f j : Int)) := by have := bcells_get (f := f) hj; simpa using this
 rw [e] at hv
 injection hv with hv
 subst hv
 rw [Nat.zero_add]
 exact h.cell (by omega)
theorem zdb (f : Nat → Nat) : -1 ≤ deg f ∧ deg f ≤ 63 := by
 rcases deg_spec f with ⟨e, _⟩ | ⟨d, hd, e, _⟩ <;> omega
theorem prd_zero_left {p : Nat} {f g : Nat → Nat} (hp : 0 < p) (h : ∀ i, i < 64 → f i = 0) (k : Nat) : prd p f g k = 0 := by
 rw [prd_rows hp (n := 0) (by omega) (fun i _ hi => h i hi), cv_zero]
theorem deg_neg {f : Nat → Nat} (h : deg f < 0) : ∀ i, i < 64 → f i = 0 := by
 rcases deg_spec f with ⟨_, hz⟩ | ⟨d, hd, e, _⟩
 · exact hz
 · omega
end Go.Proofs.Ytobcdekochenfaa
end
section
namespace Go.Proofs.Ytobcdekochenfaa
/-- one step of the division at n: c times b, moved by n - m, is taken away -/
def stp (p inv m : Nat) (b : Nat → Nat) (n : Nat) (a : Nat → Nat) : Nat → Nat :=
 fun k => if n - m ≤ k ∧ k ≤ n then (a k + (p - a n * inv % p) * b (k - (n - m))) % p else a k
/-- inside the step, behind j cells -/
def stpr (p inv m : Nat) (b : Nat → Nat) (n : Nat) (a : Nat → Nat) (j : Nat) : Nat → Nat :=
 fun k => if n - m ≤ k ∧ k < n - m + j then (a k + (p - a n * inv % p) * b (k - (n - m))) % p else a k
theorem stpr_zero (p inv m : Nat) (b : Nat → Nat) (n : Nat) (a : Nat → Nat) (k : Nat) : stpr p inv m b n a 0 k = a k := by
 unfold stpr; rw [if_neg (by omega)]
theorem stpr_at (p inv m : Nat) (b : Nat → Nat) (n : Nat) (a : Nat → Nat) (j : Nat) : stpr p inv m b n a j (n - m + j) = a (n - m + j) := by
 unfold stpr; rw [if_neg (by omega)]
theorem stpr_next (p inv m : Nat) (b : Nat → Nat) (n : Nat) (a : Nat → Nat) (j : Nat) : ∀ k, upd (stpr p inv m b n a j) (n - m + j) ((a (n - m + j) + (p - a n * inv % p) * b j) % p) k = stpr p inv m b n a (j + 1) k := by
 intro k
 unfold upd stpr
 by_cases h : k = n - m + j
 · subst h; rw [if_pos rfl, if_pos (by omega), show n - m + j - (n - m) = j by omega]
 · rw [if_neg h]
   by_cases h2 : n - m ≤ k ∧ k < n - m + j
   · rw [if_pos h2, if_pos (by omega)]
   · rw [if_neg h2, if_neg (by omega)]
theorem stpr_full (p inv m : Nat) (b : Nat → Nat) {n : Nat} (a : Nat → Nat) (h : m ≤ n) (k : Nat) : stpr p inv m b n a (m + 1) k = stp p inv m b n a k := by
 unfold stpr stp
 by_cases h2 : n - m ≤ k ∧ k ≤ n
 · rw [if_pos h2, if_pos (by omega)]
 · rw [if_neg h2, if_neg (by omega)]
theorem stp_lt {p inv m : Nat} {b : Nat → Nat} {n : Nat} {a : Nat → Nat} (hp : 0 < p) {N : Nat} (ha : ∀ k, k < N → a k < p) : ∀ k, k < N → stp p inv m b n a k < p := by
 intro k hk
 unfold stp
 split
 · exact Nat.mod_lt _ hp
 · exact ha k hk
theorem stp_skip {p inv m : Nat} {b : Nat → Nat} {n : Nat} {a : Nat → Nat} {N : Nat} (ha : ∀ k, k < N → a k < p) (h0 : a n = 0) {k : Nat} (hk : k < N) : stp p inv m b n a k = a k := by
 unfold stp
 split
 · rw [h0, Nat.zero_mul, Nat.zero_mod, Nat.sub_zero, Nat.add_mul_mod_self_left, Nat.mod_eq_of_lt (ha k hk)]
 · rfl
/-- behind the steps at 127, .., 128 - i -/
def dS (p inv m : Nat) (b a : Nat → Nat) : Nat → Nat → Nat
 | 0 => a
 | i + 1 => stp p inv m b (127 - i) (dS p inv m b a i)
theorem dS_zero (p inv m : Nat) (b a : Nat → Nat) : dS p inv m b a 0 = a := rfl
theorem dS_succ (p inv m : Nat) (b a : Nat → Nat) (i : Nat) : dS p inv m b a (i + 1) = stp p inv m b (127 - i) (dS p inv m b a i) := rfl
theorem dS_lt {p inv m : Nat} {b a : Nat → Nat} (hp : 0 < p) {N : Nat} (ha : ∀ k, k < N → a k < p) : ∀ i k, k < N → dS p inv m b a i k < p
 | 0 => ha
 | i + 1 => stp_lt hp (dS_lt hp ha i)
/-- the quotient's digit at k, from the step at k + m -/
def qd (p inv m : Nat) (b a : Nat → Nat) (k : Nat) : Nat := dS p inv m b a (127 - (k + m)) (k + m) * inv % p
/-- the quotient behind i steps -/
def qS (p inv m : Nat) (b a : Nat → Nat) (i : Nat) : Nat → Nat := fun k => if 128 - i ≤ k + m ∧ k + m ≤ 127 then qd p inv m b a k else 0
theorem qS_zero (p inv m : Nat) (b a : Nat → Nat) (k : Nat) : qS p inv m b a 0 k = 0 := by
 unfold qS; rw [if_neg (by omega)]
theorem qS_next {p inv m : Nat} (b a : Nat → Nat) {i : Nat} (hi : i + m ≤ 127) : ∀ k, upd (qS p inv m b a i) (127 - i - m) (dS p inv m b a i (127 - i) * inv % p) k = qS p inv m b a (i + 1) k := by
 intro k
 unfold upd qS
 by_cases h : k = 127 - i - m
 · subst h
   rw [if_pos rfl, if_pos (by omega)]
   unfold qd
   rw [show 127 - i - m + m = 127 - i by omega, show 127 - (127 - i) = i by omega]
 · rw [if_neg h]
   by_cases h2 : 128 - i ≤ k + m ∧ k + m ≤ 127
   · rw [if_pos h2, if_pos (by omega)]
   · rw [if_neg h2, if_neg (by omega)]
theorem qS_skip {p inv m : Nat} (b a : Nat → Nat) {i : Nat} (hi : i + m ≤ 127) (h0 : dS p inv m b a i (127 - i) = 0) : ∀ k, qS p inv m b a (i + 1) k = qS p inv m b a i k := by
 intro k
 rw [← qS_next b a hi k]
 unfold upd
 split
 · rename_i h
   subst h
   rw [h0, Nat.zero_mul, Nat.zero_mod]
   unfold qS
   rw [if_neg (by omega)]
 · rfl
/-- quotient and rest of a (up to 127) by b, m its degree, inv the inverse of its leading coefficient -/
def quoW (p inv m : Nat) (b a : Nat → Nat) : Nat → Nat := qS p inv m b a (128 - m)
def resW (p inv m : Nat) (b a : Nat → Nat) : Nat → Nat := dS p inv m b a (128 - m)
/-- the number whose product with c is 1 -/
def invN (p c : Nat) : Nat := ((List.range 7).find? fun k => k * c % p == 1).getD 0
end Go.Proofs.Ytobcdekochenfaa
end
section
namespace Go.Proofs.Ytobcdekochenfaa
open Go.RowKit
set_option linter.unusedVariables false
theorem invF {p c : Nat} (hp : p = 2 ∨ p = 3 ∨ p = 5 ∨ p = 7) (h1 : 0 < c) (h2 : c < p) : 1 ≤ invN p c ∧ invN p c < p ∧ invN p c * c % p = 1 ∧ ∀ k, 1 ≤ k → k < invN p c → k * c % p ≠ 1 := by
 have hc : c = 1 ∨ c = 2 ∨ c = 3 ∨ c = 4 ∨ c = 5 ∨ c = 6 := by omega
 suffices h : 1 ≤ invN p c ∧ invN p c < p ∧ invN p c * c % p = 1 ∧ ∀ k, k < 7 → (k < 1 ∨ invN p c ≤ k ∨ k * c % p ≠ 1) by
  obtain ⟨a, b, d, e⟩ := h
  refine ⟨a, b, d, fun k k1 k2 => ?_⟩
  rcases e k (by omega) with h | h | h
  · omega
  · omega
  · exact h
 rcases hp with rfl | rfl | rfl | rfl <;> rcases hc with rfl | rfl | rfl | rfl | rfl | rfl <;> first | omega | decide
attribute [local irreducible] invN
set_option maxHeartbeats 800000 in
theorem inverseNumber_any (p c : Nat) (w : World) (hp : p = 2 ∨ p = 3 ∨ p = 5 ∨ p = 7) (hc1 : 0 < c) (hc2 : c < p) :
 Calls Try.prog 178 #[.int .i64 (p : Int), .int .u8 (c : Int)] w fun e w' => e = .returned (.int .u8 (invN p c : Int)) ∧ w = w' := by
 obtain ⟨f1, f2, f3, f4⟩ := invF hp hc1 hc2
 obtain ⟨q, hq⟩ : ∃ q, q = invN p c := ⟨_, rfl⟩
 rw [← hq] at f1 f2 f3 f4 ⊢
 clear hq
 have p2 : 2 ≤ p := by omega
 have p7 : p ≤ 7 := by omega
 go_enter Try.func178, Try.ntmps178
 go_wp2_with fail
 go_loopw [5] (fun i wr => ∃ k : Nat, 1 ≤ k ∧ k ≤ q ∧ i = .int .u8 (k : Int) ∧ wr = w) (fun i _ => 8 - (intOf i).toNat)
 case atStart => exact ⟨1, by omega, by omega, rfl, rfl⟩
 case round =>
  obtain ⟨k, hk1, hk, rfl, rfl⟩ := hrel
  have hmul : (k : Int) * (c : Int) ≤ 36 ∧ 0 ≤ (k : Int) * (c : Int) := small_nat_mul p7 (by omega) hc2
  obtain ⟨m2, m3⟩ := hmul
  have n0 : 0 ≤ (k : Int) * (c : Int) % (p : Int) := Int.emod_nonneg _ (by omega)
  have n1 : (k : Int) * (c : Int) % (p : Int) < (p : Int) := Int.emod_lt_of_pos _ (by omega)
  have he : (k : Int) * (c : Int) % (p : Int) = ((k * c % p : Nat) : Int) := by push_cast; rfl
  have hm : (k : Int) * (c : Int) % 256 % (p : Int) = (k : Int) * (c : Int) % (p : Int) := by rw [Int.emod_eq_of_lt m3 (by omega)]
  by_cases hlt : k < q
  · have hne : (k : Int) * (c : Int) % (p : Int) ≠ 1 := by have := f4 k hk1 hlt; omega
    clear he
    go_wp2_with fail
    · refine ⟨⟨k + 1, by omega, by omega, by push_cast; rfl, trivial⟩, ?_⟩
      simp only [intOf]
      omega
  · have : k = q := by omega
    subst this
    have hne : (k : Int) * (c : Int) % (p : Int) = 1 := by omega
    clear he
    go_wp2_with fail
    go_ret
    exact ⟨rfl, rfl⟩
set_option maxHeartbeats 800000 in
theorem l01Inverse_any (p c : Nat) (w : World) (hp : p = 2 ∨ p = 3 ∨ p = 5 ∨ p = 7) (hc1 : 0 < c) (hc2 : c < p) :
 Calls Try.prog 179 #[.int .i64 (p : Int), .int .u8 (c : Int)] w fun e w' => e = .returned (.int .u8 (invN p c : Int)) ∧ w = w' := by
 obtain ⟨f1, f2, f3, f4⟩ := invF hp hc1 hc2
 obtain ⟨q, hq⟩ : ∃ q, q = invN p c := ⟨_, rfl⟩
 rw [← hq] at f1 f2 f3 f4 ⊢
 clear hq
 have p2 : 2 ≤ p := by omega
 have p7 : p ≤ 7 := by omega
 go_enter Try.func179, Try.ntmps179
 go_wp2_with fail
 go_loopw [5] (fun i wr => ∃ k : Nat, 1 ≤ k ∧ k ≤ q ∧ i = .int .i64 (k : Int) ∧ wr = w) (fun i _ => 8 - (intOf i).toNat)
 case atStart => exact ⟨1, by omega, by omega, rfl, rfl⟩
 case round =>
  obtain ⟨k, hk1, hk, rfl, rfl⟩ := hrel
  have hmul : (k : Int) * (c : Int) ≤ 36 ∧ 0 ≤ (k : Int) * (c : Int) := small_nat_mul p7 (by omega) hc2
  obtain ⟨m2, m3⟩ := hmul
  have n0 : 0 ≤ (k : Int) * (c : Int) % (p : Int) := Int.emod_nonneg _ (by omega)
  have n1 : (k : Int) * (c : Int) % (p : Int) < (p : Int) := Int.emod_lt_of_pos _ (by omega)
  have he : (k : Int) * (c : Int) % (p : Int) = ((k * c % p : Nat) : Int) := by push_cast; rfl
  by_cases hlt : k < q
  · have hne : (k : Int) * (c : Int) % (p : Int) ≠ 1 := by have := f4 k hk1 hlt; omega
    clear he
    go_wp2_with fail
    refine ⟨⟨k + 1, by omega, by omega, by push_cast; rfl, trivial⟩, ?_⟩
    simp only [intOf]
    omega
  · have : k = q := by omega
    subst this
    have hne : (k : Int) * (c : Int) % (p : Int) = 1 := by omega
    clear he
    go_wp2_with fail
    go_ret
    exact ⟨rfl, rfl⟩
end Go.Proofs.Ytobcdekochenfaa
end
section
namespace Go.Proofs.Ytobcdekochenfaa
attribute [local irreducible] deg invN
theorem zero_above {f : Nat → Nat} {k : Nat} (h : deg f < (k : Int)) (hk : k < 64) : f k = 0 := by
 rcases deg_spec f with ⟨_, hz⟩ | ⟨d, hd, e, _, hz⟩
 · exact hz k hk
 · exact hz k (by omega) hk
theorem deg_le {f : Nat → Nat} {d : Int} (hd : -1 ≤ d) (h : ∀ k : Nat, d < (k : Int) → k < 64 → f k = 0) : deg f ≤ d := by
 rcases deg_spec f with ⟨e, _⟩ | ⟨n, hn, e, hne, _⟩
 · omega
 · by_cases hlt : d < (n : Int)
   · exact absurd (h n hlt hn) hne
   · omega
theorem deg_congr {f g : Nat → Nat} (h : ∀ k, k < 64 → f k = g k) : deg f = deg g := by
 obtain ⟨a1, a2⟩ := zdb f
 obtain ⟨b1, b2⟩ := zdb g
 have h1 : deg f ≤ deg g := deg_le b1 (fun k hk hk2 => by rw [h k hk2]; exact zero_above hk hk2)
 have h2 : deg g ≤ deg f := deg_le a1 (fun k hk hk2 => by rw [← h k hk2]; exact zero_above hk hk2)
 omega
theorem deg_neg_iff {f : Nat → Nat} : deg f < 0 ↔ ∀ k, k < 64 → f k = 0 := by
 constructor
 · exact deg_neg
 · intro h
   have := deg_le (f := f) (d := -1) (by omega) (fun k _ hk => h k hk)
   omega
theorem step_zero {p inv bm an : Nat} (hp : 0 < p) (han : an < p) (hi : inv * bm % p = 1) : (an + (p - an * inv % p) * bm) % p = 0 := by
 obtain ⟨f, hf⟩ : ∃ f, f = an * inv % p := ⟨_, rfl⟩
 have hfp : f < p := by rw [hf]; exact Nat.mod_lt _ hp
 have h1 : f * bm % p = an := by
  rw [hf, Nat.mod_mul_mod, Nat.mul_assoc, Nat.mul_mod, hi, Nat.mul_one, Nat.mod_mod, Nat.mod_eq_of_lt han]
 rw [← hf]
 have h2 := Nat.div_add_mod (f * bm) p
 rw [h1] at h2
 have h3 : f * bm ≤ p * bm := Nat.mul_le_mul_right _ (by omega)
 rw [Nat.sub_mul]
 have h4 : an + (p * bm - f * bm) = p * (bm - f * bm / p) := by
  rw [Nat.mul_sub]
  omega
 rw [h4, Nat.mul_mod_right]
theorem dS_top {p inv m : Nat} {b a : Nat → Nat} (hp : 0 < p) (ha : ∀ k, k < 128 → a k < p) (hi : inv * b m % p = 1) : ∀ i, i + m ≤ 128 → ∀ k, 128 ≤ k + i → k < 128 → dS p inv m b a i k = 0
 | 0, _, k, h1, h2 => by omega
 | i + 1, him, k, h1, h2 => by
  rw [dS_succ]
  unfold stp
  by_cases h : 127 - i - m ≤ k ∧ k ≤ 127 - i
  · have e : k = 127 - i := by omega
    subst e
    rw [if_pos (by omega), show 127 - i - (127 - i - m) = m by omega]
    exact step_zero hp (dS_lt hp ha i _ (by omega)) hi
  · rw [if_neg h]
    exact dS_top hp ha hi i (by omega) k (by omega) h2
theorem dS_stay {p inv m N : Nat} {b a : Nat → Nat} (ha : ∀ k, k < 128 → a k < p) (hz : ∀ k, N ≤ k → k < 128 → a k = 0) : ∀ i, i + N ≤ 128 → ∀ k, k < 128 → dS p inv m b a i k = a k
 | 0, _, k, _ => rfl
 | i + 1, h, k, hk => by
  have ih := dS_stay (inv := inv) (m := m) (b := b) ha hz i (by omega)
  rw [dS_succ, stp_skip (N := 128) (fun j hj => by rw [ih j hj]; exact ha j hj) (by rw [ih _ (by omega)]; exact hz _ (by omega) (by omega)) hk]
  exact ih k hk
/-- quotient and rest of a by b, other than 0 -/
def quoP (p : Nat) (a b : Nat → Nat) : Nat → Nat := quoW p (invN p (b (deg b).toNat)) (deg b).toNat b (cut a)
def resP (p : Nat) (a b : Nat → Nat) : Nat → Nat := resW p (invN p (b (deg b).toNat)) (deg b).toNat b (cut a)
theorem quoP_at {p m : Nat} {a b : Nat → Nat} (h : deg b = (m : Int)) : quoP p a b = quoW p (invN p (b m)) m b (cut a) := by
 unfold quoP; rw [h]; rfl
theorem resP_at {p m : Nat} {a b : Nat → Nat} (h : deg b = (m : Int)) : resP p a b = resW p (invN p (b m)) m b (cut a) := by
 unfold resP; rw [h]; rfl
theorem cut_all {p : Nat} {a : Nat → Nat} (hp : 0 < p) (ha : ∀ k, k < 64 → a k < p) (k : Nat) : cut a k < p := by
 unfold cut
 split
 · exact ha k (by assumption)
 · exact hp
theorem deg_top {f : Nat → Nat} {m : Nat} (h : deg f = (m : Int)) : m < 64 ∧ 0 < f m ∧ ∀ k, m < k → k < 64 → f k = 0 := by
 rcases deg_spec f with ⟨e, _⟩ | ⟨d, hd, e, hne, hz⟩
 · omega
 · have : d = m := by omega
   subst this
   exact ⟨hd, by omega, hz⟩
theorem quoP_lt {p : Nat} {a b : Nat → Nat} (hp : 0 < p) (k : Nat) : quoP p a b k < p := by
 unfold quoP quoW qS
 split
 · unfold qd; exact Nat.mod_lt _ hp
 · exact hp
theorem resP_lt {p : Nat} {a b : Nat → Nat} (hp : 0 < p) (ha : ∀ k, k < 64 → a k < p) (k : Nat) (hk : k < 64) : resP p a b k < p := by
 unfold resP resW
 exact dS_lt (N := 64) hp (fun k _ => cut_all hp ha k) _ k hk
theorem quoP_deg {p : Nat} {a b : Nat → Nat} (hp : 0 < p) (ha : ∀ k, k < 64 → a k < p) (hb : 0 ≤ deg b) : deg (quoP p a b) = -1 ∨ deg (quoP p a b) ≤ deg a - deg b := by
 obtain ⟨m, hm⟩ : ∃ m : Nat, deg b = (m : Int) := ⟨(deg b).toNat, by omega⟩
 obtain ⟨a1, a2⟩ := zdb a
 obtain ⟨m1, m2, m3⟩ := deg_top hm
 obtain ⟨N, hN⟩ : ∃ N : Nat, deg a + 1 = (N : Int) := ⟨(deg a + 1).toNat, by omega⟩
 have hz : ∀ k, N ≤ k → k < 128 → cut a k = 0 := by
  intro k h1 h2
  by_cases h : k < 64
  · rw [cut_in a h]; exact zero_above (by omega) h
  · exact zcz a (by omega)
 have key : ∀ k, N ≤ k + m → quoP p a b k = 0 := by
  intro k hk
  rw [quoP_at hm]
  unfold quoW qS
  split
  · rename_i h
    unfold qd
    rw [dS_stay (N := N) (fun j _ => cut_all hp ha j) hz _ (by omega) _ (by omega), hz _ hk (by omega), Nat.zero_mul, Nat.zero_mod]
  · rfl
 by_cases hlt : N ≤ m
 · left
   have := deg_neg_iff.2 (fun k (_ : k < 64) => key k (by omega))
   obtain ⟨h1, _⟩ := zdb (quoP p a b)
   omega
 · right
   exact deg_le (by omega) (fun k h1 _ => key k (by omega))
theorem resP_deg {p : Nat} {a b : Nat → Nat} (hp : p = 2 ∨ p = 3 ∨ p = 5 ∨ p = 7) (ha : ∀ k, k < 64 → a k < p) (hbp : ∀ k, k < 64 → b k < p) (hb : 0 ≤ deg b) : deg (resP p a b) < deg b ∧ deg (resP p a b) ≤ deg a := by
 have hp0 : 0 < p := by omega
 obtain ⟨m, hm⟩ : ∃ m : Nat, deg b = (m : Int) := ⟨(deg b).toNat, by omega⟩
 obtain ⟨a1, a2⟩ := zdb a
 obtain ⟨m1, m2, m3⟩ := deg_top hm
 have hinv := (invF hp m2 (hbp m m1)).2.2.1
 have h1 : deg (resP p a b) < deg b := by
  have : deg (resP p a b) ≤ deg b - 1 := deg_le (by omega) (fun k hk hk2 => by
   rw [resP_at hm]
   unfold resW
   exact dS_top hp0 (fun j _ => cut_all hp0 ha j) hinv _ (by omega) k (by omega) (by omega))
  omega
 refine ⟨h1, ?_⟩
 by_cases hlt : deg b ≤ deg a
 · omega
 · obtain ⟨N, hN⟩ : ∃ N : Nat, deg a + 1 = (N : Int) := ⟨(deg a + 1).toNat, by omega⟩
   have hz : ∀ k, N ≤ k → k < 128 → cut a k = 0 := by
    intro k h1 h2
    by_cases h : k < 64
    · rw [cut_in a h]; exact zero_above (by omega) h
    · exact zcz a (by omega)
   have : deg (resP p a b) = deg a := deg_congr (fun k hk => by
    rw [resP_at hm]
    unfold resW
    rw [dS_stay (N := N) (fun j _ => cut_all hp0 ha j) hz _ (by omega) k (by omega), cut_in a hk])
   omega
/-- below the divisor's degree nothing is divided -/
theorem resP_small {p : Nat} {a b : Nat → Nat} (hp : 0 < p) (ha : ∀ k, k < 64 → a k < p) (hlt : deg a < deg b) (k : Nat) (hk : k < 64) : resP p a b k = a k := by
 obtain ⟨a1, a2⟩ := zdb a
 obtain ⟨b1, b2⟩ := zdb b
 obtain ⟨m, hm⟩ : ∃ m : Nat, deg b = (m : Int) := ⟨(deg b).toNat, by omega⟩
 obtain ⟨N, hN⟩ : ∃ N : Nat, deg a + 1 = (N : Int) := ⟨(deg a + 1).toNat, by omega⟩
 have hz : ∀ k, N ≤ k → k < 128 → cut a k = 0 := by
  intro k h1 h2
  by_cases h : k < 64
  · rw [cut_in a h]; exact zero_above (by omega) h
  · exact zcz a (by omega)
 rw [resP_at hm]
 unfold resW
 rw [dS_stay (N := N) (fun j _ => cut_all hp ha j) hz _ (by omega) k (by omega), cut_in a hk]
theorem prd_above {p : Nat} {f g : Nat → Nat} (hp : 0 < p) {k : Nat} (h : deg f + deg g < (k : Int)) : prd p f g k = 0 := by
 unfold prd
 have : ∀ i, cv p (cut f) (cut g) i k = 0 := by
  intro i
  induction i with
  | zero => rfl
  | succ i ih =>
   rw [cv_same hp, ih]
   intro hik
   by_cases h1 : deg f < (i : Int)
   · have : cut f i = 0 := by
      unfold cut
      split
      · exact zero_above h1 (by assumption)
      · rfl
     rw [this, Nat.zero_mul]
   · have : cut g (k - i) = 0 := by
      unfold cut
      split
      · exact zero_above (by omega) (by assumption)
      · rfl
     rw [this, Nat.mul_zero]
 exact this 64
theorem prd_lt {p : Nat} {f g : Nat → Nat} (hp : 0 < p) (k : Nat) : prd p f g k < p := cv_lt p _ _ hp _ _
/-- the difference -/
def subP (p : Nat) (f g : Nat → Nat) : Nat → Nat := fun i => (f i + p - g i) % p
theorem subP_lt {p : Nat} {f g : Nat → Nat} (hp : 0 < p) (k : Nat) : subP p f g k < p := Nat.mod_lt _ hp
theorem subP_zero {p : Nat} {f g : Nat → Nat} {k : Nat} (h1 : f k = 0) (h2 : g k = 0) : subP p f g k = 0 := by
 unfold subP; rw [h1, h2, Nat.zero_add, Nat.sub_zero, Nat.mod_self]
/-- c times f -/
def sclP (p : Nat) (f : Nat → Nat) (c : Nat) : Nat → Nat := fun i => f i * c % p
/-- the search for a common divisor, at most n more rounds -/
def bzRun (p : Nat) : Nat → (Nat → Nat) → (Nat → Nat) → (Nat → Nat) → (Nat → Nat) → (Nat → Nat) → (Nat → Nat) → (Nat → Nat) × (Nat → Nat) × (Nat → Nat)
 | 0, a, _, u, _, v, _ => (a, u, v)
 | n + 1, a, b, u, x, v, y => if deg b < 0 then (a, u, v) else bzRun p n b (resP p a b) x (subP p u (prd p (quoP p a b) x)) y (subP p v (prd p (quoP p a b) y))
theorem bzRun_stop {p n : Nat} {a b u x v y : Nat → Nat} (h : deg b < 0) : bzRun p n a b u x v y = (a, u, v) := by
 cases n with
 | zero => rfl
 | succ n => unfold bzRun; rw [if_pos h]
theorem bzRun_go {p n : Nat} {a b u x v y : Nat → Nat} (h : ¬ deg b < 0) : bzRun p (n + 1) a b u x v y = bzRun p n b (resP p a b) x (subP p u (prd p (quoP p a b) x)) y (subP p v (prd p (quoP p a b) y)) := by
 rw [bzRun, if_neg h]
def oneP : Nat → Nat := fun k => if k = 0 then 1 else 0
theorem deg_one : deg oneP = 0 := by
 have h1 := deg_le (f := oneP) (d := 0) (by omega) (fun k hk _ => by unfold oneP; rw [if_neg (by omega)])
 have h2 : ¬ deg oneP < 0 := by
  intro h
  have := deg_neg h 0 (by omega)
  unfold oneP at this
  simp at this
 omega
/-- what holds of the rows -/
def bzI (p : Nat) (a b u x v y : Nat → Nat) : Prop :=
 (∀ k, k < 64 → a k < p) ∧ (∀ k, k < 64 → b k < p) ∧ (∀ k, k < 64 → u k < p) ∧ (∀ k, k < 64 → x k < p) ∧ (∀ k, k < 64 → v k < p) ∧ (∀ k, k < 64 → y k < p) ∧
 deg x + deg a ≤ 63 ∧ deg u + deg b ≤ 63 ∧ deg y + deg a ≤ 63 ∧ deg v + deg b ≤ 63 ∧ (0 ≤ deg a ∨ 0 ≤ deg b)
theorem bzI_start {p : Nat} {a b : Nat → Nat} (hp : 2 ≤ p) (ha : ∀ k, k < 64 → a k < p) (hb : ∀ k, k < 64 → b k < p) (h : 0 ≤ deg a ∨ 0 ≤ deg b) : bzI p a b oneP (fun _ => 0) (fun _ => 0) oneP := by
 obtain ⟨a1, a2⟩ := zdb a
 obtain ⟨b1, b2⟩ := zdb b
 have h1 : ∀ k, k < 64 → oneP k < p := fun k _ => by unfold oneP; split <;> omega
 have h0 : deg (fun _ => 0) < 0 := deg_neg_iff.2 (fun _ _ => rfl)
 have := deg_one
 exact ⟨ha, hb, h1, fun _ _ => Nat.lt_of_lt_of_le Nat.zero_lt_two hp, fun _ _ => Nat.lt_of_lt_of_le Nat.zero_lt_two hp, h1, by omega, by omega, by omega, by omega, h⟩
theorem bz_col {p : Nat} {a b u x : Nat → Nat} (hp : 0 < p) (ha : ∀ k, k < 64 → a k < p) (hb : 0 ≤ deg b) (h1 : deg x + deg a ≤ 63) (h2 : deg u + deg b ≤ 63) : deg (quoP p a b) + deg x ≤ 63 ∧ deg (subP p u (prd p (quoP p a b) x)) + deg b ≤ 63 := by
 obtain ⟨x1, x2⟩ := zdb x
 obtain ⟨u1, u2⟩ := zdb u
 obtain ⟨b1, b2⟩ := zdb b
 rcases quoP_deg hp ha hb with hq | hq
 · refine ⟨by omega, ?_⟩
   have := deg_le (f := subP p u (prd p (quoP p a b) x)) (d := 63 - deg b) (by omega) (fun k hk hk2 => subP_zero (zero_above (by omega) hk2) (prd_zero_left hp (deg_neg (by omega)) k))
   omega
 · refine ⟨by omega, ?_⟩
   have := deg_le (f := subP p u (prd p (quoP p a b) x)) (d := 63 - deg b) (by omega) (fun k hk hk2 => subP_zero (zero_above (by omega) hk2) (prd_above hp (by omega)))
   omega
theorem bzI_next {p : Nat} {a b u x v y : Nat → Nat} (hp : p = 2 ∨ p = 3 ∨ p = 5 ∨ p = 7) (h : bzI p a b u x v y) (hb : ¬ deg b < 0) :
 bzI p b (resP p a b) x (subP p u (prd p (quoP p a b) x)) y (subP p v (prd p (quoP p a b) y)) ∧ deg (resP p a b) < deg b ∧ deg (quoP p a b) + deg x ≤ 63 ∧ deg (quoP p a b) + deg y ≤ 63 := by
 obtain ⟨h1, h2, h3, h4, h5, h6, h7, h8, h9, h10, h11⟩ := h
 have hp0 : 0 < p := by omega
 obtain ⟨r1, r2⟩ := resP_deg hp h1 h2 (by omega)
 obtain ⟨c1, c2⟩ := bz_col (x := x) (u := u) hp0 h1 (by omega) h7 h8
 obtain ⟨d1, d2⟩ := bz_col (x := y) (u := v) hp0 h1 (by omega) h9 h10
 exact ⟨⟨h2, resP_lt hp0 h1, h4, fun k _ => subP_lt hp0 k, h6, fun k _ => subP_lt hp0 k, c2, by omega, d2, by omega, by omega⟩, r1, c1, d1⟩
def bzV (p : Nat) (a b : Nat → Nat) : (Nat → Nat) × (Nat → Nat) × (Nat → Nat) := bzRun p 65 a b oneP (fun _ => 0) (fun _ => 0) oneP
/-- what is returned: all three, times the inverse of the leading coefficient -/
def bzC (p : Nat) (a b : Nat → Nat) : Nat := invN p ((bzV p a b).1 (deg (bzV p a b).1).toNat)
def bzD (p : Nat) (a b : Nat → Nat) : Nat → Nat := sclP p (bzV p a b).1 (bzC p a b)
def bzU (p : Nat) (a b : Nat → Nat) : Nat → Nat := sclP p (bzV p a b).2.1 (bzC p a b)
def bzW (p : Nat) (a b : Nat → Nat) : Nat → Nat := sclP p (bzV p a b).2.2 (bzC p a b)
theorem addK_scl {p c : Nat} {f : Nat → Nat} : addK p (fun _ => 0) f (c : Int) = sclP p f c := by
 funext i
 unfold addK sclP
 rw [show ((0 : Nat) : Int) + (c : Int) * (f i : Int) = ((f i * c : Nat) : Int) by push_cast; rw [Int.zero_add, Int.mul_comm]]
 omega
theorem cut_stop {a : Nat → Nat} {N : Nat} (hN : deg a + 1 ≤ (N : Int)) : ∀ k, N ≤ k → k < 128 → cut a k = 0 := by
 intro k h1 h2
 by_cases h : k < 64
 · rw [cut_in a h]; exact zero_above (by omega) h
 · exact zcz a (by omega)
theorem qS_start {p inv m N s : Nat} {b a : Nat → Nat} (ha : ∀ k, k < 128 → a k < p) (hz : ∀ k, N ≤ k → k < 128 → a k = 0) (hs : N ≤ s) (k : Nat) : qS p inv m b a (128 - s) k = 0 := by
 unfold qS
 split
 · rename_i h
   unfold qd
   rw [dS_stay (N := N) ha hz _ (by omega) _ (by omega), hz _ (by omega) (by omega), Nat.zero_mul, Nat.zero_mod]
 · rfl
theorem stp_none {p inv m : Nat} {b : Nat → Nat} {n : Nat} {a : Nat → Nat} {N : Nat} (ha : ∀ k, k < N → a k < p) (h0 : a n * inv % p = 0) {k : Nat} (hk : k < N) : stp p inv m b n a k = a k := by
 unfold stp
 split
 · rw [h0, Nat.sub_zero, Nat.add_mul_mod_self_left, Nat.mod_eq_of_lt (ha k hk)]
 · rfl
theorem take_off {p A τ b : Nat} (hτ : τ ≤ p) : ((A : Int) - (τ : Int) * (b : Int)) % (p : Int) = (((A + (p - τ) * b) % p : Nat) : Int) := by
 have hc : ((p - τ : Nat) : Int) = (p : Int) - (τ : Int) := by omega
 rw [Int.natCast_emod, Int.natCast_add, Int.natCast_mul, hc, Int.sub_mul]
 rw [show (A : Int) + ((p : Int) * (b : Int) - (τ : Int) * (b : Int)) = (A : Int) - (τ : Int) * (b : Int) + (p : Int) * (b : Int) by omega]
 rw [Int.add_mul_emod_self_left]
end Go.Proofs.Ytobcdekochenfaa
end
section
namespace Go.Proofs.Ytobcdekochenfaa
attribute [local irreducible] deg invN
/-- the sum of t below n -/
def cs : Nat → (Nat → Int) → Int
 | 0, _ => 0
 | n + 1, t => cs n t + t n
theorem cs_z (t : Nat → Int) : cs 0 t = 0 := rfl
theorem cs_s (n : Nat) (t : Nat → Int) : cs (n + 1) t = cs n t + t n := rfl
theorem cs_congr {s t : Nat → Int} : ∀ n, (∀ i, i < n → s i = t i) → cs n s = cs n t
 | 0, _ => rfl
 | n + 1, h => by rw [cs_s, cs_s, cs_congr n (fun i hi => h i (by omega)), h n (by omega)]
theorem cs_add (s t : Nat → Int) : ∀ n, cs n (fun i => s i + t i) = cs n s + cs n t
 | 0 => rfl
 | n + 1 => by rw [cs_s, cs_s, cs_s, cs_add s t n]; omega
theorem cs_mul (c : Int) (t : Nat → Int) : ∀ n, cs n (fun i => c * t i) = c * cs n t
 | 0 => by rw [cs_z, cs_z, Int.mul_zero]
 | n + 1 => by rw [cs_s, cs_s, cs_mul c t n, Int.mul_add]
theorem cs_mulr (c : Int) (t : Nat → Int) (n : Nat) : cs n (fun i => t i * c) = cs n t * c := by
 rw [Int.mul_comm, ← cs_mul]
 exact cs_congr n (fun i _ => Int.mul_comm _ _)
theorem cs_zero {t : Nat → Int} : ∀ n, (∀ i, i < n → t i = 0) → cs n t = 0
 | 0, _ => rfl
 | n + 1, h => by rw [cs_s, cs_zero n (fun i hi => h i (by omega)), h n (by omega)]; rfl
theorem cs_front (t : Nat → Int) : ∀ n, cs (n + 1) t = t 0 + cs n (fun i => t (i + 1))
 | 0 => by rw [cs_s, cs_z, cs_z]; omega
 | n + 1 => by rw [cs_s, cs_front t n, cs_s]; omega
theorem cs_rev (t : Nat → Int) : ∀ n, cs (n + 1) t = cs (n + 1) (fun i => t (n - i))
 | 0 => rfl
 | n + 1 => by
  rw [cs_front (fun i => t (n + 1 - i)) (n + 1), cs_s, cs_rev t n, Nat.sub_zero]
  have : cs (n + 1) (fun i => t (n + 1 - (i + 1))) = cs (n + 1) (fun i => t (n - i)) := cs_congr _ (fun i _ => by rw [show n + 1 - (i + 1) = n - i by omega])
  omega
theorem cs_tri (F : Nat → Nat → Int) : ∀ n, cs (n + 1) (fun i => cs (i + 1) (fun j => F i j)) = cs (n + 1) (fun j => cs (n - j + 1) (fun l => F (j + l) j))
 | 0 => rfl
 | n + 1 => by
  rw [cs_s, cs_tri F n, cs_s (n + 1) (fun j => cs (n + 1 - j + 1) (fun l => F (j + l) j))]
  have h1 : cs (n + 1) (fun j => cs (n + 1 - j + 1) (fun l => F (j + l) j)) = cs (n + 1) (fun j => cs (n - j + 1) (fun l => F (j + l) j) + F (n + 1) j) := cs_congr _ (fun j hj => by
   rw [show n + 1 - j + 1 = (n - j + 1) + 1 by omega, cs_s, show j + (n - j + 1) = n + 1 by omega])
  have h2 : cs (n + 1 - (n + 1) + 1) (fun l => F (n + 1 + l) (n + 1)) = F (n + 1) (n + 1) := by
   rw [Nat.sub_self, cs_s, cs_z]; simp
  rw [h1, cs_add, h2, cs_s (n + 1) (fun j => F (n + 1) j)]
  have h3 : cs (n + 1) (F (n + 1)) = cs (n + 1) (fun j => F (n + 1) j) := rfl
  omega
/-- all but one of the terms are divided by p -/
theorem cs_dvd {p : Int} {t : Nat → Int} : ∀ n, (∀ i, i < n → p ∣ t i) → p ∣ cs n t
 | 0, _ => ⟨0, by rw [cs_z, Int.mul_zero]⟩
 | n + 1, h => by rw [cs_s]; exact Int.dvd_add (cs_dvd n (fun i hi => h i (by omega))) (h n (by omega))
theorem cs_but {p : Int} {t : Nat → Int} {j : Nat} : ∀ n, j < n → (∀ i, i < n → i ≠ j → p ∣ t i) → p ∣ cs n t - t j
 | 0, h, _ => by omega
 | n + 1, hj, h => by
  rw [cs_s]
  by_cases e : j = n
  · subst e
    have := cs_dvd (p := p) j (fun i hi => h i (by omega) (by omega))
    rwa [show cs j t + t j - t j = cs j t by omega]
  · have h1 := cs_but n (by omega) (fun i hi hne => h i (by omega) hne)
    rw [show cs n t + t n - t j = (cs n t - t j) + t n by omega]
    exact Int.dvd_add h1 (h n (by omega) (fun e' => e e'.symm))
/-- the product -/
def mz (f g : Nat → Int) : Nat → Int := fun k => cs (k + 1) (fun i => f i * g (k - i))
theorem mz_comm (f g : Nat → Int) : mz f g = mz g f := by
 funext k
 unfold mz
 rw [cs_rev]
 exact cs_congr _ (fun i hi => by rw [show k - (k - i) = i by omega, Int.mul_comm])
theorem mz_assoc (f g h : Nat → Int) : mz (mz f g) h = mz f (mz g h) := by
 funext k
 unfold mz
 have h1 : cs (k + 1) (fun i => cs (i + 1) (fun j => f j * g (i - j)) * h (k - i)) = cs (k + 1) (fun i => cs (i + 1) (fun j => (fun i j => f j * g (i - j) * h (k - i)) i j)) := cs_congr _ (fun i _ => by
  rw [← cs_mulr])
 rw [h1, cs_tri]
 exact cs_congr _ (fun j hj => by
  rw [← cs_mul]
  exact cs_congr _ (fun l hl => by
   show f j * g (j + l - j) * h (k - (j + l)) = _
   rw [show j + l - j = l by omega, show k - (j + l) = k - j - l by omega, Int.mul_assoc]))
def az (f g : Nat → Int) : Nat → Int := fun k => f k + g k
def sz (f g : Nat → Int) : Nat → Int := fun k => f k - g k
def cz (c : Int) (f : Nat → Int) : Nat → Int := fun k => c * f k
theorem mz_az (f g h : Nat → Int) : mz (az f g) h = az (mz f h) (mz g h) := by
 funext k
 unfold mz az
 rw [← cs_add]
 exact cs_congr _ (fun i _ => Int.add_mul _ _ _)
theorem mz_cz (c : Int) (f h : Nat → Int) : mz (cz c f) h = cz c (mz f h) := by
 funext k
 unfold mz cz
 rw [← cs_mul]
 exact cs_congr _ (fun i _ => Int.mul_assoc _ _ _)
theorem mz_sz (f g h : Nat → Int) : mz (sz f g) h = sz (mz f h) (mz g h) := by
 have : sz f g = az f (cz (-1) g) := by funext k; unfold sz az cz; omega
 rw [this, mz_az, mz_cz]
 funext k; unfold sz az cz; omega
def fin (f : Nat → Int) : Prop := ∃ N, ∀ k, N ≤ k → f k = 0
theorem fin_az {f g : Nat → Int} (hf : fin f) (hg : fin g) : fin (az f g) := by
 obtain ⟨N, h⟩ := hf; obtain ⟨M, h'⟩ := hg
 exact ⟨N + M, fun k hk => by unfold az; rw [h k (by omega), h' k (by omega)]; rfl⟩
theorem fin_cz {f : Nat → Int} (c : Int) (hf : fin f) : fin (cz c f) := by
 obtain ⟨N, h⟩ := hf
 exact ⟨N, fun k hk => by unfold cz; rw [h k hk, Int.mul_zero]⟩
theorem fin_mz {f g : Nat → Int} (hf : fin f) (hg : fin g) : fin (mz f g) := by
 obtain ⟨N, h⟩ := hf; obtain ⟨M, h'⟩ := hg
 exact ⟨N + M, fun k hk => cs_zero _ (fun i hi => by
  by_cases h1 : N ≤ i
  · rw [h i h1, Int.zero_mul]
  · rw [h' (k - i) (by omega), Int.mul_zero])⟩
/-- the same modulo p -/
def cg (p : Int) (f g : Nat → Int) : Prop := ∀ k, p ∣ f k - g k
theorem cg_refl (p : Int) (f : Nat → Int) : cg p f f := fun k => ⟨0, by omega⟩
theorem cg_symm {p : Int} {f g : Nat → Int} (h : cg p f g) : cg p g f := fun k => by
 rw [show g k - f k = -(f k - g k) by omega]; exact Int.dvd_neg.2 (h k)
theorem cg_trans {p : Int} {f g h : Nat → Int} (h1 : cg p f g) (h2 : cg p g h) : cg p f h := fun k => by
 rw [show f k - h k = (f k - g k) + (g k - h k) by omega]; exact Int.dvd_add (h1 k) (h2 k)
theorem cg_az {p : Int} {f g f' g' : Nat → Int} (h1 : cg p f f') (h2 : cg p g g') : cg p (az f g) (az f' g') := fun k => by
 unfold az
 rw [show f k + g k - (f' k + g' k) = (f k - f' k) + (g k - g' k) by omega]; exact Int.dvd_add (h1 k) (h2 k)
theorem cg_mz {p : Int} {f f' g : Nat → Int} (h1 : cg p f f') : cg p (mz f g) (mz f' g) := fun k => by
 have : mz f g k - mz f' g k = mz (sz f f') g k := by rw [mz_sz]; rfl
 rw [this]
 exact cs_dvd _ (fun i _ => by
  obtain ⟨c, hc⟩ := h1 i
  exact ⟨c * g (k - i), by unfold sz; rw [hc, Int.mul_assoc]⟩)
theorem cg_mz2 {p : Int} {f f' g g' : Nat → Int} (h1 : cg p f f') (h2 : cg p g g') : cg p (mz f g) (mz f' g') := by
 refine cg_trans (cg_mz h1) ?_
 rw [mz_comm f' g, mz_comm f' g']
 exact cg_mz h2
/-- the same modulo p and m -/
def rm (p : Int) (m f g : Nat → Int) : Prop := ∃ q, fin q ∧ cg p (sz f g) (mz q m)
theorem rm_of_cg {p : Int} {m f g : Nat → Int} (h : cg p f g) : rm p m f g := by
 refine ⟨fun _ => 0, ⟨0, fun _ _ => rfl⟩, fun k => ?_⟩
 have : mz (fun _ => 0) m k = 0 := cs_zero _ (fun i _ => Int.zero_mul _)
 rw [this, Int.sub_zero]
 exact h k
theorem rm_refl (p : Int) (m f : Nat → Int) : rm p m f f := rm_of_cg (cg_refl p f)
theorem rm_symm {p : Int} {m f g : Nat → Int} (h : rm p m f g) : rm p m g f := by
 obtain ⟨q, hq, hc⟩ := h
 refine ⟨cz (-1) q, fin_cz _ hq, fun k => ?_⟩
 rw [mz_cz]
 have := hc k
 unfold cz sz at *
 rw [show g k - f k - -1 * mz q m k = -(f k - g k - mz q m k) by omega]
 exact Int.dvd_neg.2 this
theorem rm_az {p : Int} {m f g f' g' : Nat → Int} (h1 : rm p m f f') (h2 : rm p m g g') : rm p m (az f g) (az f' g') := by
 obtain ⟨q, hq, hc⟩ := h1; obtain ⟨r, hr, hd⟩ := h2
 refine ⟨az q r, fin_az hq hr, fun k => ?_⟩
 rw [mz_az]
 have h1 := hc k
 have h2 := hd k
 unfold az sz at *
 rw [show f k + g k - (f' k + g' k) - (mz q m k + mz r m k) = (f k - f' k - mz q m k) + (g k - g' k - mz r m k) by omega]
 exact Int.dvd_add h1 h2
theorem rm_trans {p : Int} {m f g h : Nat → Int} (h1 : rm p m f g) (h2 : rm p m g h) : rm p m f h := by
 obtain ⟨q, hq, hc⟩ := h1; obtain ⟨r, hr, hd⟩ := h2
 refine ⟨az q r, fin_az hq hr, fun k => ?_⟩
 rw [mz_az]
 have h1 := hc k
 have h2 := hd k
 unfold az sz at *
 rw [show f k - h k - (mz q m k + mz r m k) = (f k - g k - mz q m k) + (g k - h k - mz r m k) by omega]
 exact Int.dvd_add h1 h2
theorem rm_mz {p : Int} {m f f' g : Nat → Int} (hg : fin g) (h : rm p m f f') : rm p m (mz f g) (mz f' g) := by
 obtain ⟨q, hq, hc⟩ := h
 refine ⟨mz q g, fin_mz hq hg, ?_⟩
 rw [← mz_sz, mz_assoc, mz_comm g m, ← mz_assoc]
 exact cg_mz hc
theorem rm_mz2 {p : Int} {m f f' g g' : Nat → Int} (hg : fin g) (hf : fin f') (h1 : rm p m f f') (h2 : rm p m g g') : rm p m (mz f g) (mz f' g') := by
 refine rm_trans (rm_mz hg h1) ?_
 rw [mz_comm f' g, mz_comm f' g']
 exact rm_mz hf h2
theorem rm_zero {p : Int} {m q : Nat → Int} (hq : fin q) : rm p m (mz q m) (fun _ => 0) :=
 ⟨q, hq, fun k => ⟨0, by show mz q m k - 0 - mz q m k = p * 0; omega⟩⟩
theorem dvd_unit {p x y v : Int} (hv : p ∣ y * v - 1) (h : p ∣ x * y) : p ∣ x := by
 obtain ⟨a, ha⟩ := hv
 obtain ⟨b, hb⟩ := h
 refine ⟨b * v - x * a, ?_⟩
 have h1 : x * (y * v - 1) = x * (p * a) := by rw [ha]
 rw [Int.mul_sub, ← Int.mul_assoc, hb, Int.mul_one] at h1
 have h2 : p * b * v = p * (b * v) := Int.mul_assoc _ _ _
 have h3 : x * (p * a) = p * (x * a) := by rw [← Int.mul_assoc, Int.mul_comm x p, Int.mul_assoc]
 rw [Int.mul_sub]
 omega
/-- a rest of a lesser degree is the only one -/
theorem rm_unique {p : Int} {m f g : Nat → Int} {d : Nat} {v : Int} (hv : p ∣ m d * v - 1) (hm : ∀ k, d < k → m k = 0) (hd : ∀ k, d ≤ k → p ∣ f k - g k) (h : rm p m f g) : cg p f g := by
 obtain ⟨q, ⟨N, hN⟩, hc⟩ := h
 have key : ∀ i n, n + i = N → ∀ k, n ≤ k → p ∣ q k := by
  intro i
  induction i with
  | zero => intro n hn k hk; rw [hN k (by omega)]; exact ⟨0, by omega⟩
  | succ i ih =>
   intro n hn k hk
   have ih' := ih (n + 1) (by omega)
   by_cases e : k = n
   · subst e
     have h1 := hc (k + d)
     have h2 := hd (k + d) (by omega)
     have h3 : p ∣ mz q m (k + d) - q k * m (k + d - k) := cs_but (t := fun i => q i * m (k + d - i)) _ (by omega) (fun i hi hne => by
      by_cases hlt : i < k
      · rw [hm (k + d - i) (by omega), Int.mul_zero]; exact ⟨0, by omega⟩
      · obtain ⟨c, hc'⟩ := ih' i (by omega)
        exact ⟨c * m (k + d - i), by rw [hc', Int.mul_assoc]⟩)
     rw [show k + d - k = d by omega] at h3
     have h4 : p ∣ q k * m d := by
      unfold sz at h1
      have := Int.dvd_sub (Int.dvd_sub h2 h1) h3
      rwa [show f (k + d) - g (k + d) - (f (k + d) - g (k + d) - mz q m (k + d)) - (mz q m (k + d) - q k * m d) = q k * m d by omega] at this
     exact dvd_unit hv h4
   · exact ih' k (by omega)
 intro k
 have h1 := hc k
 have h2 : p ∣ mz q m k := cs_dvd _ (fun i _ => by
  obtain ⟨c, hc'⟩ := key N 0 (by omega) i (by omega)
  exact ⟨c * m (k - i), by rw [hc', Int.mul_assoc]⟩)
 have := Int.dvd_add h1 h2
 unfold sz at this
 rwa [show f k - g k - mz q m k + mz q m k = f k - g k by omega] at this
/-- powers -/
def pwz (f : Nat → Int) : Nat → (Nat → Int)
 | 0 => fun k => if k = 0 then 1 else 0
 | n + 1 => mz (pwz f n) f
theorem mz_one (f : Nat → Int) : mz (fun k => if k = 0 then 1 else 0) f = f := by
 funext k
 unfold mz
 rw [cs_front, cs_zero k (fun i hi => by show (if i + 1 = 0 then (1 : Int) else 0) * _ = 0; rw [if_neg (by omega), Int.zero_mul])]
 simp
theorem fin_one : fin (fun k => if k = 0 then 1 else 0) := ⟨1, fun k hk => by show (if k = 0 then (1 : Int) else 0) = 0; rw [if_neg (by omega)]⟩
theorem fin_pwz {f : Nat → Int} (hf : fin f) : ∀ n, fin (pwz f n)
 | 0 => fin_one
 | n + 1 => fin_mz (fin_pwz hf n) hf
theorem pwz_two (f : Nat → Int) : ∀ n, pwz f (2 * n) = pwz (mz f f) n
 | 0 => rfl
 | n + 1 => by
  rw [show 2 * (n + 1) = 2 * n + 1 + 1 by omega]
  show mz (mz (pwz f (2 * n)) f) f = mz (pwz (mz f f) n) (mz f f)
  rw [mz_assoc, pwz_two f n]
theorem rm_pwz {p : Int} {m f f' : Nat → Int} (hf : fin f) (hf' : fin f') (h : rm p m f f') : ∀ n, rm p m (pwz f n) (pwz f' n)
 | 0 => rm_refl _ _ _
 | n + 1 => rm_mz2 hf (fin_pwz hf' n) (rm_pwz hf hf' h n) h
/-- a polynomial's cells as a series -/
def lz (f : Nat → Nat) : Nat → Int := fun k => (cut f k : Int)
theorem fin_lz (f : Nat → Nat) : fin (lz f) := ⟨64, fun k hk => by unfold lz; rw [zcz f hk]; rfl⟩
theorem mod_dvd (p : Nat) (x : Nat) : (p : Int) ∣ ((x % p : Nat) : Int) - (x : Int) := by
 have := Nat.div_add_mod x p
 refine ⟨-((x / p : Nat) : Int), ?_⟩
 rw [Int.mul_neg, ← Int.natCast_mul]
 omega
theorem cv_mz (p : Nat) (f g : Nat → Nat) (k : Nat) : ∀ i, (p : Int) ∣ (cv p f g i k : Int) - cs i (fun j => if j ≤ k then (f j : Int) * (g (k - j) : Int) else 0)
 | 0 => ⟨0, by rw [cv_zero, cs_z]; omega⟩
 | i + 1 => by
  rw [cv_succ, cs_s]
  have h1 := mod_dvd p (cv p f g i k + (if i ≤ k then f i * g (k - i) else 0))
  have h2 := cv_mz p f g k i
  have h3 : (((if i ≤ k then f i * g (k - i) else 0 : Nat)) : Int) = (if i ≤ k then (f i : Int) * (g (k - i) : Int) else 0) := by split <;> push_cast <;> rfl
  have := Int.dvd_add h1 h2
  rw [Int.natCast_add, h3] at this
  obtain ⟨c, hc⟩ := this
  exact ⟨c, by omega⟩
theorem cs_more {t : Nat → Int} (n : Nat) : ∀ d, (∀ i, n ≤ i → i < n + d → t i = 0) → cs (n + d) t = cs n t
 | 0, _ => rfl
 | d + 1, h => by
  rw [← Nat.add_assoc, cs_s, cs_more n d (fun i h1 h2 => h i h1 (by omega)), h (n + d) (by omega) (by omega)]
  omega
/-- the coefficients of the product, modulo p -/
theorem prd_mz (p : Nat) (f g : Nat → Nat) (k : Nat) : (p : Int) ∣ (prd p f g k : Int) - mz (lz f) (lz g) k := by
 have h := cv_mz p (cut f) (cut g) k 64
 have e : cs 64 (fun j => if j ≤ k then (cut f j : Int) * (cut g (k - j) : Int) else 0) = mz (lz f) (lz g) k := by
  unfold mz lz
  by_cases hk : k + 1 ≤ 64
  · have := cs_more (t := fun j => if j ≤ k then (cut f j : Int) * (cut g (k - j) : Int) else 0) (k + 1) (64 - (k + 1)) (fun i h1 _ => by rw [if_neg (by omega)])
    rw [show k + 1 + (64 - (k + 1)) = 64 by omega] at this
    rw [this]
    exact cs_congr _ (fun i hi => by rw [if_pos (by omega)])
  · have := cs_more (t := fun j => (cut f j : Int) * (cut g (k - j) : Int)) 64 (k + 1 - 64) (fun i h1 _ => by rw [zcz f h1]; simp)
    rw [show 64 + (k + 1 - 64) = k + 1 by omega] at this
    rw [this]
    exact cs_congr _ (fun i hi => by rw [if_pos (by omega)])
 rw [e] at h
 exact h
theorem prd_cg {p : Nat} {f g : Nat → Nat} (hp : 0 < p) (h : deg f + deg g ≤ 63) : cg p (lz (prd p f g)) (mz (lz f) (lz g)) := by
 intro k
 by_cases hk : k < 64
 · have := prd_mz p f g k
   unfold lz at this ⊢
   rwa [cut_in _ hk]
 · have h0 := prd_above hp (f := f) (g := g) (k := k) (by omega)
   have := prd_mz p f g k
   unfold lz at this ⊢
   rw [zcz _ (by omega)]
   rwa [h0] at this
/-- two series of cells below p that are the same modulo p are the same -/
theorem lz_inj {p : Nat} {f g : Nat → Nat} (hf : ∀ k, k < 64 → f k < p) (hg : ∀ k, k < 64 → g k < p) (h : cg p (lz f) (lz g)) : ∀ k, k < 64 → f k = g k := by
 intro k hk
 have h1 := h k
 unfold lz at h1
 rw [cut_in _ hk, cut_in _ hk] at h1
 have h2 := hf k hk
 have h3 := hg k hk
 obtain ⟨c, hc⟩ := h1
 have : c = 0 := by
  have hp : (0 : Int) < p := by omega
  by_cases h4 : c = 0
  · exact h4
  · exfalso
    by_cases h5 : 0 < c
    · have : (p : Int) * 1 ≤ p * c := Int.mul_le_mul_of_nonneg_left (by omega) (by omega)
      omega
    · have : (p : Int) * c ≤ p * (-1) := Int.mul_le_mul_of_nonneg_left (by omega) (by omega)
      omega
 subst this
 omega
end Go.Proofs.Ytobcdekochenfaa
end
section
namespace Go.Proofs.Ytobcdekochenfaa
/-- sums and products as in the whole numbers -/
class Rg (R : Type) extends Add R, Mul R, Neg R where
 o : R
 e : R
 acomm : ∀ a b : R, a + b = b + a
 aassoc : ∀ a b c : R, a + b + c = a + (b + c)
 oadd : ∀ a : R, o + a = a
 nadd : ∀ a : R, -a + a = o
 mcomm : ∀ a b : R, a * b = b * a
 massoc : ∀ a b c : R, a * b * c = a * (b * c)
 emul : ∀ a : R, e * a = a
 madd : ∀ a b c : R, a * (b + c) = a * b + a * c
namespace Rg
variable {R : Type} [Rg R]
theorem addo (a : R) : a + o = a := by rw [acomm]; exact oadd a
theorem addm (a b c : R) : (b + c) * a = b * a + c * a := by rw [mcomm, madd, mcomm a b, mcomm a c]
theorem mlcomm (a b c : R) : a * (b * c) = b * (a * c) := by rw [← massoc, mcomm a b, massoc]
theorem cancel {a b c : R} (h : a + b = a + c) : b = c := by
 have h2 : -a + (a + b) = -a + (a + c) := by rw [h]
 rwa [← aassoc, ← aassoc, nadd, oadd, oadd] at h2
theorem diff (x r : R) : ∃ d, x = r + d := ⟨-r + x, by rw [← aassoc, acomm r, nadd, oadd]⟩
/-- a^n -/
def pw (a : R) : Nat → R
 | 0 => e
 | n + 1 => a * pw a n
/-- k times a -/
def nm : Nat → R → R
 | 0, _ => o
 | k + 1, a => nm k a + a
/-- the sum of c(i) x^i y^(n - i), for the n + 1 numbers of a list -/
def hm (x y : R) : List Nat → R
 | [] => o
 | c :: cs => nm c (pw y cs.length) + x * hm x y cs
def pas : Nat → List Nat → List Nat
 | q, [] => [q]
 | q, c :: cs => (q + c) :: pas c cs
def row : Nat → List Nat
 | 0 => [1]
 | n + 1 => pas 0 (row n)
end Rg
end Go.Proofs.Ytobcdekochenfaa
namespace Go.Proofs.Ytobcdekochenfaa
open Rg
def zS : Nat → Int := fun _ => 0
def oneS : Nat → Int := fun k => if k = 0 then 1 else 0
def TS : Nat → Int := fun k => if k = 1 then 1 else 0
theorem fin_zS : fin zS := ⟨0, fun _ _ => rfl⟩
theorem fin_TS : fin TS := ⟨2, fun k hk => by unfold TS; rw [if_neg (by omega)]⟩
theorem fin_oneS : fin oneS := fin_one
theorem az_comm (f g : Nat → Int) : az f g = az g f := by funext k; unfold az; omega
theorem az_assoc (f g h : Nat → Int) : az (az f g) h = az f (az g h) := by funext k; unfold az; omega
theorem zS_az (f : Nat → Int) : az zS f = f := by funext k; unfold az zS; omega
theorem neg_az (f : Nat → Int) : az (cz (-1) f) f = zS := by funext k; unfold az zS cz; omega
theorem mz_az2 (f g h : Nat → Int) : mz f (az g h) = az (mz f g) (mz f h) := by
 rw [mz_comm, mz_az, mz_comm g, mz_comm h]
theorem rm_cz {p : Int} {m f f' : Nat → Int} (c : Int) (h : rm p m f f') : rm p m (cz c f) (cz c f') := by
 obtain ⟨q, hq, hc⟩ := h
 refine ⟨cz c q, fin_cz c hq, fun k => ?_⟩
 rw [mz_cz]
 obtain ⟨x, hx⟩ := hc k
 unfold cz sz at *
 refine ⟨c * x, ?_⟩
 have : c * (f k - f' k - mz q m k) = c * (p * x) := by rw [hx]
 rw [Int.mul_sub, Int.mul_sub] at this
 rw [this, Int.mul_left_comm]
/-- residues modulo p and m -/
def Res (p : Int) (m : Nat → Int) : Type := Quot (fun f g : { f : Nat → Int // fin f } => rm p m f.1 g.1)
section
variable {p : Int} {m : Nat → Int}
def cl (f : Nat → Int) (hf : fin f) : Res p m := Quot.mk _ ⟨f, hf⟩
theorem cl_eq {f g : Nat → Int} {hf : fin f} {hg : fin g} : (cl f hf : Res p m) = cl g hg ↔ rm p m f g := by
 constructor
 · intro h
   have key : ∀ x y : { f : Nat → Int // fin f }, (Quot.mk (fun f g : { f : Nat → Int // fin f } => rm p m f.1 g.1) x) = Quot.mk _ y → rm p m x.1 y.1 := by
    intro x y hxy
    have h1 := congrArg (Quot.lift (fun z : { f : Nat → Int // fin f } => rm p m x.1 z.1) (by
     intro a b hab
     exact propext ⟨fun h => rm_trans h hab, fun h => rm_trans h (rm_symm hab)⟩)) hxy
    have h2 : rm p m x.1 x.1 = rm p m x.1 y.1 := h1
    rw [← h2]; exact rm_refl _ _ _
   exact key _ _ h
 · intro h; exact Quot.sound h
def rAdd (x y : Res p m) : Res p m := Quot.lift (fun f => Quot.lift (fun g => cl (az f.1 g.1) (fin_az f.2 g.2)) (by
 intro a b h; exact cl_eq.2 (rm_az (rm_refl _ _ _) h)) y) (by
 intro a b h
 induction y using Quot.ind with
 | mk g => exact cl_eq.2 (rm_az h (rm_refl _ _ _))) x
def rMul (x y : Res p m) : Res p m := Quot.lift (fun f => Quot.lift (fun g => cl (mz f.1 g.1) (fin_mz f.2 g.2)) (by
 intro a b h; exact cl_eq.2 (rm_mz2 a.2 f.2 (rm_refl _ _ _) h)) y) (by
 intro a b h
 induction y using Quot.ind with
 | mk g => exact cl_eq.2 (rm_mz g.2 h)) x
def rNeg (x : Res p m) : Res p m := Quot.lift (fun f => cl (cz (-1) f.1) (fin_cz _ f.2)) (by
 intro a b h; exact cl_eq.2 (rm_cz _ h)) x
theorem rMul_cl {f g : Nat → Int} {hf : fin f} {hg : fin g} : rMul (cl f hf : Res p m) (cl g hg) = cl (mz f g) (fin_mz hf hg) := rfl
theorem cl_congr {f g : Nat → Int} {hf : fin f} {hg : fin g} (h : f = g) : (cl f hf : Res p m) = cl g hg := by subst h; rfl
theorem res_ind {P : Res p m → Prop} (h : ∀ f hf, P (cl f hf)) (x : Res p m) : P x := by
 induction x using Quot.ind with
 | mk f => exact h f.1 f.2
instance resRg : Rg (Res p m) where
 add := rAdd
 mul := rMul
 neg := rNeg
 o := cl zS fin_zS
 e := cl oneS fin_oneS
 acomm a b := by
  induction a using res_ind with | h f hf => induction b using res_ind with | h g hg => exact cl_congr (az_comm f g)
 aassoc a b c := by
  induction a using res_ind with | h f hf => induction b using res_ind with | h g hg => induction c using res_ind with | h h hh => exact cl_congr (az_assoc f g h)
 oadd a := by induction a using res_ind with | h f hf => exact cl_congr (zS_az f)
 nadd a := by induction a using res_ind with | h f hf => exact cl_congr (neg_az f)
 mcomm a b := by
  induction a using res_ind with | h f hf => induction b using res_ind with | h g hg => exact cl_congr (mz_comm f g)
 massoc a b c := by
  induction a using res_ind with | h f hf => induction b using res_ind with | h g hg => induction c using res_ind with | h h hh => exact cl_congr (mz_assoc f g h)
 emul a := by induction a using res_ind with | h f hf => exact cl_congr (mz_one f)
 madd a b c := by
  induction a using res_ind with | h f hf => induction b using res_ind with | h g hg => induction c using res_ind with | h h hh => exact cl_congr (mz_az2 f g h)
theorem pw_cl {f : Nat → Int} (hf : fin f) : ∀ n, pw (cl f hf : Res p m) n = cl (pwz f n) (fin_pwz hf n)
 | 0 => rfl
 | n + 1 => by
  show rMul (cl f hf) (pw (cl f hf) n) = _
  rw [pw_cl hf n, rMul_cl]
  exact cl_congr (mz_comm _ _)
theorem mz_TS (f : Nat → Int) : mz TS f = fun k => if k = 0 then 0 else f (k - 1) := by
 funext k
 unfold mz
 cases k with
 | zero => rw [cs_s, cs_z]; simp [TS]
 | succ k =>
  rw [cs_front, cs_front, cs_zero k (fun i hi => by unfold TS; rw [if_neg (by omega), Int.zero_mul])]
  simp [TS]
/-- m is monic of the degree d -/
def monS (d : Nat) (m : Nat → Int) : Prop := m d = 1 ∧ ∀ k, d < k → m k = 0
theorem mz_mono (c : Int) (j : Nat) (m : Nat → Int) (k : Nat) : mz (fun i => if i = j then c else 0) m k = if j ≤ k then c * m (k - j) else 0 := by
 unfold mz
 by_cases h : j ≤ k
 · rw [if_pos h]
   have h1 : cs (k + 1) (fun i => (if i = j then c else 0) * m (k - i)) = cs (j + 1 + (k - j)) (fun i => (if i = j then c else 0) * m (k - i)) := by rw [show j + 1 + (k - j) = k + 1 by omega]
   have more : ∀ d, cs (j + 1 + d) (fun i => (if i = j then c else 0) * m (k - i)) = cs (j + 1) (fun i => (if i = j then c else 0) * m (k - i)) := by
    intro d
    induction d with
    | zero => rfl
    | succ d ih => rw [← Nat.add_assoc, cs_s, ih, if_neg (by omega), Int.zero_mul, Int.add_zero]
   rw [h1, more, cs_s, cs_zero j (fun i hi => by rw [if_neg (by omega), Int.zero_mul]), if_pos rfl]
   omega
 · rw [if_neg h]
   exact cs_zero _ (fun i hi => by show (if i = j then c else 0) * _ = 0; rw [if_neg (by omega), Int.zero_mul])
theorem fin_mono (c : Int) (j : Nat) : fin (fun i => if i = j then c else 0) := ⟨j + 1, fun k hk => by show (if k = j then c else 0) = 0; rw [if_neg (by omega)]⟩
/-- every one has a rest of a lesser degree -/
theorem rest_ex {d : Nat} (hp : 0 < p) (hm : monS d m) : ∀ (i : Nat) (f : Nat → Int), (∀ k, d + i ≤ k → f k = 0) → ∃ g : Nat → Int, (∀ k, 0 ≤ g k ∧ g k < p) ∧ (∀ k, d ≤ k → g k = 0) ∧ rm p m f g
 | 0, f, hf => by
  refine ⟨fun k => f k % p, fun k => ⟨Int.emod_nonneg _ (by omega), Int.emod_lt_of_pos _ hp⟩, fun k hk => ?_, rm_of_cg fun k => ?_⟩
  · show f k % p = 0
    rw [hf k (by omega)]; simp
  · exact Int.dvd_self_sub_emod
 | i + 1, f, hf => by
  obtain ⟨c, hc⟩ : ∃ c, c = f (d + i) := ⟨_, rfl⟩
  obtain ⟨g, h1, h2, h3⟩ := rest_ex hp hm i (sz f (mz (fun j => if j = i then c else 0) m)) (by
   intro k hk
   unfold sz
   rw [mz_mono, if_pos (by omega)]
   by_cases e : k = d + i
   · subst e
     rw [show d + i - i = d by omega, hm.1, ← hc]
     omega
   · rw [hf k (by omega), hm.2 (k - i) (by omega)]; simp)
  refine ⟨g, h1, h2, rm_trans ?_ h3⟩
  refine ⟨_, fin_mono c i, fun k => ⟨0, ?_⟩⟩
  unfold sz
  omega
end
/-- no product is divided without one of the factors -/
def euclS (p : Int) (m : Nat → Int) : Prop := ∀ a b : Nat → Int, fin a → fin b → rm p m (mz a b) zS → rm p m a zS ∨ rm p m b zS
theorem dvd_small {p x : Int} (h : p ∣ x) (h1 : -p < x) (h2 : x < p) : x = 0 := by
 obtain ⟨c, rfl⟩ := h
 by_cases h4 : c = 0
 · rw [h4, Int.mul_zero]
 · exfalso
   have hp : 0 < p := by omega
   by_cases h5 : 0 < c
   · have : p * 1 ≤ p * c := Int.mul_le_mul_of_nonneg_left (by omega) (by omega)
     omega
   · have : p * c ≤ p * (-1) := Int.mul_le_mul_of_nonneg_left (by omega) (by omega)
     omega
end Go.Proofs.Ytobcdekochenfaa
set_option linter.unusedVariables false
namespace Go.Proofs.Ytobcdekochenfaa
attribute [local irreducible] deg invN
/-- cells up to 127 as a series -/
def lw (f : Nat → Nat) : Nat → Int := fun k => if k < 128 then (f k : Int) else 0
theorem lw_cut (f : Nat → Nat) : lw (cut f) = lz f := by
 funext k; unfold lw lz
 by_cases h : k < 128
 · rw [if_pos h]
 · rw [if_neg h, zcz f (by omega)]; rfl
/-- a polynomial's cells, all of them -/
def ln (f : Nat → Nat) : Nat → Int := fun k => (f k : Int)
theorem lz_above {b : Nat → Nat} {m : Nat} (hb : deg b = (m : Int)) {k : Nat} (hk : m < k) : lz b k = 0 := by
 unfold lz
 by_cases h : k < 64
 · rw [cut_in b h, zero_above (f := b) (k := k) (by omega) h]; rfl
 · rw [zcz b (by omega)]; rfl
theorem take_dvd {p A c b : Nat} (hc : c ≤ p) : (p : Int) ∣ (A : Int) - ((c : Int) * (b : Int) + (((A + (p - c) * b) % p : Nat) : Int)) := by
 have h1 := mod_dvd p (A + (p - c) * b)
 have h2 : ((A + (p - c) * b : Nat) : Int) = (A : Int) + (p : Int) * (b : Int) - (c : Int) * (b : Int) := by
  have : ((p - c : Nat) : Int) = (p : Int) - (c : Int) := by omega
  rw [Int.natCast_add, Int.natCast_mul, this, Int.sub_mul]; omega
 rw [h2] at h1
 obtain ⟨x, hx⟩ := h1
 refine ⟨-x - (b : Int), ?_⟩
 rw [Int.mul_sub, Int.mul_neg]
 omega
theorem stp_cg {p inv m n : Nat} {b a : Nat → Nat} (hp : 0 < p) (hb : deg b = (m : Int)) (hmn : m ≤ n) (hn : n < 128) :
 cg p (lw a) (az (mz (fun i => if i = n - m then ((a n * inv % p : Nat) : Int) else 0) (lz b)) (lw (stp p inv m b n a))) := by
 obtain ⟨hm6, _, _⟩ := deg_top hb
 intro k
 obtain ⟨c, hc⟩ : ∃ c, c = a n * inv % p := ⟨_, rfl⟩
 have hcp : c < p := by rw [hc]; exact Nat.mod_lt _ hp
 unfold az
 rw [mz_mono, ← hc]
 unfold lw stp
 by_cases hk : k < 128
 · rw [if_pos hk, if_pos hk]
   by_cases h : n - m ≤ k ∧ k ≤ n
   · rw [if_pos h, if_pos h.1, ← hc]
     have : lz b (k - (n - m)) = (b (k - (n - m)) : Int) := by unfold lz; rw [cut_in b (by omega)]
     rw [this]
     exact take_dvd (by omega)
   · rw [if_neg h]
     by_cases h1 : n - m ≤ k
     · rw [if_pos h1, lz_above hb (by omega)]; exact ⟨0, by omega⟩
     · rw [if_neg h1]; exact ⟨0, by omega⟩
 · rw [if_neg hk, if_neg hk, if_pos (by omega), lz_above hb (by omega)]; exact ⟨0, by omega⟩
theorem qS_fin (p inv m : Nat) (b a : Nat → Nat) (i : Nat) : fin (ln (qS p inv m b a i)) := ⟨128, fun k hk => by unfold ln qS; rw [if_neg (by omega)]; rfl⟩
theorem qS_az {p inv m : Nat} (b a : Nat → Nat) {i : Nat} (hi : i + m ≤ 127) : ln (qS p inv m b a (i + 1)) = az (ln (qS p inv m b a i)) (fun j => if j = 127 - i - m then ((dS p inv m b a i (127 - i) * inv % p : Nat) : Int) else 0) := by
 funext k
 show ((qS p inv m b a (i + 1) k : Nat) : Int) = ((qS p inv m b a i k : Nat) : Int) + (if k = 127 - i - m then ((dS p inv m b a i (127 - i) * inv % p : Nat) : Int) else 0)
 rw [← qS_next b a hi k]
 unfold upd
 by_cases h : k = 127 - i - m
 · rw [if_pos h, if_pos h]
   have : qS p inv m b a i k = 0 := by unfold qS; rw [if_neg (by omega)]
   rw [this]; simp
 · rw [if_neg h, if_neg h]; simp
theorem dS_cg {p inv m : Nat} {b a : Nat → Nat} (hp : 0 < p) (hb : deg b = (m : Int)) : ∀ i, i + m ≤ 128 → cg p (lw a) (az (mz (ln (qS p inv m b a i)) (lz b)) (lw (dS p inv m b a i)))
 | 0, _ => by
  intro k
  unfold az
  have : mz (ln (qS p inv m b a 0)) (lz b) k = 0 := cs_zero _ (fun j _ => by unfold ln; rw [qS_zero]; simp)
  rw [this, dS_zero]; exact ⟨0, by omega⟩
 | i + 1, hi => by
  have ih := dS_cg (inv := inv) (b := b) (a := a) hp hb i (by omega)
  have hs := stp_cg (inv := inv) (a := dS p inv m b a i) hp hb (n := 127 - i) (by omega) (by omega)
  rw [qS_az b a (by omega), mz_az, dS_succ]
  intro k
  have h1 := ih k
  have h2 := hs k
  unfold az at *
  have := Int.dvd_add h1 h2
  rw [show lw a k - (mz (ln (qS p inv m b a i)) (lz b) k + lw (dS p inv m b a i) k) + (lw (dS p inv m b a i) k - (mz (fun j => if j = 127 - i - m then ((dS p inv m b a i (127 - i) * inv % p : Nat) : Int) else 0) (lz b) k + lw (stp p inv m b (127 - i) (dS p inv m b a i)) k)) = lw a k - (mz (ln (qS p inv m b a i)) (lz b) k + mz (fun j => if j = 127 - i - m then ((dS p inv m b a i (127 - i) * inv % p : Nat) : Int) else 0) (lz b) k + lw (stp p inv m b (127 - i) (dS p inv m b a i)) k) by omega] at this
  exact this
/-- long division leads back -/
theorem divW {p inv m : Nat} {b a : Nat → Nat} (hp : 0 < p) (hb : deg b = (m : Int)) : cg p (lw a) (az (mz (ln (quoW p inv m b a)) (lz b)) (lw (resW p inv m b a))) := by
 obtain ⟨hm6, _, _⟩ := deg_top hb
 exact dS_cg hp hb (128 - m) (by omega)
theorem rmW {p inv m : Nat} {b a : Nat → Nat} (hp : 0 < p) (hb : deg b = (m : Int)) : rm p (lz b) (lw a) (lw (resW p inv m b a)) := by
 refine ⟨_, qS_fin p inv m b a (128 - m), fun k => ?_⟩
 have := divW (inv := inv) (a := a) hp hb k
 unfold az at this
 unfold sz
 show (p : Int) ∣ lw a k - lw (resW p inv m b a) k - mz (ln (quoW p inv m b a)) (lz b) k
 rwa [show lw a k - lw (resW p inv m b a) k - mz (ln (quoW p inv m b a)) (lz b) k = lw a k - (mz (ln (quoW p inv m b a)) (lz b) k + lw (resW p inv m b a) k) by omega]
theorem quoP_out {p : Nat} {a b : Nat → Nat} (hp : 0 < p) (ha : ∀ k, k < 64 → a k < p) (hb : 0 ≤ deg b) {k : Nat} (hk : 64 ≤ k) : quoP p a b k = 0 := by
 obtain ⟨m, hm⟩ : ∃ m : Nat, deg b = (m : Int) := ⟨(deg b).toNat, by omega⟩
 rw [quoP_at hm]
 unfold quoW qS
 split
 · rename_i h
   unfold qd
   rw [dS_stay (N := 64) (fun j _ => cut_all hp ha j) (fun j h1 _ => zcz a h1) _ (by omega) _ (by omega), zcz a (by omega), Nat.zero_mul, Nat.zero_mod]
 · rfl
theorem resP_out {p : Nat} {a b : Nat → Nat} (hp : p = 2 ∨ p = 3 ∨ p = 5 ∨ p = 7) (ha : ∀ k, k < 64 → a k < p) (hbp : ∀ k, k < 64 → b k < p) (hb : 0 ≤ deg b) {k : Nat} (hk : 64 ≤ k) (hk2 : k < 128) : resP p a b k = 0 := by
 have hp0 : 0 < p := by omega
 obtain ⟨m, hm⟩ : ∃ m : Nat, deg b = (m : Int) := ⟨(deg b).toNat, by omega⟩
 obtain ⟨m1, m2, m3⟩ := deg_top hm
 rw [resP_at hm]
 unfold resW
 exact dS_top hp0 (fun j _ => cut_all hp0 ha j) (invF hp m2 (hbp m m1)).2.2.1 _ (by omega) k (by omega) hk2
/-- a is the quotient times b, and the rest -/
theorem divP {p : Nat} {a b : Nat → Nat} (hp : p = 2 ∨ p = 3 ∨ p = 5 ∨ p = 7) (ha : ∀ k, k < 64 → a k < p) (hbp : ∀ k, k < 64 → b k < p) (hb : 0 ≤ deg b) : cg p (lz a) (az (mz (lz (quoP p a b)) (lz b)) (lz (resP p a b))) := by
 have hp0 : 0 < p := by omega
 obtain ⟨m, hm⟩ : ∃ m : Nat, deg b = (m : Int) := ⟨(deg b).toNat, by omega⟩
 have h := divW (inv := invN p (b m)) (a := cut a) hp0 hm
 rw [lw_cut, ← quoP_at hm, ← resP_at hm] at h
 have e1 : ln (quoP p a b) = lz (quoP p a b) := by
  funext k; unfold ln lz
  by_cases hk : k < 64
  · rw [cut_in _ hk]
  · rw [zcz _ (by omega), quoP_out hp0 ha hb (by omega)]
 have e2 : lw (resP p a b) = lz (resP p a b) := by
  funext k; unfold lw lz
  by_cases hk : k < 64
  · rw [cut_in _ hk, if_pos (by omega)]
  · rw [zcz _ (by omega)]
    by_cases hk2 : k < 128
    · rw [if_pos hk2, resP_out hp ha hbp hb (by omega) hk2]
    · rw [if_neg hk2]; rfl
 rw [e1, e2] at h
 exact h
/-- m divides f -/
def dv (p : Nat) (m f : Nat → Int) : Prop := rm p m f zS
theorem dv_congr {p : Nat} {m f g : Nat → Int} (h : cg p f g) : dv p m f ↔ dv p m g :=
 ⟨fun h1 => rm_trans (rm_symm (rm_of_cg h)) h1, fun h1 => rm_trans (rm_of_cg h) h1⟩
theorem az_zS (f : Nat → Int) : az f zS = f := by rw [az_comm]; exact zS_az f
theorem dv_add {p : Nat} {m f g : Nat → Int} (h1 : dv p m f) (h2 : dv p m g) : dv p m (az f g) := by
 have := rm_az h1 h2
 rwa [zS_az] at this
theorem mz_zS (f : Nat → Int) : mz f zS = zS := by
 funext k; exact cs_zero _ (fun i _ => Int.mul_zero _)
theorem zS_mz (f : Nat → Int) : mz zS f = zS := by rw [mz_comm]; exact mz_zS f
theorem cz_zS (c : Int) : cz c zS = zS := by funext k; exact Int.mul_zero _
theorem dv_mul {p : Nat} {m f g : Nat → Int} (hg : fin g) (h : dv p m f) : dv p m (mz g f) := by
 have := rm_mz hg h
 rw [zS_mz] at this
 unfold dv; rwa [mz_comm]
theorem dv_cz {p : Nat} {m f : Nat → Int} (c : Int) (h : dv p m f) : dv p m (cz c f) := by
 have := rm_cz c h
 rwa [cz_zS] at this
theorem dv_sub {p : Nat} {m f g : Nat → Int} (h1 : dv p m (az f g)) (h2 : dv p m g) : dv p m f := by
 have := dv_add h1 (dv_cz (-1) h2)
 have e : az (az f g) (cz (-1) g) = f := by funext k; unfold az cz; omega
 rwa [e] at this
theorem dv_self {p : Nat} (m : Nat → Int) : dv p m m := by
 have := rm_zero (p := p) (m := m) fin_oneS
 have e : mz oneS m = m := mz_one m
 rw [e] at this; exact this
theorem dv_zS {p : Nat} (m : Nat → Int) : dv p m zS := rm_refl _ _ _
theorem dv_trans {p : Nat} {a b c : Nat → Int} (h1 : dv p a b) (h2 : dv p b c) : dv p a c := by
 obtain ⟨q, hq, hc⟩ := h2
 have h3 : cg p c (mz q b) := fun k => by have := hc k; unfold sz zS at this; rwa [Int.sub_zero] at this
 exact (dv_congr h3).2 (dv_mul hq h1)
theorem dv_ab {p : Nat} {a b : Nat → Nat} {c : Nat → Int} (hp : p = 2 ∨ p = 3 ∨ p = 5 ∨ p = 7) (ha : ∀ k, k < 64 → a k < p) (hbp : ∀ k, k < 64 → b k < p) (hb : 0 ≤ deg b) :
 (dv p c (lz a) ∧ dv p c (lz b)) ↔ (dv p c (lz b) ∧ dv p c (lz (resP p a b))) := by
 have h := divP hp ha hbp hb
 constructor
 · rintro ⟨h1, h2⟩
   have h3 := (dv_congr h).1 h1
   rw [az_comm] at h3
   exact ⟨h2, dv_sub h3 (dv_mul (fin_lz _) h2)⟩
 · rintro ⟨h1, h2⟩
   exact ⟨(dv_congr h).2 (dv_add (dv_mul (fin_lz _) h1) h2), h1⟩
/-- a rest 0 is a divisor -/
theorem res_zero_iff {p : Nat} {a b : Nat → Nat} (hp : p = 2 ∨ p = 3 ∨ p = 5 ∨ p = 7) (ha : ∀ k, k < 64 → a k < p) (hbp : ∀ k, k < 64 → b k < p) (hb : 0 ≤ deg b) : deg (resP p a b) < 0 ↔ dv p (lz b) (lz a) := by
 have hp0 : 0 < p := by omega
 have h := divP hp ha hbp hb
 have zer : ∀ f : Nat → Nat, deg f < 0 → lz f = zS := by
  intro f hf
  funext k; unfold lz zS
  by_cases hk : k < 64
  · rw [cut_in f hk, deg_neg hf k hk]; rfl
  · rw [zcz f (by omega)]; rfl
 constructor
 · intro h0
   rw [zer _ h0, az_zS] at h
   exact (dv_congr h).2 (dv_mul (fin_lz _) (dv_self _))
 · intro h0
   have h1 := (dv_congr h).1 h0
   rw [az_comm] at h1
   have h2 := dv_sub h1 (dv_mul (fin_lz (quoP p a b)) (dv_self (p := p) (lz b)))
   obtain ⟨m, hm⟩ : ∃ m : Nat, deg b = (m : Int) := ⟨(deg b).toNat, by omega⟩
   obtain ⟨m1, m2, m3⟩ := deg_top hm
   obtain ⟨r1, r2⟩ := resP_deg hp ha hbp hb
   obtain ⟨_, _, i3, _⟩ := invF hp m2 (hbp m m1)
   have hu := rm_unique (d := m) (v := (invN p (b m) : Int)) (m := lz b) (f := lz (resP p a b)) (g := zS) (p := p) (by
    unfold lz; rw [cut_in b m1]
    have := mod_dvd p (invN p (b m) * b m)
    rw [i3] at this
    obtain ⟨x, hx⟩ := this
    rw [Int.natCast_mul, Int.mul_comm] at hx
    exact ⟨-x, by rw [Int.mul_neg]; omega⟩) (fun k hk => lz_above hm hk) (fun k hk => by
    have : lz (resP p a b) k = 0 := by
     unfold lz
     by_cases hk2 : k < 64
     · rw [cut_in _ hk2, zero_above (f := resP p a b) (k := k) (by omega) hk2]; rfl
     · rw [zcz _ (by omega)]; rfl
    rw [this]; exact ⟨0, by unfold zS; omega⟩) h2
   have hz : ∀ k, k < 64 → resP p a b k = 0 := by
    intro k hk
    have h3 := hu k
    unfold lz zS at h3
    rw [cut_in _ hk] at h3
    have h4 := resP_lt hp0 ha (b := b) k hk
    have := dvd_small h3 (by omega) (by omega)
    omega
   exact deg_neg_iff.2 hz
end Go.Proofs.Ytobcdekochenfaa
set_option linter.unusedVariables false
namespace Go.Proofs.Ytobcdekochenfaa
attribute [local irreducible] deg invN quoP resP
theorem lz_neg {f : Nat → Nat} (hf : deg f < 0) : lz f = zS := by
 funext k; unfold lz zS
 by_cases hk : k < 64
 · rw [cut_in f hk, deg_neg hf k hk]; rfl
 · rw [zcz f (by omega)]; rfl
theorem subP_cg {p : Nat} {f g : Nat → Nat} (hg : ∀ k, k < 64 → g k < p) : cg p (lz (subP p f g)) (az (lz f) (cz (-1) (lz g))) := by
 intro k
 show (p : Int) ∣ ((cut (subP p f g) k : Nat) : Int) - (((cut f k : Nat) : Int) + (-1) * ((cut g k : Nat) : Int))
 by_cases hk : k < 64
 · rw [cut_in _ hk, cut_in _ hk, cut_in _ hk]
   unfold subP
   have h1 := mod_dvd p (f k + p - g k)
   have := hg k hk
   have h2 : ((f k + p - g k : Nat) : Int) = (f k : Int) + (p : Int) - (g k : Int) := by omega
   rw [h2] at h1
   obtain ⟨x, hx⟩ := h1
   exact ⟨x + 1, by rw [Int.mul_add]; omega⟩
 · rw [zcz _ (by omega), zcz _ (by omega), zcz _ (by omega)]; exact ⟨0, by simp⟩
theorem sclP_cg {p : Nat} (f : Nat → Nat) (c : Nat) : cg p (lz (sclP p f c)) (cz (c : Int) (lz f)) := by
 intro k
 show (p : Int) ∣ ((cut (sclP p f c) k : Nat) : Int) - (c : Int) * ((cut f k : Nat) : Int)
 by_cases hk : k < 64
 · rw [cut_in _ hk, cut_in _ hk]
   unfold sclP
   have h1 := mod_dvd p (f k * c)
   rwa [Int.natCast_mul, Int.mul_comm (f k : Int)] at h1
 · rw [zcz _ (by omega), zcz _ (by omega)]; exact ⟨0, by simp⟩
theorem cg_cz {p : Int} {f g : Nat → Int} (c : Int) (h : cg p f g) : cg p (cz c f) (cz c g) := fun k => by
 unfold cz; rw [← Int.mul_sub]; exact Int.dvd_mul_of_dvd_right (h k)
theorem cg_eq {p : Int} {f g : Nat → Int} (h : f = g) : cg p f g := by subst h; exact cg_refl p f
/-- one column of the search -/
theorem lin_next {p : Nat} {a b q r u x v y u2 v2 : Nat → Int} {A B : Nat → Int} (hq : fin q) (hx : fin x) (hy : fin y) (hA : fin A) (hB : fin B)
 (h1 : cg p a (az (mz u A) (mz v B))) (h2 : cg p b (az (mz x A) (mz y B))) (h3 : cg p a (az (mz q b) r)) (h4 : cg p u2 (az u (cz (-1) (mz q x)))) (h5 : cg p v2 (az v (cz (-1) (mz q y)))) :
 cg p r (az (mz u2 A) (mz v2 B)) := by
 have e1 : cg p (mz u2 A) (az (mz u A) (cz (-1) (mz q (mz x A)))) := by
  refine cg_trans (cg_mz h4) (cg_eq ?_)
  rw [mz_az, mz_cz, mz_assoc]
 have e2 : cg p (mz v2 B) (az (mz v B) (cz (-1) (mz q (mz y B)))) := by
  refine cg_trans (cg_mz h5) (cg_eq ?_)
  rw [mz_az, mz_cz, mz_assoc]
 have e3 : cg p (mz q b) (az (mz q (mz x A)) (mz q (mz y B))) := by
  refine cg_trans (cg_mz2 (cg_refl _ q) h2) (cg_eq ?_)
  rw [mz_az2]
 intro k
 have d1 := e1 k; have d2 := e2 k; have d3 := e3 k; have d4 := h1 k; have d5 := h3 k
 unfold az cz at *
 obtain ⟨x1, h1⟩ := d1; obtain ⟨x2, h2⟩ := d2; obtain ⟨x3, h3⟩ := d3; obtain ⟨x4, h4⟩ := d4; obtain ⟨x5, h5⟩ := d5
 refine ⟨x4 - x5 - x3 - x1 - x2, ?_⟩
 rw [Int.mul_sub, Int.mul_sub, Int.mul_sub, Int.mul_sub]
 omega
theorem bz_main {p : Nat} {A B : Nat → Int} (hp : p = 2 ∨ p = 3 ∨ p = 5 ∨ p = 7) (hA : fin A) (hB : fin B) : ∀ (n : Nat) (a b u x v y : Nat → Nat), bzI p a b u x v y → deg b + 1 ≤ (n : Int) →
 cg p (lz a) (az (mz (lz u) A) (mz (lz v) B)) → cg p (lz b) (az (mz (lz x) A) (mz (lz y) B)) →
 (∀ k, k < 64 → (bzRun p n a b u x v y).1 k < p) ∧ 0 ≤ deg (bzRun p n a b u x v y).1 ∧
 cg p (lz (bzRun p n a b u x v y).1) (az (mz (lz (bzRun p n a b u x v y).2.1) A) (mz (lz (bzRun p n a b u x v y).2.2) B)) ∧
 (∀ c, dv p c (lz (bzRun p n a b u x v y).1) ↔ (dv p c (lz a) ∧ dv p c (lz b))) ∧
 (∀ k, k < 64 → (bzRun p n a b u x v y).2.1 k < p) ∧ (∀ k, k < 64 → (bzRun p n a b u x v y).2.2 k < p)
 | n, a, b, u, x, v, y, hI, hn, h1, h2 => by
  have hp0 : 0 < p := by omega
  by_cases hz : deg b < 0
  · rw [bzRun_stop hz]
    obtain ⟨i1, i2, i3, _, i5, _, _, _, _, _, i11⟩ := hI
    refine ⟨i1, (by show 0 ≤ deg a; omega), h1, fun c => ?_, i3, i5⟩
    rw [lz_neg hz]
    exact ⟨fun h => ⟨h, dv_zS c⟩, fun h => h.1⟩
  · cases n with
    | zero => omega
    | succ n =>
     obtain ⟨hI', hdr, hdx, hdy⟩ := bzI_next hp hI hz
     rw [bzRun_go hz]
     obtain ⟨i1, i2, i3, i4, i5, i6, _⟩ := hI
     have hb0 : 0 ≤ deg b := by omega
     have step := lin_next (p := p) (fin_lz _) (fin_lz x) (fin_lz y) hA hB h1 h2 (divP hp i1 i2 hb0)
      (cg_trans (subP_cg (fun k _ => prd_lt hp0 k)) (cg_az (cg_refl _ _) (cg_cz _ (prd_cg hp0 hdx))))
      (cg_trans (subP_cg (fun k _ => prd_lt hp0 k)) (cg_az (cg_refl _ _) (cg_cz _ (prd_cg hp0 hdy))))
     obtain ⟨r1, r2, r3, r4, r5, r6⟩ := bz_main hp hA hB n b (resP p a b) x (subP p u (prd p (quoP p a b) x)) y (subP p v (prd p (quoP p a b) y)) hI' (by push_cast at hn; omega) h2 step
     exact ⟨r1, r2, r3, fun c => (r4 c).trans (dv_ab hp i1 i2 hb0).symm, r5, r6⟩
theorem dv_unit {p : Nat} {m f : Nat → Int} {c v : Int} (hv : (p : Int) ∣ c * v - 1) : dv p m (cz c f) ↔ dv p m f := by
 refine ⟨fun h => ?_, dv_cz c⟩
 have h2 := dv_cz v h
 refine (dv_congr (fun k => ?_)).1 h2
 unfold cz
 obtain ⟨x, hx⟩ := hv
 refine ⟨f k * x, ?_⟩
 have : v * (c * f k) - f k = (c * v - 1) * f k := by rw [Int.sub_mul, Int.one_mul, ← Int.mul_assoc, Int.mul_comm v c]
 rw [this, hx, Int.mul_assoc, Int.mul_comm x]
/-- monic -/
def mon (f : Nat → Nat) (d : Nat) : Prop := deg f = (d : Int) ∧ f d = 1
theorem mon_S {f : Nat → Nat} {d : Nat} (h : mon f d) : monS d (lz f) := by
 obtain ⟨h1, _, _⟩ := deg_top h.1
 refine ⟨?_, fun k hk => lz_above h.1 hk⟩
 unfold lz; rw [cut_in f h1, h.2]; rfl
/-- the greatest common divisor: a sum of multiples, monic, and divided by all common divisors alone -/
theorem bz_all {p : Nat} {a b : Nat → Nat} (hp : p = 2 ∨ p = 3 ∨ p = 5 ∨ p = 7) (ha : ∀ k, k < 64 → a k < p) (hb : ∀ k, k < 64 → b k < p) (h : 0 ≤ deg a ∨ 0 ≤ deg b) :
 (∀ k, bzD p a b k < p) ∧ (∃ d, mon (bzD p a b) d) ∧ cg p (lz (bzD p a b)) (az (mz (lz (bzU p a b)) (lz a)) (mz (lz (bzW p a b)) (lz b))) ∧ (∀ c, dv p c (lz (bzD p a b)) ↔ (dv p c (lz a) ∧ dv p c (lz b))) := by
 have hp0 : 0 < p := by omega
 have one : lz oneP = oneS := by
  funext k; unfold lz oneS
  by_cases hk : k < 64
  · rw [cut_in _ hk]; unfold oneP; split <;> rfl
  · rw [zcz _ (by omega), if_neg (by omega)]; rfl
 have zer : lz (fun _ => 0) = zS := lz_neg (deg_neg_iff.2 (fun _ _ => rfl))
 have e1 : ∀ f, mz oneS f = f := mz_one
 obtain ⟨r1, r2, r3, r4, r5, r6⟩ := bz_main hp (fin_lz a) (fin_lz b) 65 a b oneP (fun _ => 0) (fun _ => 0) oneP (bzI_start (by omega) ha hb h) (by have := zdb b; omega)
  (by rw [one, zer, e1, zS_mz, az_zS]; exact cg_refl _ _) (by rw [one, zer, e1, zS_mz, zS_az]; exact cg_refl _ _)
 have hV : bzV p a b = bzRun p 65 a b oneP (fun _ => 0) (fun _ => 0) oneP := rfl
 rw [← hV] at r1 r2 r3 r4
 obtain ⟨d, hd⟩ : ∃ d : Nat, deg (bzV p a b).1 = (d : Int) := ⟨(deg (bzV p a b).1).toNat, by omega⟩
 obtain ⟨d1, d2, d3⟩ := deg_top hd
 obtain ⟨i1, i2, i3, _⟩ := invF hp d2 (r1 d d1)
 have hc : bzC p a b = invN p ((bzV p a b).1 d) := by unfold bzC; rw [hd]; rfl
 obtain ⟨c, hcc⟩ : ∃ c, c = invN p ((bzV p a b).1 d) := ⟨_, rfl⟩
 rw [← hcc] at hc i1 i2 i3
 have hD : bzD p a b = sclP p (bzV p a b).1 c := by unfold bzD; rw [hc]
 have hU : bzU p a b = sclP p (bzV p a b).2.1 c := by unfold bzU; rw [hc]
 have hW : bzW p a b = sclP p (bzV p a b).2.2 c := by unfold bzW; rw [hc]
 have lead : bzD p a b d = 1 := by rw [hD]; unfold sclP; rw [Nat.mul_comm]; exact i3
 have degD : deg (bzD p a b) = (d : Int) := by
  have h1 := deg_le (f := bzD p a b) (d := (d : Int)) (by omega) (fun k hk hk2 => by rw [hD]; unfold sclP; rw [d3 k (by omega) hk2, Nat.zero_mul, Nat.zero_mod])
  have h2 : ¬ deg (bzD p a b) < (d : Int) := by
   intro h
   have := zero_above h d1
   omega
  omega
 refine ⟨fun k => by rw [hD]; exact Nat.mod_lt _ hp0, ⟨d, degD, lead⟩, ?_, fun c' => ?_⟩
 · rw [hD, hU, hW]
   have s1 := sclP_cg (p := p) (bzV p a b).1 c
   have s2 := cg_mz (g := lz a) (sclP_cg (p := p) (bzV p a b).2.1 c)
   have s3 := cg_mz (g := lz b) (sclP_cg (p := p) (bzV p a b).2.2 c)
   rw [mz_cz] at s2 s3
   refine cg_trans s1 (cg_trans (cg_cz _ r3) (cg_trans (cg_eq ?_) (cg_symm (cg_az s2 s3))))
   funext k; unfold az cz; rw [Int.mul_add]
 · rw [hD]
   refine (dv_congr (sclP_cg (bzV p a b).1 c)).trans ((dv_unit (v := ((bzV p a b).1 d : Int)) ?_).trans (r4 c'))
   have := mod_dvd p (c * (bzV p a b).1 d)
   rw [i3] at this
   obtain ⟨x, hx⟩ := this
   rw [Int.natCast_mul] at hx
   exact ⟨-x, by rw [Int.mul_neg]; omega⟩
/-- a divisor of something other than 0 has no greater degree -/
theorem dv_deg {p : Nat} {f g : Nat → Nat} {d : Nat} (hg : ∀ k, k < 64 → g k < p) (hm : mon f d) (h : dv p (lz f) (lz g)) (h0 : 0 ≤ deg g) : (d : Int) ≤ deg g := by
 by_cases hlt : (d : Int) ≤ deg g
 · exact hlt
 · exfalso
   have hu := rm_unique (d := d) (v := 1) (m := lz f) (f := lz g) (g := zS) (p := p) (by rw [(mon_S hm).1]; exact ⟨0, by omega⟩) (mon_S hm).2 (fun k hk => by
    have : lz g k = 0 := by
     unfold lz
     by_cases hk2 : k < 64
     · rw [cut_in _ hk2, zero_above (f := g) (k := k) (by omega) hk2]; rfl
     · rw [zcz _ (by omega)]; rfl
    rw [this]; exact ⟨0, by unfold zS; omega⟩) h
   have : deg g < 0 := deg_neg_iff.2 (fun k hk => by
    have h3 := hu k
    unfold lz zS at h3
    rw [cut_in _ hk] at h3
    have := hg k hk
    have := dvd_small h3 (by omega) (by omega)
    omega)
   omega
/-- no divisor of a degree between -/
def irr (p : Nat) (m : Nat → Nat) (d : Nat) : Prop := 1 ≤ d ∧ mon m d ∧ (∀ k, m k < p) ∧ ∀ (g : Nat → Nat) (j : Nat), (∀ k, g k < p) → mon g j → dv p (lz g) (lz m) → j = 0 ∨ d ≤ j
theorem one_of_mon0 {f : Nat → Nat} (h : mon f 0) : lz f = oneS := by
 funext k; unfold lz oneS
 by_cases hk : k < 64
 · rw [cut_in _ hk]
   by_cases h0 : k = 0
   · subst h0; rw [if_pos rfl, h.2]; rfl
   · rw [if_neg h0, zero_above (f := f) (k := k) (by have := h.1; omega) hk]; rfl
 · rw [zcz _ (by omega), if_neg (by omega)]; rfl
theorem irr_euc {p : Nat} {m : Nat → Nat} {d : Nat} (hp : p = 2 ∨ p = 3 ∨ p = 5 ∨ p = 7) (h : irr p m d) : euclS p (lz m) := by
 obtain ⟨hd, hm, hlt, hdiv⟩ := h
 have hp0 : 0 < p := by omega
 obtain ⟨d1, _, _⟩ := deg_top hm.1
 intro a b ha hb hab
 obtain ⟨N, hN⟩ := ha
 obtain ⟨g, g1, g2, g3⟩ := rest_ex (p := p) (by omega) (mon_S hm) N a (fun k hk => hN k (by omega))
 -- the rest as cells
 obtain ⟨r, hr⟩ : ∃ r : Nat → Nat, r = fun k => (g k).toNat := ⟨_, rfl⟩
 have hrp : ∀ k, r k < p := fun k => by rw [hr]; show (g k).toNat < p; have := g1 k; omega
 have hlz : lz r = g := by
  funext k; unfold lz
  by_cases hk : k < 64
  · rw [cut_in _ hk, hr]; have := g1 k; show ((g k).toNat : Int) = g k; omega
  · rw [zcz _ (by omega), g2 k (by omega)]; rfl
 by_cases h0 : deg r < 0
 · left
   rw [lz_neg h0] at hlz
   rw [← hlz] at g3
   exact g3
 · right
   obtain ⟨b1, ⟨j, b2⟩, b3, b4⟩ := bz_all (a := m) (b := r) hp (fun k _ => hlt k) (fun k _ => hrp k) (.inr (by omega))
   have hD := (b4 (lz (bzD p m r))).1 (dv_self _)
   have hj0 : j = 0 := by
    rcases hdiv _ j b1 b2 hD.1 with h | h
    · exact h
    · have h2 := dv_deg (fun k _ => hrp k) b2 hD.2 (by omega)
      have h3 : deg r ≤ (d : Int) - 1 := deg_le (by omega) (fun k hk hk2 => by rw [hr]; show (g k).toNat = 0; rw [g2 k (by omega)]; rfl)
      omega
   subst hj0
   rw [one_of_mon0 b2] at b3
   -- b = U m b + W r b
   have e1 : cg p b (az (mz (mz (lz (bzU p m r)) (lz m)) b) (mz (mz (lz (bzW p m r)) (lz r)) b)) := by
    have := cg_mz (g := b) b3
    rw [mz_az] at this
    have e : mz oneS b = b := mz_one b
    rwa [e] at this
   have q1 : dv p (lz m) (mz (mz (lz (bzU p m r)) (lz m)) b) := by
    rw [mz_comm]
    exact dv_mul hb (dv_mul (fin_lz _) (dv_self _))
   have q2 : dv p (lz m) (mz (mz (lz (bzW p m r)) (lz r)) b) := by
    rw [mz_assoc]
    refine dv_mul (fin_lz _) ?_
    rw [hlz]
    exact rm_trans (rm_symm (rm_mz hb g3)) hab
   exact (dv_congr e1).2 (dv_add q1 q2)
end Go.Proofs.Ytobcdekochenfaa
set_option linter.unusedVariables false
namespace Go.Proofs.Ytobcdekochenfaa
attribute [local irreducible] deg invN quoP resP
/-- the number with the digits f below n -/
def vl (p : Nat) (f : Nat → Nat) : Nat → Nat
 | 0 => 0
 | n + 1 => f 0 + p * vl p (fun k => f (k + 1)) n
theorem ofN_z (p N : Nat) : ofN p N 0 = N % p := by unfold ofN dgt; rw [Nat.pow_zero, Nat.div_one]
theorem ofN_s (p N k : Nat) : ofN p N (k + 1) = ofN p (N / p) k := by unfold ofN dgt; rw [Nat.pow_succ', Nat.div_div_eq_div_mul]
theorem ofN_lt {p : Nat} (hp : 0 < p) (N k : Nat) : ofN p N k < p := Nat.mod_lt _ hp
theorem vl_mod {p : Nat} {f : Nat → Nat} (hf : ∀ k, f k < p) (n : Nat) : vl p f (n + 1) % p = f 0 ∧ vl p f (n + 1) / p = vl p (fun k => f (k + 1)) n := by
 have h0 := hf 0
 show (f 0 + p * _) % p = f 0 ∧ (f 0 + p * _) / p = _
 rw [Nat.add_mul_mod_self_left, Nat.mod_eq_of_lt h0, Nat.add_mul_div_left _ _ (by omega), Nat.div_eq_of_lt h0, Nat.zero_add]
 exact ⟨rfl, rfl⟩
theorem ofN_vl {p : Nat} : ∀ n (f : Nat → Nat), (∀ k, f k < p) → ∀ k, k < n → ofN p (vl p f n) k = f k
 | 0, _, _, k, h => by omega
 | n + 1, f, hf, 0, _ => by rw [ofN_z]; exact (vl_mod hf n).1
 | n + 1, f, hf, k + 1, h => by rw [ofN_s, (vl_mod hf n).2]; exact ofN_vl n _ (fun k => hf (k + 1)) k (by omega)
theorem vl_lt {p : Nat} : ∀ n (f : Nat → Nat), (∀ k, f k < p) → vl p f n < p ^ n
 | 0, _, _ => by show 0 < p ^ 0; rw [Nat.pow_zero]; omega
 | n + 1, f, hf => by
  have h1 := vl_lt n _ (fun k => hf (k + 1))
  have h0 := hf 0
  show f 0 + p * vl p (fun k => f (k + 1)) n < p ^ (n + 1)
  rw [Nat.pow_succ']
  have : p * (vl p (fun k => f (k + 1)) n + 1) ≤ p * p ^ n := Nat.mul_le_mul_left p h1
  rw [Nat.mul_add] at this
  omega
theorem vl_ofN {p : Nat} (hp : 0 < p) : ∀ n N, N < p ^ n → vl p (ofN p N) n = N
 | 0, N, h => by rw [Nat.pow_zero] at h; show 0 = N; omega
 | n + 1, N, h => by
  have h1 := vl_ofN hp n (N / p) (by rw [Nat.div_lt_iff_lt_mul hp]; rwa [Nat.pow_succ] at h)
  have e : (fun k => ofN p N (k + 1)) = ofN p (N / p) := by funext k; exact ofN_s p N k
  show ofN p N 0 + p * vl p (fun k => ofN p N (k + 1)) n = N
  rw [e, h1, ofN_z]
  exact Nat.mod_add_div N p
theorem vl_snoc {p : Nat} : ∀ n (f : Nat → Nat), vl p f (n + 1) = vl p f n + f n * p ^ n
 | 0, f => by show f 0 + p * 0 = 0 + f 0 * p ^ 0; rw [Nat.pow_zero]; omega
 | n + 1, f => by
  show f 0 + p * vl p (fun k => f (k + 1)) (n + 1) = f 0 + p * vl p (fun k => f (k + 1)) n + f (n + 1) * p ^ (n + 1)
  rw [vl_snoc n, Nat.mul_add, Nat.pow_succ', Nat.mul_left_comm, Nat.add_assoc]
theorem vl_congr {p : Nat} : ∀ n {f g : Nat → Nat}, (∀ k, k < n → f k = g k) → vl p f n = vl p g n
 | 0, _, _, _ => rfl
 | n + 1, f, g, h => by
  show f 0 + p * vl p (fun k => f (k + 1)) n = g 0 + p * vl p (fun k => g (k + 1)) n
  rw [h 0 (by omega), vl_congr n (fun k hk => h (k + 1) (by omega))]
/-- the numbers of the monic polynomials of the degree n -/
def monL (p n : Nat) : List Nat := List.range' (p ^ n) (p ^ n)
theorem monL_mem {p n N : Nat} : N ∈ monL p n ↔ p ^ n ≤ N ∧ N < 2 * p ^ n := by
 unfold monL; rw [List.mem_range'_1]; omega
theorem ofN_high {p n N k : Nat} (hp : 2 ≤ p) (h : N < 2 * p ^ n) (hk : n < k) : ofN p N k = 0 := by
 unfold ofN dgt
 have h1 : p ^ (n + 1) ≤ p ^ k := Nat.pow_le_pow_right (by omega) hk
 have h2 : 2 * p ^ n ≤ p * p ^ n := Nat.mul_le_mul_right _ hp
 rw [Nat.pow_succ'] at h1
 rw [Nat.div_eq_of_lt (by omega), Nat.zero_mod]
theorem ofN_top {p n N : Nat} (hp : 2 ≤ p) (h1 : p ^ n ≤ N) (h2 : N < 2 * p ^ n) : ofN p N n = 1 := by
 unfold ofN dgt
 have hpos : 0 < p ^ n := Nat.pow_pos (by omega)
 have : N / p ^ n = 1 := by
  have e : N = (N - p ^ n) + p ^ n * 1 := by omega
  rw [e, Nat.add_mul_div_left _ _ hpos, Nat.div_eq_of_lt (by omega)]
 rw [this, Nat.mod_eq_of_lt (by omega)]
theorem mon_ofN {p n N : Nat} (hp : 2 ≤ p) (hn : n < 64) (h : N ∈ monL p n) : mon (ofN p N) n := by
 obtain ⟨h1, h2⟩ := monL_mem.1 h
 have ht := ofN_top hp h1 h2
 refine ⟨?_, ht⟩
 have a := deg_le (f := ofN p N) (d := (n : Int)) (by omega) (fun k hk _ => ofN_high hp h2 (by omega))
 have b : ¬ deg (ofN p N) < (n : Int) := by
  intro hlt
  have := zero_above hlt hn
  omega
 omega
theorem mon_num {p n : Nat} {f : Nat → Nat} (hp : 2 ≤ p) (hf : ∀ k, f k < p) (h : mon f n) : vl p f (n + 1) ∈ monL p n ∧ ∀ k, k < 64 → ofN p (vl p f (n + 1)) k = f k := by
 obtain ⟨n6, _, hz⟩ := deg_top h.1
 have hm : vl p f (n + 1) ∈ monL p n := by
  rw [monL_mem, vl_snoc, h.2]
  have := vl_lt n f hf
  omega
 refine ⟨hm, fun k hk => ?_⟩
 by_cases hkn : k < n + 1
 · exact ofN_vl (n + 1) f hf k hkn
 · rw [ofN_high hp (monL_mem.1 hm).2 (by omega), hz k (by omega) hk]
theorem mon_inj {p n N M : Nat} (hp : 2 ≤ p) (hn : n < 64) (h1 : N ∈ monL p n) (h2 : M ∈ monL p n) (h : ∀ k, k < 64 → ofN p N k = ofN p M k) : N = M := by
 have b : ∀ N, N ∈ monL p n → N < p ^ (n + 1) := by
  intro N hN
  have := (monL_mem.1 hN).2
  have h2 : 2 * p ^ n ≤ p * p ^ n := Nat.mul_le_mul_right _ hp
  rw [Nat.pow_succ']; omega
 have e1 := vl_ofN (p := p) (by omega) (n + 1) N (b N h1)
 have e2 := vl_ofN (p := p) (by omega) (n + 1) M (b M h2)
 rw [← e1, ← e2]
 exact vl_congr _ (fun k hk => h k (by omega))
/-- what is divided without rest -/
theorem mz_above {q m : Nat → Nat} {j d : Nat} (hq : deg q = (j : Int)) (hm : deg m = (d : Int)) {k : Nat} (hk : j + d < k) : mz (lz q) (lz m) k = 0 := by
 refine cs_zero _ (fun i _ => ?_)
 by_cases h : j < i
 · rw [lz_above hq h, Int.zero_mul]
 · rw [lz_above hm (by omega), Int.mul_zero]
theorem quo_exact {p d : Nat} {a m : Nat → Nat} (hp : p = 2 ∨ p = 3 ∨ p = 5 ∨ p = 7) (ha : ∀ k, k < 64 → a k < p) (hmp : ∀ k, k < 64 → m k < p) (hm : mon m d) (h0 : 0 ≤ deg a) (h : dv p (lz m) (lz a)) :
 cg p (lz a) (mz (lz (quoP p a m)) (lz m)) ∧ deg (quoP p a m) + (d : Int) = deg a := by
 have hp0 : 0 < p := by omega
 have hb0 : 0 ≤ deg m := by rw [hm.1]; omega
 have hr := (res_zero_iff hp ha hmp hb0).2 h
 have hd := divP hp ha hmp hb0
 rw [lz_neg hr, az_zS] at hd
 refine ⟨hd, ?_⟩
 obtain ⟨n, hn⟩ : ∃ n : Nat, deg a = (n : Int) := ⟨(deg a).toNat, by omega⟩
 obtain ⟨n1, n2, n3⟩ := deg_top hn
 have htop := hd n
 have e : lz a n = (a n : Int) := by unfold lz; rw [cut_in a n1]
 rw [e] at htop
 have hne : ¬ mz (lz (quoP p a m)) (lz m) n = 0 := by
  intro hz
  rw [hz, Int.sub_zero] at htop
  have := dvd_small htop (by omega) (by have := ha n n1; omega)
  omega
 have hq0 : 0 ≤ deg (quoP p a m) := by
  by_cases hlt : deg (quoP p a m) < 0
  · exfalso
    apply hne
    rw [lz_neg hlt, zS_mz]; rfl
  · omega
 obtain ⟨j, hj⟩ : ∃ j : Nat, deg (quoP p a m) = (j : Int) := ⟨(deg (quoP p a m)).toNat, by omega⟩
 have hle : deg (quoP p a m) ≤ deg a - deg m := by
  rcases quoP_deg hp0 ha hb0 with h | h
  · omega
  · exact h
 have hge : ¬ j + d < n := fun hlt => hne (mz_above hj hm.1 hlt)
 have := hm.1
 omega
theorem dv_lz {p : Nat} {a q m : Nat → Nat} (h : cg p (lz a) (mz (lz q) (lz m))) : dv p (lz q) (lz a) ∧ dv p (lz m) (lz a) := by
 constructor
 · refine (dv_congr h).2 ?_
   rw [mz_comm]
   exact dv_mul (fin_lz _) (dv_self _)
 · exact (dv_congr h).2 (dv_mul (fin_lz _) (dv_self _))
theorem irr_congr {p d : Nat} {f g : Nat → Nat} (h : ∀ k, k < 64 → f k = g k) (hg : ∀ k, g k < p) (hi : irr p f d) : irr p g d := by
 obtain ⟨h1, h2, h3, h4⟩ := hi
 have e : lz f = lz g := by
  funext k; unfold lz
  by_cases hk : k < 64
  · rw [cut_in _ hk, cut_in _ hk, h k hk]
  · rw [zcz _ (by omega), zcz _ (by omega)]
 obtain ⟨d6, _, _⟩ := deg_top h2.1
 refine ⟨h1, ⟨by rw [← deg_congr h]; exact h2.1, by rw [← h d d6]; exact h2.2⟩, hg, fun x j hx hm hd => h4 x j hx hm (by rw [e]; exact hd)⟩
theorem lz_congr {f g : Nat → Nat} (h : ∀ k, k < 64 → f k = g k) : lz f = lz g := by
 funext k; unfold lz
 by_cases hk : k < 64
 · rw [cut_in _ hk, cut_in _ hk, h k hk]
 · rw [zcz _ (by omega), zcz _ (by omega)]
/-- monic ones of the same degree that divide are the same -/
theorem mon_same {p d : Nat} {f g : Nat → Nat} (hf : ∀ k, k < 64 → f k < p) (hg : ∀ k, k < 64 → g k < p) (h1 : mon f d) (h2 : mon g d) (h : dv p (lz f) (lz g)) : ∀ k, k < 64 → f k = g k := by
 have hu := rm_unique (d := d) (v := 1) (m := lz f) (f := lz f) (g := lz g) (p := p) (by rw [(mon_S h1).1]; exact ⟨0, by omega⟩) (mon_S h1).2 (fun k hk => by
  by_cases e : k = d
  · subst e; rw [(mon_S h1).1, (mon_S h2).1]; exact ⟨0, by omega⟩
  · rw [(mon_S h1).2 k (by omega), (mon_S h2).2 k (by omega)]; exact ⟨0, by omega⟩) (rm_trans (dv_self (p := p) (lz f)) (rm_symm h))
 exact lz_inj hf hg hu
theorem irr_same {p i j : Nat} {f g : Nat → Nat} (hf : irr p f i) (hg : irr p g j) (h : dv p (lz f) (lz g)) : i = j ∧ ∀ k, k < 64 → f k = g k := by
 obtain ⟨f1, f2, f3, f4⟩ := hf
 obtain ⟨g1, g2, g3, g4⟩ := hg
 have h1 := dv_deg (fun k _ => g3 k) f2 h (by rw [g2.1]; omega)
 rw [g2.1] at h1
 have e : i = j := by
  rcases g4 f i f3 f2 h with h | h <;> omega
 subst e
 exact ⟨rfl, mon_same (fun k _ => f3 k) (fun k _ => g3 k) f2 g2 h⟩
/-- f, made monic -/
theorem made_mon {p d : Nat} {f : Nat → Nat} (hp : p = 2 ∨ p = 3 ∨ p = 5 ∨ p = 7) (hf : ∀ k, k < 64 → f k < p) (hd : deg f = (d : Int)) :
 mon (sclP p f (invN p (f d))) d ∧ (∀ k, sclP p f (invN p (f d)) k < p) ∧ (∀ c, dv p c (lz (sclP p f (invN p (f d)))) ↔ dv p c (lz f)) ∧ (∀ c, dv p (lz (sclP p f (invN p (f d)))) c ↔ dv p (lz f) c) := by
 have hp0 : 0 < p := by omega
 obtain ⟨d1, d2, d3⟩ := deg_top hd
 obtain ⟨i1, i2, i3, _⟩ := invF hp d2 (hf d d1)
 obtain ⟨c, hc⟩ : ∃ c, c = invN p (f d) := ⟨_, rfl⟩
 rw [← hc] at i1 i2 i3 ⊢
 have lead : sclP p f c d = 1 := by unfold sclP; rw [Nat.mul_comm]; exact i3
 have hu : (p : Int) ∣ (c : Int) * (f d : Int) - 1 := by
  have := mod_dvd p (c * f d)
  rw [i3] at this
  obtain ⟨x, hx⟩ := this
  rw [Int.natCast_mul] at hx
  exact ⟨-x, by rw [Int.mul_neg]; omega⟩
 refine ⟨⟨?_, lead⟩, fun k => Nat.mod_lt _ hp0, fun c' => ?_, fun c' => ?_⟩
 · have h1 := deg_le (f := sclP p f c) (d := (d : Int)) (by omega) (fun k hk hk2 => by unfold sclP; rw [d3 k (by omega) hk2, Nat.zero_mul, Nat.zero_mod])
   have h2 : ¬ deg (sclP p f c) < (d : Int) := by
    intro h
    have := zero_above h d1
    omega
   omega
 · exact (dv_congr (sclP_cg f c)).trans (dv_unit hu)
 · constructor
   · intro h
     exact dv_trans ((dv_congr (sclP_cg f c)).2 (dv_cz _ (dv_self _))) h
   · intro h
     have : dv p (lz (sclP p f c)) (lz f) := (dv_unit hu).1 ((dv_congr (sclP_cg f c)).1 (dv_self _))
     exact dv_trans this h
theorem irr_ex {p : Nat} {f : Nat → Nat} (hp : p = 2 ∨ p = 3 ∨ p = 5 ∨ p = 7) (hf : ∀ k, k < 64 → f k < p) (h : 1 ≤ deg f) : ∃ g j, irr p g j ∧ dv p (lz g) (lz f) := by
 obtain ⟨d, hd⟩ : ∃ d : Nat, deg f = (d : Int) := ⟨(deg f).toNat, by omega⟩
 obtain ⟨m1, m2, m3, m4⟩ := made_mon hp hf hd
 have key : ∀ j g, 1 ≤ j → (∀ k, g k < p) → mon g j → dv p (lz g) (lz f) → ∃ g j, irr p g j ∧ dv p (lz g) (lz f) := by
  intro j
  induction j using Nat.strongRecOn with
  | _ j ih =>
   intro g hj hg hm hdv
   by_cases hx : ∃ (h : Nat → Nat) (i : Nat), (∀ k, h k < p) ∧ mon h i ∧ dv p (lz h) (lz g) ∧ i ≠ 0 ∧ i < j
   · obtain ⟨x, i, x1, x2, x3, x4, x5⟩ := hx
     exact ih i x5 x (by omega) x1 x2 (dv_trans x3 hdv)
   · refine ⟨g, j, ⟨hj, hm, hg, fun x i x1 x2 x3 => ?_⟩, hdv⟩
     by_cases h0 : i = 0
     · exact .inl h0
     · by_cases h1 : j ≤ i
       · exact .inr h1
       · exact absurd ⟨x, i, x1, x2, x3, h0, by omega⟩ hx
 exact key d _ (by omega) m2 m1 ((m4 _).2 (dv_self _))
theorem irr_mul {p d : Nat} {m : Nat → Nat} {a b : Nat → Int} (hp : p = 2 ∨ p = 3 ∨ p = 5 ∨ p = 7) (h : irr p m d) (ha : fin a) (hb : fin b) (hab : dv p (lz m) (mz a b)) : dv p (lz m) a ∨ dv p (lz m) b := irr_euc hp h a b ha hb hab
/-- how often m divides a, and what is left -/
def dvo (p : Nat) (m : Nat → Nat) : Nat → (Nat → Nat) → Nat × (Nat → Nat)
 | 0, a => (0, a)
 | f + 1, a => if deg (resP p a m) < 0 then ((dvo p m f (quoP p a m)).1 + 1, (dvo p m f (quoP p a m)).2) else (0, a)
theorem dvo_no {p : Nat} {m a : Nat → Nat} (hp : p = 2 ∨ p = 3 ∨ p = 5 ∨ p = 7) (ha : ∀ k, k < 64 → a k < p) (hmp : ∀ k, k < 64 → m k < p) (hb : 0 ≤ deg m) (h : ¬ dv p (lz m) (lz a)) (f : Nat) : dvo p m f a = (0, a) := by
 cases f with
 | zero => rfl
 | succ f =>
  rw [dvo, if_neg]
  intro h2
  exact h ((res_zero_iff hp ha hmp hb).1 h2)
theorem dvo_spec {p d : Nat} {m : Nat → Nat} (hp : p = 2 ∨ p = 3 ∨ p = 5 ∨ p = 7) (hm : irr p m d) : ∀ (f : Nat) (a : Nat → Nat), (∀ k, k < 64 → a k < p) → 0 ≤ deg a → deg a < (f : Int) →
 (∀ k, k < 64 → (dvo p m f a).2 k < p) ∧ 0 ≤ deg (dvo p m f a).2 ∧ deg (dvo p m f a).2 + ((dvo p m f a).1 * d : Nat) = deg a ∧ ¬ dv p (lz m) (lz (dvo p m f a).2) ∧ dv p (lz (dvo p m f a).2) (lz a) ∧
 (dv p (lz m) (lz a) ↔ 0 < (dvo p m f a).1) ∧ (∀ g j, irr p g j → dv p (lz g) (lz a) → (∀ k, k < 64 → g k = m k) ∨ dv p (lz g) (lz (dvo p m f a).2))
 | 0, a, _, h1, h2 => by omega
 | f + 1, a, ha, h1, h2 => by
  obtain ⟨hd, hmm, hml, _⟩ := hm
  have hm : irr p m d := ⟨hd, hmm, hml, by assumption⟩
  have hb : 0 ≤ deg m := by rw [hmm.1]; omega
  have hp0 : 0 < p := by omega
  by_cases hdv : dv p (lz m) (lz a)
  · have hz := (res_zero_iff hp ha (fun k _ => hml k) hb).2 hdv
    rw [dvo, if_pos hz]
    obtain ⟨q1, q2⟩ := quo_exact hp ha (fun k _ => hml k) hmm h1 hdv
    have hq0 : 0 ≤ deg (quoP p a m) := by have := dv_deg ha hmm hdv h1; omega
    obtain ⟨r1, r2, r3, r4, r5, r6, r7⟩ := dvo_spec hp hm f (quoP p a m) (fun k _ => quoP_lt hp0 k) hq0 (by push_cast at h2; omega)
    refine ⟨r1, r2, ?_, r4, dv_trans r5 (dv_lz q1).1, ⟨fun _ => Nat.succ_pos _, fun _ => hdv⟩, fun g j hg hga => ?_⟩
    · show deg (dvo p m f (quoP p a m)).2 + (((dvo p m f (quoP p a m)).1 + 1) * d : Nat) = deg a
      rw [Nat.succ_mul]; omega
    · have h3 := (dv_congr q1).1 hga
      rcases irr_mul hp hg (fin_lz _) (fin_lz _) h3 with h4 | h4
      · exact r7 g j hg h4
      · exact .inl (irr_same hg hm h4).2
  · rw [dvo_no hp ha (fun k _ => hml k) hb hdv]
    refine ⟨ha, h1, by simp, hdv, dv_self _, ⟨fun h => absurd h hdv, fun h => absurd h (by simp)⟩, fun g j _ h => .inr h⟩
/-- no irreducible divisor of a degree less than n -/
def lowf (p n : Nat) (a : Nat → Nat) : Prop := ∀ g j, irr p g j → dv p (lz g) (lz a) → n ≤ j
theorem lowf_dv {p n : Nat} {a b : Nat → Nat} (h : dv p (lz b) (lz a)) (hl : lowf p n a) : lowf p n b := fun g j hg hgb => hl g j hg (dv_trans hgb h)
theorem mon_div_irr {p n N : Nat} {a : Nat → Nat} (hp : p = 2 ∨ p = 3 ∨ p = 5 ∨ p = 7) (hn : 1 ≤ n) (hn2 : n < 64) (hl : lowf p n a) (hN : N ∈ monL p n) (h : dv p (lz (ofN p N)) (lz a)) : irr p (ofN p N) n := by
 have hm := mon_ofN (by omega) hn2 hN
 have hlt : ∀ k, ofN p N k < p := ofN_lt (by omega) N
 obtain ⟨g, j, hg, hgd⟩ := irr_ex hp (fun k _ => hlt k) (f := ofN p N) (by rw [hm.1]; omega)
 have h1 := hl g j hg (dv_trans hgd h)
 have h2 := dv_deg (fun k _ => hlt k) hg.2.1 hgd (by rw [hm.1]; omega)
 rw [hm.1] at h2
 have e : j = n := by omega
 subst e
 exact irr_congr (mon_same (fun k _ => hg.2.2.1 k) (fun k _ => hlt k) hg.2.1 hm hgd) hlt hg
end Go.Proofs.Ytobcdekochenfaa
set_option linter.unusedVariables false
namespace Go.Proofs.Ytobcdekochenfaa
attribute [local irreducible] deg invN quoP resP
/-- all of a list, divided out one after the other: what is told, and what is left -/
def foR (p : Nat) : List Nat → (Nat → Nat) → List (Nat × Nat) × (Nat → Nat)
 | [], a => ([], a)
 | N :: ms, a => ((if 0 < (dvo p (ofN p N) 64 a).1 then [(N, (dvo p (ofN p N) 64 a).1)] else []) ++ (foR p ms (dvo p (ofN p N) 64 a).2).1, (foR p ms (dvo p (ofN p N) 64 a).2).2)
/-- degree by degree -/
def run (p : Nat) : Nat → Nat → (Nat → Nat) → List (Nat × Nat)
 | 0, _, _ => []
 | f + 1, n, a => if deg a ≤ 0 then [] else (foR p (monL p n) a).1 ++ run p f (n + 1) (foR p (monL p n) a).2
/-- what holds along a list -/
def okL (p n : Nat) (ms : List Nat) : Prop := ∀ N, N ∈ ms → N ∈ monL p n
theorem foR_spec {p n : Nat} (hp : p = 2 ∨ p = 3 ∨ p = 5 ∨ p = 7) (hn : 1 ≤ n) (hn2 : n < 64) : ∀ (ms : List Nat) (a : Nat → Nat), okL p n ms → (∀ k, k < 64 → a k < p) → 0 ≤ deg a → lowf p n a →
 (∀ k, k < 64 → (foR p ms a).2 k < p) ∧ 0 ≤ deg (foR p ms a).2 ∧ deg (foR p ms a).2 ≤ deg a ∧ dv p (lz (foR p ms a).2) (lz a) ∧ (∀ N, N ∈ ms → ¬ dv p (lz (ofN p N)) (lz (foR p ms a).2))
 | [], a, _, ha, h0, _ => ⟨ha, h0, Int.le_refl _, dv_self _, fun N hN => by cases hN⟩
 | N :: ms, a, hms, ha, h0, hl => by
  have hN := hms N (by simp)
  have hlt : ∀ k, ofN p N k < p := ofN_lt (by omega) N
  have hmN := mon_ofN (by omega) hn2 hN
  by_cases hd : dv p (lz (ofN p N)) (lz a)
  · have hi := mon_div_irr hp hn hn2 hl hN hd
    obtain ⟨r1, r2, r3, r4, r5, r6, r7⟩ := dvo_spec hp hi 64 a ha h0 (by have := zdb a; omega)
    obtain ⟨s1, s2, s3, s4, s5⟩ := foR_spec hp hn hn2 ms (dvo p (ofN p N) 64 a).2 (fun M hM => hms M (by simp [hM])) r1 r2 (lowf_dv r5 hl)
    refine ⟨s1, s2, by show deg (foR p ms (dvo p (ofN p N) 64 a).2).2 ≤ deg a; omega, dv_trans s4 r5, fun M hM => ?_⟩
    rcases List.mem_cons.1 hM with h | h
    · subst h; exact fun h => r4 (dv_trans h s4)
    · exact s5 M h
  · have hno := dvo_no hp ha (fun k _ => hlt k) (by rw [hmN.1]; omega) hd 64
    obtain ⟨s1, s2, s3, s4, s5⟩ := foR_spec hp hn hn2 ms a (fun M hM => hms M (by simp [hM])) ha h0 hl
    rw [foR, hno]
    refine ⟨s1, s2, s3, s4, fun M hM => ?_⟩
    rcases List.mem_cons.1 hM with h | h
    · subst h; exact fun h => hd (dv_trans h s4)
    · exact s5 M h
end Go.Proofs.Ytobcdekochenfaa
set_option linter.unusedVariables false
namespace Go.Proofs.Ytobcdekochenfaa
attribute [local irreducible] deg invN quoP resP
theorem lowf_next {p n : Nat} {a b : Nat → Nat} (hp : 2 ≤ p) (hl : lowf p n a) (hb : dv p (lz b) (lz a)) (h : ∀ N, N ∈ monL p n → ¬ dv p (lz (ofN p N)) (lz b)) : lowf p (n + 1) b := by
 intro g j hg hgb
 have h1 := hl g j hg (dv_trans hgb hb)
 by_cases e : j = n
 · exfalso
   subst e
   obtain ⟨v1, v2⟩ := mon_num hp hg.2.2.1 hg.2.1
   refine h _ v1 ?_
   rw [lz_congr v2]; exact hgb
 · omega
theorem lowf_one {p : Nat} (a : Nat → Nat) : lowf p 1 a := fun _ _ hg _ => hg.1
/-- as long as something is left, its degree is at least n -/
theorem low_deg {p n : Nat} {a : Nat → Nat} (hp : p = 2 ∨ p = 3 ∨ p = 5 ∨ p = 7) (ha : ∀ k, k < 64 → a k < p) (h1 : 1 ≤ deg a) (hl : lowf p n a) : (n : Int) ≤ deg a := by
 obtain ⟨g, j, hg, hga⟩ := irr_ex hp ha h1
 have h2 := hl g j hg hga
 have h3 := dv_deg ha hg.2.1 hga (by omega)
 omega
theorem run_z {p f n : Nat} {a : Nat → Nat} (h : deg a ≤ 0) : run p f n a = [] := by
 cases f with
 | zero => rfl
 | succ f => rw [run, if_pos h]
theorem run_s {p f n : Nat} {a : Nat → Nat} (h : ¬ deg a ≤ 0) : run p (f + 1) n a = (foR p (monL p n) a).1 ++ run p f (n + 1) (foR p (monL p n) a).2 := by
 rw [run, if_neg h]
/-- what is told of a list: irreducible ones that divide -/
theorem foR_mem {p n : Nat} (hp : p = 2 ∨ p = 3 ∨ p = 5 ∨ p = 7) (hn : 1 ≤ n) (hn2 : n < 64) : ∀ (ms : List Nat) (a : Nat → Nat), okL p n ms → (∀ k, k < 64 → a k < p) → 0 ≤ deg a → lowf p n a → ∀ x, x ∈ (foR p ms a).1 → x.1 ∈ ms ∧ irr p (ofN p x.1) n ∧ dv p (lz (ofN p x.1)) (lz a) ∧ 1 ≤ x.2 ∧ ((x.2 * n : Nat) : Int) ≤ deg a
 | [], _, _, _, _, _, x, hx => by cases hx
 | N :: ms, a, hms, ha, h0, hl, x, hx => by
  have hN := hms N (by simp)
  have hlt : ∀ k, ofN p N k < p := ofN_lt (by omega) N
  have hmN := mon_ofN (p := p) (by omega) hn2 hN
  have hms' : okL p n ms := fun M hM => hms M (by simp [hM])
  rw [foR] at hx
  by_cases hd : dv p (lz (ofN p N)) (lz a)
  · have hi := mon_div_irr hp hn hn2 hl hN hd
    obtain ⟨r1, r2, r3, r4, r5, r6, r7⟩ := dvo_spec hp hi 64 a ha h0 (by have := zdb a; omega)
    have h6 := r6.1 hd
    rcases List.mem_append.1 hx with h | h
    · rw [if_pos h6] at h
      have := List.mem_singleton.1 h
      subst this
      exact ⟨by simp, hi, hd, h6, by show (((dvo p (ofN p N) 64 a).1 * n : Nat) : Int) ≤ deg a; omega⟩
    · obtain ⟨a1, a2, a3, a4, a5⟩ := foR_mem hp hn hn2 ms _ hms' r1 r2 (lowf_dv r5 hl) x h
      exact ⟨by simp [a1], a2, dv_trans a3 r5, a4, by omega⟩
  · rw [dvo_no hp ha (fun k _ => hlt k) (by rw [hmN.1]; omega) hd 64] at hx
    simp only [Nat.lt_irrefl, if_false, List.nil_append] at hx
    obtain ⟨a1, a2, a3, a4, a5⟩ := foR_mem hp hn hn2 ms _ hms' ha h0 hl x hx
    exact ⟨by simp [a1], a2, a3, a4, a5⟩
theorem run_mem {p : Nat} (hp : p = 2 ∨ p = 3 ∨ p = 5 ∨ p = 7) : ∀ (f n : Nat) (a : Nat → Nat), 1 ≤ n → (∀ k, k < 64 → a k < p) → 0 ≤ deg a → lowf p n a → ∀ x, x ∈ run p f n a → ∃ j, n ≤ j ∧ j < 64 ∧ x.1 ∈ monL p j ∧ irr p (ofN p x.1) j ∧ dv p (lz (ofN p x.1)) (lz a) ∧ 1 ≤ x.2 ∧ ((x.2 * j : Nat) : Int) ≤ deg a
 | 0, _, _, _, _, _, _, x, hx => by cases hx
 | f + 1, n, a, hn, ha, h0, hl, x, hx => by
  by_cases hz : deg a ≤ 0
  · rw [run_z hz] at hx; cases hx
  · rw [run_s hz] at hx
    have hlow := low_deg hp ha (by omega) hl
    have hn2 : n < 64 := by have := zdb a; omega
    obtain ⟨s1, s2, s3, s4, s5⟩ := foR_spec hp hn hn2 (monL p n) a (fun _ h => h) ha h0 hl
    rcases List.mem_append.1 hx with h | h
    · obtain ⟨a1, a2, a3, a4, a5⟩ := foR_mem hp hn hn2 (monL p n) a (fun _ h => h) ha h0 hl x h
      exact ⟨n, Nat.le_refl _, hn2, a1, a2, a3, a4, a5⟩
    · obtain ⟨j, j1, j2, j3, j4, j5, j6, j7⟩ := run_mem hp f (n + 1) _ (by omega) s1 s2 (lowf_next (by omega) hl s4 s5) x h
      exact ⟨j, by omega, j2, j3, j4, dv_trans j5 s4, j6, by omega⟩
/-- nothing below the degree of an irreducible one -/
theorem foR_none {p n : Nat} (hp : p = 2 ∨ p = 3 ∨ p = 5 ∨ p = 7) (hn2 : n < 64) : ∀ (ms : List Nat) (a : Nat → Nat), okL p n ms → (∀ k, k < 64 → a k < p) → (∀ N, N ∈ ms → ¬ dv p (lz (ofN p N)) (lz a)) → foR p ms a = ([], a)
 | [], _, _, _, _ => rfl
 | N :: ms, a, hms, ha, h => by
  have hN := hms N (by simp)
  have hlt : ∀ k, ofN p N k < p := ofN_lt (by omega) N
  have hmN := mon_ofN (p := p) (by omega) hn2 hN
  rw [foR, dvo_no hp ha (fun k _ => hlt k) (by rw [hmN.1]; omega) (h N (by simp)) 64]
  have := foR_none hp hn2 ms a (fun M hM => hms M (by simp [hM])) ha (fun M hM => h M (by simp [hM]))
  simp only [Nat.lt_irrefl, if_false, List.nil_append]
  rw [this]
/-- of an irreducible one, but for a number, itself alone is told -/
theorem foR_own {p n : Nat} {g : Nat → Nat} (hp : p = 2 ∨ p = 3 ∨ p = 5 ∨ p = 7) (hn : 1 ≤ n) (hn2 : n < 64) (hg : irr p g n) : ∀ (ms : List Nat) (a : Nat → Nat), okL p n ms → ms.Nodup → (∀ k, k < 64 → a k < p) → deg a = (n : Int) → dv p (lz g) (lz a) → vl p g (n + 1) ∈ ms → lowf p n a → (foR p ms a).1 = [(vl p g (n + 1), 1)] ∧ deg (foR p ms a).2 = 0
 | [], _, _, _, _, _, _, h, _ => by cases h
 | N :: ms, a, hms, hnd, ha, hda, hga, hmem, hl => by
  have hN := hms N (by simp)
  have hlt : ∀ k, ofN p N k < p := ofN_lt (by omega) N
  have hmN := mon_ofN (p := p) (by omega) hn2 hN
  have hms' : okL p n ms := fun M hM => hms M (by simp [hM])
  rw [List.nodup_cons] at hnd
  obtain ⟨v1, v2⟩ := mon_num (p := p) (by omega) hg.2.2.1 hg.2.1
  -- who divides a is g
  have only : ∀ M, M ∈ monL p n → dv p (lz (ofN p M)) (lz a) → M = vl p g (n + 1) := by
   intro M hM h
   have hiM := mon_div_irr hp hn hn2 hl hM h
   obtain ⟨q1, q2⟩ := quo_exact hp ha (fun k _ => hg.2.2.1 k) hg.2.1 (by omega) hga
   rcases irr_mul hp hiM (fin_lz _) (fin_lz _) ((dv_congr q1).1 h) with h4 | h4
   · exfalso
     have := dv_deg (g := quoP p a g) (fun k _ => quoP_lt (by omega) k) hiM.2.1 h4 (by omega)
     omega
   · have hs := (irr_same hiM hg h4).2
     exact mon_inj (by omega) hn2 hM v1 (fun k hk => by rw [hs k hk, v2 k hk])
  by_cases e : N = vl p g (n + 1)
  · have hd : dv p (lz (ofN p N)) (lz a) := by rw [e, lz_congr v2]; exact hga
    have hi := mon_div_irr hp hn hn2 hl hN hd
    obtain ⟨r1, r2, r3, r4, r5, r6, r7⟩ := dvo_spec hp hi 64 a ha (by omega) (by omega)
    have h6 := r6.1 hd
    have h1 : (dvo p (ofN p N) 64 a).1 = 1 := by
     have : (dvo p (ofN p N) 64 a).1 * n ≤ 1 * n := by omega
     have := Nat.le_of_mul_le_mul_right this (by omega)
     omega
    have hd0 : deg (dvo p (ofN p N) 64 a).2 = 0 := by rw [h1] at r3; omega
    have hno : foR p ms (dvo p (ofN p N) 64 a).2 = ([], (dvo p (ofN p N) 64 a).2) := foR_none hp hn2 ms _ hms' r1 (fun M hM h => by
     have := dv_deg r1 (mon_ofN (p := p) (by omega) hn2 (hms' M hM)) h (by omega)
     omega)
    rw [foR, hno, if_pos h6, h1, e]
    refine ⟨by simp, ?_⟩
    show deg (dvo p (ofN p (vl p g (n + 1))) 64 a).2 = 0
    rw [← e]; exact hd0
  · have hd : ¬ dv p (lz (ofN p N)) (lz a) := fun h => e (only N hN h)
    have hno := dvo_no hp ha (fun k _ => hlt k) (by rw [hmN.1]; omega) hd 64
    have ih := foR_own hp hn hn2 hg ms a hms' hnd.2 ha hda hga (by
     rcases List.mem_cons.1 hmem with h | h
     · exact absurd h.symm e
     · exact h) hl
    rw [foR, hno]
    simpa using ih
/-- an irreducible one times a number: it is told alone, in whatever degree the search stands -/
theorem run_own {p d : Nat} {g : Nat → Nat} (hp : p = 2 ∨ p = 3 ∨ p = 5 ∨ p = 7) (hg : irr p g d) : ∀ (f n : Nat) (a : Nat → Nat), 1 ≤ n → n ≤ d → d < n + f → (∀ k, k < 64 → a k < p) → deg a = (d : Int) → dv p (lz g) (lz a) → run p f n a = [(vl p g (d + 1), 1)]
 | 0, n, a, _, h1, h2, _, _, _ => by omega
 | f + 1, n, a, hn, h1, h2, ha, hda, hga => by
  obtain ⟨d6, _, _⟩ := deg_top hda
  have hd1 := hg.1
  have hlow : lowf p d a := by
   intro x j hx hxa
   obtain ⟨q1, q2⟩ := quo_exact hp ha (fun k _ => hg.2.2.1 k) hg.2.1 (by omega) hga
   rcases irr_mul hp hx (fin_lz _) (fin_lz _) ((dv_congr q1).1 hxa) with h4 | h4
   · exfalso
     have := dv_deg (g := quoP p a g) (fun k _ => quoP_lt (by omega) k) hx.2.1 h4 (by omega)
     have := hx.1
     omega
   · have := (irr_same hx hg h4).1; omega
  rw [run_s (by omega)]
  by_cases e : n = d
  · subst e
    obtain ⟨o1, o2⟩ := foR_own hp hn d6 hg (monL p n) a (fun _ h => h) (by unfold monL; exact List.nodup_range') ha hda hga (mon_num (p := p) (by omega) hg.2.2.1 hg.2.1).1 hlow
    rw [o1, run_z (by omega)]; rfl
  · have hno := foR_none hp (by omega) (monL p n) a (fun _ h => h) ha (fun N hN h => by
     have hmN := mon_ofN (p := p) (n := n) (by omega) (by omega) hN
     obtain ⟨x, j, hx, hxd⟩ := irr_ex hp (fun k _ => ofN_lt (p := p) (by omega) N k) (f := ofN p N) (by rw [hmN.1]; omega)
     have h3 := hlow x j hx (dv_trans hxd h)
     have h4 := dv_deg (fun k _ => ofN_lt (p := p) (by omega) N k) hx.2.1 hxd (by rw [hmN.1]; omega)
     rw [hmN.1] at h4
     omega)
    rw [hno]
    exact run_own hp hg f (n + 1) a (by omega) (by omega) (by omega) ha hda hga
/-- what is left when two factors would exceed the degree -/
theorem left_irr {p n : Nat} {a : Nat → Nat} (hp : p = 2 ∨ p = 3 ∨ p = 5 ∨ p = 7) (ha : ∀ k, k < 64 → a k < p) (h1 : 1 ≤ deg a) (h2 : deg a < 2 * (n : Int)) (hl : lowf p n a) : ∃ g d, irr p g d ∧ deg a = (d : Int) ∧ dv p (lz g) (lz a) ∧ n ≤ d := by
 obtain ⟨g, j, hg, hga⟩ := irr_ex hp ha h1
 have h3 := hl g j hg hga
 obtain ⟨q1, q2⟩ := quo_exact hp ha (fun k _ => hg.2.2.1 k) hg.2.1 (by omega) hga
 have h4 := dv_deg ha hg.2.1 hga (by omega)
 by_cases hq : 1 ≤ deg (quoP p a g)
 · exfalso
   obtain ⟨x, i, hx, hxq⟩ := irr_ex hp (fun k _ => quoP_lt (p := p) (a := a) (b := g) (by omega) k) hq
   have h5 := hl x i hx (dv_trans hxq (dv_lz q1).1)
   have h6 := dv_deg (g := quoP p a g) (fun k _ => quoP_lt (p := p) (by omega) k) hx.2.1 hxq (by omega)
   omega
 · exact ⟨g, j, hg, by omega, hga, h3⟩
end Go.Proofs.Ytobcdekochenfaa
set_option linter.unusedVariables false
namespace Go.Proofs.Ytobcdekochenfaa
attribute [local irreducible] deg invN quoP resP
/-- trial division by those of the degree n, as long as two factors fit -/
def spI (p n : Nat) : List Nat → (Nat → Nat) → List (Nat × Nat) × (Nat → Nat)
 | [], a => ([], a)
 | N :: ms, a => if 2 * (n : Int) ≤ deg a then ((if 0 < (dvo p (ofN p N) 64 a).1 then [(N, (dvo p (ofN p N) 64 a).1)] else []) ++ (spI p n ms (dvo p (ofN p N) 64 a).2).1, (spI p n ms (dvo p (ofN p N) 64 a).2).2) else ([], a)
def spO (p : Nat) : Nat → Nat → (Nat → Nat) → List (Nat × Nat) × (Nat → Nat)
 | 0, _, a => ([], a)
 | f + 1, n, a => if 2 * (n : Int) ≤ deg a then ((spI p n (monL p n) a).1 ++ (spO p f (n + 1) (spI p n (monL p n) a).2).1, (spO p f (n + 1) (spI p n (monL p n) a).2).2) else ([], a)
/-- what is left, made monic -/
def monP (p : Nat) (a : Nat → Nat) : Nat → Nat := sclP p a (invN p (a (deg a).toNat))
def finL (p : Nat) (a : Nat → Nat) : List (Nat × Nat) := if 0 < deg a then [(vl p (monP p a) ((deg a).toNat + 1), 1)] else []
theorem finL_z {p : Nat} {a : Nat → Nat} (h : deg a ≤ 0) : finL p a = [] := by unfold finL; rw [if_neg (by omega)]
theorem finL_own {p d : Nat} {a g : Nat → Nat} (hp : p = 2 ∨ p = 3 ∨ p = 5 ∨ p = 7) (ha : ∀ k, k < 64 → a k < p) (hg : irr p g d) (hd : deg a = (d : Int)) (hga : dv p (lz g) (lz a)) : finL p a = [(vl p g (d + 1), 1)] := by
 have h1 := hg.1
 unfold finL
 rw [if_pos (by omega)]
 obtain ⟨m1, m2, m3, m4⟩ := made_mon hp ha hd
 obtain ⟨d6, _, _⟩ := deg_top hd
 have e : monP p a = sclP p a (invN p (a d)) := by unfold monP; rw [hd]; rfl
 have hs := mon_same (fun k _ => hg.2.2.1 k) (fun k _ => m2 k) hg.2.1 m1 ((m3 _).2 hga)
 rw [e, hd]
 have : vl p (sclP p a (invN p (a d))) (d + 1) = vl p g (d + 1) := vl_congr _ (fun k hk => (hs k (by omega)).symm)
 show [(vl p (sclP p a (invN p (a d))) (d + 1), 1)] = _
 rw [this]
/-- when two factors do not fit any more -/
theorem sp_stop {p n f : Nat} {a : Nat → Nat} (hp : p = 2 ∨ p = 3 ∨ p = 5 ∨ p = 7) (hn : 1 ≤ n) (hn2 : n < 64) (hf : 64 ≤ n + 1 + f) (ms : List Nat) (hms : okL p n ms) (hnd : ms.Nodup) (ha : ∀ k, k < 64 → a k < p) (h0 : 0 ≤ deg a) (hl : lowf p n a)
 (hcov : ∀ g, irr p g n → dv p (lz g) (lz a) → vl p g (n + 1) ∈ ms) (hlt : deg a < 2 * (n : Int)) : (foR p ms a).1 ++ run p f (n + 1) (foR p ms a).2 = finL p a := by
 by_cases hz : deg a ≤ 0
 · have hno := foR_none hp hn2 ms a hms ha (fun N hN h => by
    have := dv_deg ha (mon_ofN (p := p) (by omega) hn2 (hms N hN)) h h0
    omega)
   rw [hno, run_z hz, finL_z hz]; rfl
 · obtain ⟨g, d, hg, hd, hga, hnd2⟩ := left_irr hp ha (by omega) hlt hl
   rw [finL_own hp ha hg hd hga]
   by_cases e : n = d
   · subst e
     obtain ⟨o1, o2⟩ := foR_own hp hn hn2 hg ms a hms hnd ha hd hga (hcov g hg hga) hl
     rw [o1, run_z (by omega)]; rfl
   · obtain ⟨d6, _, _⟩ := deg_top hd
     have hno := foR_none hp hn2 ms a hms ha (fun N hN h => by
      have hi := mon_div_irr hp hn hn2 hl (hms N hN) h
      obtain ⟨q1, q2⟩ := quo_exact hp ha (fun k _ => hg.2.2.1 k) hg.2.1 h0 hga
      rcases irr_mul hp hi (fin_lz _) (fin_lz _) ((dv_congr q1).1 h) with h4 | h4
      · have := dv_deg (g := quoP p a g) (fun k _ => quoP_lt (by omega) k) hi.2.1 h4 (by omega)
        omega
      · exact e (irr_same hi hg h4).1)
     rw [hno, run_own hp hg f (n + 1) a (by omega) (by omega) (by omega) ha hd hga]; rfl
theorem spI_full {p n : Nat} (hp : p = 2 ∨ p = 3 ∨ p = 5 ∨ p = 7) : ∀ (ms : List Nat) (a : Nat → Nat), 2 * (n : Int) ≤ deg (spI p n ms a).2 → spI p n ms a = foR p ms a
 | [], _, _ => rfl
 | N :: ms, a, h => by
  by_cases hc : 2 * (n : Int) ≤ deg a
  · rw [spI, if_pos hc] at h ⊢
    have := spI_full hp ms _ h
    rw [foR, this]
  · rw [spI, if_neg hc] at h
    exact absurd h hc
theorem spI_eq {p n f : Nat} (hp : p = 2 ∨ p = 3 ∨ p = 5 ∨ p = 7) (hn : 1 ≤ n) (hn2 : n < 64) (hf : 64 ≤ n + 1 + f) : ∀ (ms : List Nat) (a : Nat → Nat), okL p n ms → ms.Nodup → (∀ k, k < 64 → a k < p) → 0 ≤ deg a → lowf p n a → (∀ g, irr p g n → dv p (lz g) (lz a) → vl p g (n + 1) ∈ ms) →
 (foR p ms a).1 ++ run p f (n + 1) (foR p ms a).2 = (spI p n ms a).1 ++ (if 2 * (n : Int) ≤ deg (spI p n ms a).2 then run p f (n + 1) (spI p n ms a).2 else finL p (spI p n ms a).2)
 | [], a, hms, hnd, ha, h0, hl, hcov => by
  by_cases hc : 2 * (n : Int) ≤ deg a
  · show [] ++ run p f (n + 1) a = [] ++ (if 2 * (n : Int) ≤ deg a then _ else _)
    rw [if_pos hc]; rfl
  · have := sp_stop hp hn hn2 hf [] hms hnd ha h0 hl hcov (by omega)
    rw [this]
    show finL p a = [] ++ (if 2 * (n : Int) ≤ deg a then _ else finL p a)
    rw [if_neg hc]; rfl
 | N :: ms, a, hms, hnd, ha, h0, hl, hcov => by
  by_cases hc : 2 * (n : Int) ≤ deg a
  · rw [spI, if_pos hc, foR]
    have hN := hms N (by simp)
    have hlt : ∀ k, ofN p N k < p := ofN_lt (by omega) N
    have hmN := mon_ofN (p := p) (by omega) hn2 hN
    have hms' : okL p n ms := fun M hM => hms M (by simp [hM])
    rw [List.nodup_cons] at hnd
    simp only [List.append_assoc]
    congr 1
    by_cases hd : dv p (lz (ofN p N)) (lz a)
    · have hi := mon_div_irr hp hn hn2 hl hN hd
      obtain ⟨r1, r2, r3, r4, r5, r6, r7⟩ := dvo_spec hp hi 64 a ha h0 (by have := zdb a; omega)
      refine spI_eq hp hn hn2 hf ms _ hms' hnd.2 r1 r2 (lowf_dv r5 hl) (fun g hg hga => ?_)
      rcases List.mem_cons.1 (hcov g hg (dv_trans hga r5)) with h | h
      · exfalso
        have hv := (mon_num (p := p) (by omega) hg.2.2.1 hg.2.1).2
        rw [h] at hv
        rw [← lz_congr hv] at hga
        exact r4 hga
      · exact h
    · rw [dvo_no hp ha (fun k _ => hlt k) (by rw [hmN.1]; omega) hd 64]
      refine spI_eq hp hn hn2 hf ms a hms' hnd.2 ha h0 hl (fun g hg hga => ?_)
      rcases List.mem_cons.1 (hcov g hg hga) with h | h
      · exfalso
        have hv := (mon_num (p := p) (by omega) hg.2.2.1 hg.2.1).2
        rw [h] at hv
        rw [← lz_congr hv] at hga
        exact hd hga
      · exact h
  · have := sp_stop hp hn hn2 hf (N :: ms) hms hnd ha h0 hl hcov (by omega)
    rw [this, spI, if_neg hc]
    show finL p a = [] ++ (if 2 * (n : Int) ≤ deg a then _ else finL p a)
    rw [if_neg hc]; rfl
theorem cov_all {p n : Nat} (hp : 2 ≤ p) (a : Nat → Nat) : ∀ g, irr p g n → dv p (lz g) (lz a) → vl p g (n + 1) ∈ monL p n := fun g hg _ => (mon_num hp hg.2.2.1 hg.2.1).1
theorem spO_eq {p : Nat} (hp : p = 2 ∨ p = 3 ∨ p = 5 ∨ p = 7) : ∀ (f n : Nat) (a : Nat → Nat), 1 ≤ n → 64 ≤ n + f → (∀ k, k < 64 → a k < p) → 0 ≤ deg a → lowf p n a → run p f n a = (spO p f n a).1 ++ finL p (spO p f n a).2
 | 0, n, a, hn, hf, ha, h0, hl => by
  have hz : deg a ≤ 0 := by
   by_cases h : deg a ≤ 0
   · exact h
   · have := low_deg hp ha (by omega) hl
     have := zdb a
     omega
  show [] = [] ++ finL p a
  rw [finL_z hz]; rfl
 | f + 1, n, a, hn, hf, ha, h0, hl => by
  have nd : (monL p n).Nodup := by unfold monL; exact List.nodup_range'
  by_cases hz : deg a ≤ 0
  · rw [run_z hz, spO, if_neg (by omega)]
    show [] = [] ++ finL p a
    rw [finL_z hz]; rfl
  · have hlow := low_deg hp ha (by omega) hl
    have hn2 : n < 64 := by have := zdb a; omega
    rw [run_s hz]
    by_cases hc : 2 * (n : Int) ≤ deg a
    · rw [spI_eq hp hn hn2 (by omega) (monL p n) a (fun _ h => h) nd ha h0 hl (cov_all (by omega) a), spO, if_pos hc]
      show _ = ((spI p n (monL p n) a).1 ++ (spO p f (n + 1) (spI p n (monL p n) a).2).1) ++ finL p (spO p f (n + 1) (spI p n (monL p n) a).2).2
      rw [List.append_assoc]
      congr 1
      by_cases h2 : 2 * (n : Int) ≤ deg (spI p n (monL p n) a).2
      · rw [if_pos h2]
        have hfull := spI_full hp (monL p n) a h2
        obtain ⟨s1, s2, s3, s4, s5⟩ := foR_spec hp hn hn2 (monL p n) a (fun _ h => h) ha h0 hl
        rw [hfull]
        exact spO_eq hp f (n + 1) _ (by omega) (by omega) s1 s2 (lowf_next (by omega) hl s4 s5)
      · rw [if_neg h2]
        cases f with
        | zero => rfl
        | succ f =>
         rw [spO, if_neg (by push_cast; omega)]; rfl
    · rw [sp_stop hp hn hn2 (by omega) (monL p n) (fun _ h => h) nd ha h0 hl (cov_all (by omega) a) (by omega), spO, if_neg hc]; rfl
/-- what was told does not divide what is left -/
theorem spI_left {p n : Nat} (hp : p = 2 ∨ p = 3 ∨ p = 5 ∨ p = 7) (hn : 1 ≤ n) (hn2 : n < 64) : ∀ (ms : List Nat) (a : Nat → Nat), okL p n ms → (∀ k, k < 64 → a k < p) → 0 ≤ deg a → lowf p n a →
 (∀ k, k < 64 → (spI p n ms a).2 k < p) ∧ 0 ≤ deg (spI p n ms a).2 ∧ dv p (lz (spI p n ms a).2) (lz a) ∧ ∀ x, x ∈ (spI p n ms a).1 → x.1 ∈ monL p n ∧ 1 ≤ x.2 ∧ ((x.2 : Nat) : Int) ≤ deg a ∧ ¬ dv p (lz (ofN p x.1)) (lz (spI p n ms a).2)
 | [], a, _, ha, h0, _ => ⟨ha, h0, dv_self _, fun x hx => by cases hx⟩
 | N :: ms, a, hms, ha, h0, hl => by
  by_cases hc : 2 * (n : Int) ≤ deg a
  · rw [spI, if_pos hc]
    have hN := hms N (by simp)
    have hlt : ∀ k, ofN p N k < p := ofN_lt (by omega) N
    have hmN := mon_ofN (p := p) (by omega) hn2 hN
    have hms' : okL p n ms := fun M hM => hms M (by simp [hM])
    by_cases hd : dv p (lz (ofN p N)) (lz a)
    · have hi := mon_div_irr hp hn hn2 hl hN hd
      obtain ⟨r1, r2, r3, r4, r5, r6, r7⟩ := dvo_spec hp hi 64 a ha h0 (by have := zdb a; omega)
      obtain ⟨s1, s2, s3, s4⟩ := spI_left hp hn hn2 ms _ hms' r1 r2 (lowf_dv r5 hl)
      refine ⟨s1, s2, dv_trans s3 r5, fun x hx => ?_⟩
      rcases List.mem_append.1 hx with h | h
      · rw [if_pos (r6.1 hd)] at h
        have := List.mem_singleton.1 h
        subst this
        refine ⟨hN, r6.1 hd, ?_, fun h => r4 (dv_trans h s3)⟩
        show (((dvo p (ofN p N) 64 a).1 : Nat) : Int) ≤ deg a
        have : (dvo p (ofN p N) 64 a).1 * 1 ≤ (dvo p (ofN p N) 64 a).1 * n := Nat.mul_le_mul_left _ hn
        omega
      · obtain ⟨a1, a2, a3, a4⟩ := s4 x h
        exact ⟨a1, a2, by omega, a4⟩
    · rw [dvo_no hp ha (fun k _ => hlt k) (by rw [hmN.1]; omega) hd 64]
      obtain ⟨s1, s2, s3, s4⟩ := spI_left hp hn hn2 ms a hms' ha h0 hl
      simp only [Nat.lt_irrefl, if_false, List.nil_append]
      exact ⟨s1, s2, s3, s4⟩
  · rw [spI, if_neg hc]
    exact ⟨ha, h0, dv_self _, fun x hx => by cases hx⟩
end Go.Proofs.Ytobcdekochenfaa
set_option linter.unusedVariables false
namespace Go.Proofs.Ytobcdekochenfaa
attribute [local irreducible] deg invN quoP resP
theorem one_lz : lz oneP = oneS := by
 funext k; unfold lz oneS
 by_cases hk : k < 64
 · rw [cut_in _ hk]; unfold oneP; split <;> rfl
 · rw [zcz _ (by omega), if_neg (by omega)]; rfl
/-- the same residue -/
theorem res_rm {p : Nat} {a m : Nat → Nat} (hp : p = 2 ∨ p = 3 ∨ p = 5 ∨ p = 7) (ha : ∀ k, k < 64 → a k < p) (hm : ∀ k, k < 64 → m k < p) (h0 : 0 ≤ deg m) : rm p (lz m) (lz a) (lz (resP p a m)) := by
 refine ⟨_, fin_lz (quoP p a m), fun k => ?_⟩
 have := divP hp ha hm h0 k
 unfold az at this
 unfold sz
 rwa [show lz a k - lz (resP p a m) k - mz (lz (quoP p a m)) (lz m) k = lz a k - (mz (lz (quoP p a m)) (lz m) k + lz (resP p a m) k) by omega]
end Go.Proofs.Ytobcdekochenfaa
set_option linter.unusedVariables false
namespace Go.Proofs.Ytobcdekochenfaa
attribute [local irreducible] deg invN quoP resP
/-- the rest of the product -/
def mmP (p : Nat) (a b m : Nat → Nat) : Nat → Nat := resW p (invN p (m (deg m).toNat)) (deg m).toNat m (prd p a b)
theorem mmP_at {p d : Nat} {a b m : Nat → Nat} (h : deg m = (d : Int)) : mmP p a b m = resW p (invN p (m d)) d m (prd p a b) := by unfold mmP; rw [h]; rfl
theorem mmP_lt {p : Nat} {a b m : Nat → Nat} (hp : 0 < p) : ∀ k, k < 128 → mmP p a b m k < p := by
 intro k hk
 unfold mmP resW
 exact dS_lt (N := 128) hp (fun j _ => prd_lt hp j) _ k hk
theorem mmP_out {p d : Nat} {a b m : Nat → Nat} (hp : p = 2 ∨ p = 3 ∨ p = 5 ∨ p = 7) (hm : ∀ k, k < 64 → m k < p) (hd : deg m = (d : Int)) {k : Nat} (h1 : d ≤ k) (h2 : k < 128) : mmP p a b m k = 0 := by
 have hp0 : 0 < p := by omega
 obtain ⟨m1, m2, m3⟩ := deg_top hd
 rw [mmP_at hd]
 unfold resW
 exact dS_top hp0 (fun j _ => prd_lt hp0 j) (invF hp m2 (hm d m1)).2.2.1 _ (by omega) k (by omega) h2
theorem mmP_deg {p : Nat} {a b m : Nat → Nat} (hp : p = 2 ∨ p = 3 ∨ p = 5 ∨ p = 7) (hm : ∀ k, k < 64 → m k < p) (h0 : 0 ≤ deg m) : deg (mmP p a b m) < deg m := by
 obtain ⟨d, hd⟩ : ∃ d : Nat, deg m = (d : Int) := ⟨(deg m).toNat, by omega⟩
 have := deg_le (f := mmP p a b m) (d := (d : Int) - 1) (by omega) (fun k hk hk2 => mmP_out hp hm hd (by omega) (by omega))
 omega
theorem mz_far {a b : Nat → Nat} {k : Nat} (hk : 127 ≤ k) : mz (lz a) (lz b) k = 0 := by
 refine cs_zero _ (fun i _ => ?_)
 unfold lz
 by_cases h : i < 64
 · rw [zcz b (by omega)]; simp
 · rw [zcz a (by omega)]; simp
theorem prd_lw (p : Nat) (a b : Nat → Nat) : cg p (lw (prd p a b)) (mz (lz a) (lz b)) := by
 intro k
 unfold lw
 by_cases h : k < 128
 · rw [if_pos h]; exact prd_mz p a b k
 · rw [if_neg h, mz_far (by omega)]; exact ⟨0, by omega⟩
theorem mmP_rm {p : Nat} {a b m : Nat → Nat} (hp : p = 2 ∨ p = 3 ∨ p = 5 ∨ p = 7) (hm : ∀ k, k < 64 → m k < p) (h0 : 0 ≤ deg m) : rm p (lz m) (mz (lz a) (lz b)) (lz (mmP p a b m)) := by
 have hp0 : 0 < p := by omega
 obtain ⟨d, hd⟩ : ∃ d : Nat, deg m = (d : Int) := ⟨(deg m).toNat, by omega⟩
 have h := rmW (p := p) (inv := invN p (m d)) (a := prd p a b) hp0 hd
 rw [← mmP_at hd] at h
 have e : lw (mmP p a b m) = lz (mmP p a b m) := by
  funext k; unfold lw lz
  obtain ⟨d6, _, _⟩ := deg_top hd
  by_cases hk : k < 64
  · rw [cut_in _ hk, if_pos (by omega)]
  · rw [zcz _ (by omega)]
    by_cases hk2 : k < 128
    · rw [if_pos hk2, mmP_out hp hm hd (by omega) hk2]
    · rw [if_neg hk2]; rfl
 rw [e] at h
 exact rm_trans (rm_symm (rm_of_cg (prd_lw p a b))) h
/-- T times a, less its top times m -/
def upF (p : Nat) (a m : Nat → Nat) : Nat := a ((deg m).toNat - 1) * invN p (m (deg m).toNat) % p
def shA (a : Nat → Nat) (n : Nat) : Nat → Nat := fun k => if 1 ≤ k ∧ k < n then a (k - 1) else 0
def upP (p : Nat) (a m : Nat → Nat) : Nat → Nat := fun k => if (k : Int) < deg m then (shA a (deg m).toNat k + (p - upF p a m) * m k) % p else 0
theorem upP_lt {p : Nat} {a m : Nat → Nat} (hp : 0 < p) (k : Nat) : upP p a m k < p := by
 unfold upP; split
 · exact Nat.mod_lt _ hp
 · exact hp
theorem upP_rm {p : Nat} {a m : Nat → Nat} (hp : p = 2 ∨ p = 3 ∨ p = 5 ∨ p = 7) (ha : ∀ k, k < 64 → a k < p) (hm : ∀ k, k < 64 → m k < p) (h0 : 0 ≤ deg m) (hlt : deg a < deg m) : rm p (lz m) (mz TS (lz a)) (lz (upP p a m)) := by
 have hp0 : 0 < p := by omega
 obtain ⟨d, hd⟩ : ∃ d : Nat, deg m = (d : Int) := ⟨(deg m).toNat, by omega⟩
 obtain ⟨d6, m2, m3⟩ := deg_top hd
 obtain ⟨_, _, i3, _⟩ := invF hp m2 (hm d d6)
 obtain ⟨f, hf⟩ : ∃ f, f = upF p a m := ⟨_, rfl⟩
 have hfp : f < p := by rw [hf]; exact Nat.mod_lt _ hp0
 have hfd : f = a (d - 1) * invN p (m d) % p := by rw [hf]; unfold upF; rw [hd]; rfl
 refine ⟨fun i => if i = 0 then (f : Int) else 0, fin_mono _ 0, fun k => ?_⟩
 rw [mz_mono, if_pos (Nat.zero_le _), Nat.sub_zero, mz_TS]
 have hup : upP p a m k = if (k : Int) < deg m then (shA a (deg m).toNat k + (p - f) * m k) % p else 0 := by rw [hf]; rfl
 have hdt : (deg m).toNat = d := by rw [hd]; rfl
 rw [hdt] at hup
 show (p : Int) ∣ (if k = 0 then 0 else lz a (k - 1)) - lz (upP p a m) k - (f : Int) * lz m k
 by_cases hk : k < d
 · have e1 : lz (upP p a m) k = (((shA a d k + (p - f) * m k) % p : Nat) : Int) := by
    unfold lz; rw [cut_in _ (by omega), hup, if_pos (by omega)]
   have e2 : lz m k = (m k : Int) := by unfold lz; rw [cut_in _ (by omega)]
   have e3 : (if k = 0 then (0 : Int) else lz a (k - 1)) = (shA a d k : Int) := by
    unfold shA
    by_cases h : k = 0
    · rw [if_pos h, if_neg (by omega)]; rfl
    · rw [if_neg h, if_pos (by omega)]; unfold lz; rw [cut_in _ (by omega)]
   rw [e1, e2, e3]
   have := take_dvd (p := p) (A := shA a d k) (c := f) (b := m k) (by omega)
   rwa [show (shA a d k : Int) - (((shA a d k + (p - f) * m k) % p : Nat) : Int) - (f : Int) * (m k : Int) = (shA a d k : Int) - ((f : Int) * (m k : Int) + (((shA a d k + (p - f) * m k) % p : Nat) : Int)) by omega]
 · have e1 : lz (upP p a m) k = 0 := by
    unfold lz
    by_cases h : k < 64
    · rw [cut_in _ h, hup, if_neg (by omega)]; rfl
    · rw [zcz _ (by omega)]; rfl
   rw [e1]
   by_cases e : k = d
   · subst e
     have e2 : lz m k = (m k : Int) := by unfold lz; rw [cut_in _ d6]
     rw [e2]
     by_cases h : k = 0
     · rw [if_pos h]
       have : a (k - 1) = 0 := by rw [h]; exact zero_above (f := a) (k := 0) (by omega) (by omega)
       rw [this, Nat.zero_mul, Nat.zero_mod] at hfd
       rw [hfd]; exact ⟨0, by simp⟩
     · rw [if_neg h]
       have e3 : lz a (k - 1) = (a (k - 1) : Int) := by unfold lz; rw [cut_in _ (by omega)]
       rw [e3]
       have h1 : (f * m k) % p = a (k - 1) := by
        rw [hfd, Nat.mod_mul_mod, Nat.mul_assoc, Nat.mul_mod, i3, Nat.mul_one, Nat.mod_mod, Nat.mod_eq_of_lt (ha _ (by omega))]
       have := mod_dvd p (f * m k)
       rw [h1, Int.natCast_mul] at this
       rwa [Int.sub_zero]
   · have e2 : lz m k = 0 := lz_above hd (by omega)
     have e3 : (if k = 0 then (0 : Int) else lz a (k - 1)) = 0 := by
      rw [if_neg (by omega)]
      unfold lz
      by_cases h : k - 1 < 64
      · rw [cut_in _ h, zero_above (f := a) (k := k - 1) (by omega) h]; rfl
      · rw [zcz _ (by omega)]; rfl
     rw [e2, e3]; exact ⟨0, by simp⟩
theorem addK_cg {p : Nat} {f g : Nat → Nat} {c : Int} (hp : 0 < p) : cg p (lz (addK p f g c)) (az (lz f) (cz c (lz g))) := by
 intro k
 show (p : Int) ∣ ((cut (addK p f g c) k : Nat) : Int) - (((cut f k : Nat) : Int) + c * ((cut g k : Nat) : Int))
 by_cases hk : k < 64
 · rw [cut_in _ hk, cut_in _ hk, cut_in _ hk]
   unfold addK
   have h1 : 0 ≤ ((f k : Int) + c * (g k : Int)) % (p : Int) := Int.emod_nonneg _ (by omega)
   rw [Int.toNat_of_nonneg h1]
   have := Int.dvd_self_sub_emod (x := (f k : Int) + c * (g k : Int)) (m := (p : Int))
   have h2 := Int.dvd_neg.2 this
   rwa [Int.neg_sub] at h2
 · rw [zcz _ (by omega), zcz _ (by omega), zcz _ (by omega)]; exact ⟨0, by simp⟩
theorem addK_lt {p : Nat} {f g : Nat → Nat} {c : Int} (hp : 0 < p) (k : Nat) : addK p f g c k < p := by
 unfold addK
 have h1 : 0 ≤ ((f k : Int) + c * (g k : Int)) % (p : Int) := Int.emod_nonneg _ (by omega)
 have h2 := Int.emod_lt_of_pos ((f k : Int) + c * (g k : Int)) (b := (p : Int)) (by omega)
 omega
/-- the model's product, behind j steps from the degree n downwards -/
def hmR (p : Nat) (a b m : Nat → Nat) (n : Nat) : Nat → Nat → Nat
 | 0 => fun _ => 0
 | j + 1 => resP p (addK p (upP p (hmR p a b m n j) m) a (b (n - j) : Int)) m
theorem hmR_z (p : Nat) (a b m : Nat → Nat) (n : Nat) : hmR p a b m n 0 = fun _ => 0 := rfl
theorem hmR_s (p : Nat) (a b m : Nat → Nat) (n j : Nat) : hmR p a b m n (j + 1) = resP p (addK p (upP p (hmR p a b m n j) m) a (b (n - j) : Int)) m := rfl
def tlS (b : Nat → Nat) (n j : Nat) : Nat → Int := fun k => if k < j then (b (n + 1 - j + k) : Int) else 0
theorem fin_tlS (b : Nat → Nat) (n j : Nat) : fin (tlS b n j) := ⟨j, fun k hk => by unfold tlS; rw [if_neg (by omega)]⟩
theorem hmR_spec {p n : Nat} {a b m : Nat → Nat} (hp : p = 2 ∨ p = 3 ∨ p = 5 ∨ p = 7) (ha : ∀ k, k < 64 → a k < p) (hm : ∀ k, k < 64 → m k < p) (h0 : 0 ≤ deg m) : ∀ j, j ≤ n + 1 →
 (∀ k, k < 64 → hmR p a b m n j k < p) ∧ deg (hmR p a b m n j) < deg m ∧ rm p (lz m) (mz (lz a) (tlS b n j)) (lz (hmR p a b m n j))
 | 0, _ => by
  have hp0 : 0 < p := by omega
  have hz : deg (fun _ => 0) < 0 := deg_neg_iff.2 (fun _ _ => rfl)
  refine ⟨fun _ _ => hp0, by rw [hmR_z]; omega, ?_⟩
  have e : tlS b n 0 = zS := by funext k; unfold tlS zS; rw [if_neg (by omega)]
  rw [e, mz_zS, hmR_z, lz_neg hz]
  exact rm_refl _ _ _
 | j + 1, hj => by
  have hp0 : 0 < p := by omega
  obtain ⟨i1, i2, i3⟩ := hmR_spec (n := n) (b := b) hp ha hm h0 j (by omega)
  have hadd : ∀ k, k < 64 → addK p (upP p (hmR p a b m n j) m) a (b (n - j) : Int) k < p := fun k _ => addK_lt hp0 k
  rw [hmR_s]
  refine ⟨fun k hk => resP_lt hp0 hadd k hk, (resP_deg hp hadd hm h0).1, ?_⟩
  refine rm_trans ?_ (res_rm hp hadd hm h0)
  refine rm_trans ?_ (rm_symm (rm_of_cg (addK_cg hp0)))
  have e : tlS b n (j + 1) = az (mz TS (tlS b n j)) (cz (b (n - j) : Int) oneS) := by
   rw [mz_TS]
   funext k
   unfold tlS az cz oneS
   cases k with
   | zero => simp
   | succ k =>
    simp
    by_cases h : k < j
    · rw [if_pos h, if_pos h]
      congr 1
      congr 1
      omega
    · rw [if_neg h, if_neg h]
  rw [e, mz_az2]
  refine rm_az ?_ ?_
  · rw [mz_comm TS, ← mz_assoc, mz_comm _ TS]
    refine rm_trans (rm_mz2 (fin_mz (fin_lz a) (fin_tlS b n j)) fin_TS (rm_refl _ _ _) i3) (upP_rm hp i1 hm h0 i2)
  · rw [mz_comm, mz_cz]
    have h1 : mz oneS (lz a) = lz a := mz_one _
    rw [h1]; exact rm_refl _ _ _
theorem hmR_mmP {p n : Nat} {a b m : Nat → Nat} (hp : p = 2 ∨ p = 3 ∨ p = 5 ∨ p = 7) (ha : ∀ k, k < 64 → a k < p) (hm : ∀ k, k < 64 → m k < p) (h0 : 0 ≤ deg m) (hb : deg b + 1 = (n : Int)) : ∀ k, k < 64 → hmR p a b m (n - 1) n k = mmP p a b m k := by
 have hp0 : 0 < p := by omega
 obtain ⟨b1, b2⟩ := zdb b
 have key : (∀ k, k < 64 → hmR p a b m (n - 1) n k < p) ∧ deg (hmR p a b m (n - 1) n) < deg m ∧ rm p (lz m) (mz (lz a) (tlS b (n - 1) n)) (lz (hmR p a b m (n - 1) n)) := hmR_spec hp ha hm h0 n (by omega)
 obtain ⟨i1, i2, i3⟩ := key
 have e : tlS b (n - 1) n = lz b := by
  funext k; unfold tlS lz
  by_cases h : k < n
  · rw [if_pos h, cut_in b (by omega)]; congr 2; omega
  · rw [if_neg h]
    by_cases hk : k < 64
    · rw [cut_in b hk, zero_above (f := b) (k := k) (by omega) hk]; rfl
    · rw [zcz b (by omega)]; rfl
 rw [e] at i3
 obtain ⟨d, hd⟩ : ∃ d : Nat, deg m = (d : Int) := ⟨(deg m).toNat, by omega⟩
 obtain ⟨d6, m2, m3⟩ := deg_top hd
 obtain ⟨_, _, iv3, _⟩ := invF hp m2 (hm d d6)
 have low : ∀ (f : Nat → Nat), deg f < (d : Int) → ∀ k, d ≤ k → lz f k = 0 := by
  intro f hf k hk
  unfold lz
  by_cases hk2 : k < 64
  · rw [cut_in _ hk2, zero_above (f := f) (k := k) (by omega) hk2]; rfl
  · rw [zcz _ (by omega)]; rfl
 have hu := rm_unique (d := d) (v := (invN p (m d) : Int)) (m := lz m) (f := lz (hmR p a b m (n - 1) n)) (g := lz (mmP p a b m)) (p := p) (by
  unfold lz; rw [cut_in m d6]
  have := mod_dvd p (invN p (m d) * m d)
  rw [iv3] at this
  obtain ⟨x, hx⟩ := this
  rw [Int.natCast_mul, Int.mul_comm] at hx
  exact ⟨-x, by rw [Int.mul_neg]; omega⟩) (fun k hk => lz_above hd hk) (fun k hk => by
  rw [low _ (by omega) k hk, low _ (by have := mmP_deg (a := a) (b := b) hp hm h0; omega) k hk]; exact ⟨0, by omega⟩) (rm_trans (rm_symm i3) (mmP_rm hp hm h0))
 exact lz_inj i1 (fun k hk => mmP_lt hp0 k (by omega)) hu
end Go.Proofs.Ytobcdekochenfaa
end
