/-
  What the rows of this claim rest on: arrays of bytes, walks of the functions, plain mathematics.
-/
import Derived.WalkKit
import Derived.WalkSpells
import Derived.WalkLawsBesides
import Derived.Lib.Hide
import Derived.Laws.Rows
import Derived.Laws.CopyOwn
import Derived.Deep.QuietTactic
import Derived.Deep.WholeRow
import Derived.Deep.Draws
import Derived.Deep.MidRow
import Derived.Deep.CutRange
import Derived.Deep.DeepCutAuto
import Derived.Deep.RegionHeld3
import Derived.BigQuiet
import Derived.BigRegion
import Derived.Great.BuildSlice
import Derived.Test.YtgcajgmokcmcgaaRows
import Derived.ScopeJumps
import Derived.Laws.StructEq
import Derived.Laws.Tables
import Derived.Maps.OwnOps
import Derived.DeepKeys4
import Derived.Carry
import Derived.Test.YtgcajgmokcmcgaaProg
import Derived.OwnWalk
import Derived.RangeFuncNested
import Derived.RangeFuncBound
import Derived.RangeFuncCalls
import Derived.RangeFuncLeaves
import Derived.Shelf.Abstract
import Derived.Shelf.RegionOpen
import Derived.OwnWalkIn
import Derived.TacticsInMore
import Derived.LoopNIn
import Derived.LoopIn
import Derived.Deep.CutBlock
section
namespace Go.Proofs.Ytgcajgmokcmcgaa
open Go.RowKit
theorem pA {α : Type} (l : List α) (i : Nat) (a : α) : l.toArray.setIfInBounds i a = (l.set i a).toArray := List.setIfInBounds_toArray ..
theorem pB {α : Type} (xs : List α) (x a : α) : (x :: xs).set 0 a = a :: xs := List.set_cons_zero
theorem pC {α : Type} (xs : List α) (x a : α) (i : Nat) : (x :: xs).set (i + 1) a = x :: xs.set i a := List.set_cons_succ
/-- the cells of an array of n bytes -/
def bl (n : Nat) (f : Nat → Nat) : List Value := (List.range n).map fun i => Value.int .u8 (f i : Int)
abbrev zb (n : Nat) (f : Nat → Nat) : Array Value := (bl n f).toArray
theorem zl (n : Nat) (f : Nat → Nat) : (bl n f).length = n := by simp [bl]
theorem bl_one {n : Nat} {f : Nat → Nat} : ∀ v ∈ bl n f, v.oneCell' = true := by
 intro v hv
 simp only [bl, List.mem_map] at hv
 obtain ⟨i, _, rfl⟩ := hv
 rfl

theorem zbs (n : Nat) (f : Nat → Nat) : (zb n f).size = n := by simp [bl]
theorem bcells_get {n : Nat} {f : Nat → Nat} {i : Nat} (h : i < n) : (zb n f)[i]? = some (.int .u8 (f i : Int)) := by
 simp [bl, h]
def upd (f : Nat → Nat) (i v : Nat) : Nat → Nat := fun j => if j = i then v else f j
theorem bcells_set {n : Nat} {f : Nat → Nat} {i v : Nat} : (zb n f).setIfInBounds i (.int .u8 (v : Int)) = zb n (upd f i v) := by
 apply Array.ext
 · simp [bl]
 · intro j h1 h2
   have hj : j < n := by simpa [bl] using h2
   rw [Array.getElem_setIfInBounds (by simpa [bl] using hj)]
   by_cases e : i = j
   · subst e; simp [bl, upd]
   · have e' : ¬ j = i := fun h => e h.symm
     simp [bl, upd, e, e']
theorem upd_lt {a b : Nat → Nat} {k v : Nat} (hv : v = a k) : ∀ i, upd (fun i => if i < k then a i else b i) k v i = if i < k + 1 then a i else b i := by
 intro i; subst hv; unfold upd
 by_cases e : i = k
 · subst e; simp
 · have : (i < k + 1) ↔ i < k := by omega
   simp [e, this]
theorem zbc {n : Nat} {f g : Nat → Nat} (h : ∀ i, i < n → f i = g i) : zb n f = zb n g := by
 unfold zb bl
 congr 1
 apply List.map_congr_left
 intro i hi
 rw [h i (by simpa using hi)]
theorem bcells_one (n : Nat) (f : Nat → Nat) : (zb n f).all (·.oneCell') = true :=
 Array.all_eq_true_iff_forall_mem.2 fun v hv => bl_one v (by simpa using hv)
/-- block b holds the bytes f -/
def Blk (w : World) (b n : Nat) (t : TypeId) (f : Nat → Nat) : Prop := w.heap[b]? = some (.cells (zb n f) t (0, 0))

theorem Blk.new (w : World) (n : Nat) (t : TypeId) (f : Nat → Nat) : Blk (w.alloc (.cells (zb n f) t)) w.heap.size n t f := heap_alloc_last w _
theorem Blk.lt {w : World} {b n : Nat} {t : TypeId} {f : Nat → Nat} (h : Blk w b n t f) : b < w.heap.size := by
 unfold Blk at h
 exact (Array.getElem?_eq_some_iff.1 h).1
theorem Blk.cell {w : World} {b n : Nat} {t : TypeId} {f : Nat → Nat} (h : Blk w b n t f) {i : Nat} (hi : i < n) : w.cell? ⟨b, i, none⟩ = some (.int .u8 (f i : Int)) := by
 rw [cell_of_row _ _ _ _ _ _ h]; exact bcells_get hi
theorem Blk.frozen {w : World} {b n : Nat} {t : TypeId} {f : Nat → Nat} (h : Blk w b n t f) (i : Nat) : w.frozen? ⟨b, i, none⟩ = false := frozen_of_row _ _ _ _ _ h
theorem Blk.congr {w : World} {b n : Nat} {t : TypeId} {f g : Nat → Nat} (h : Blk w b n t f) (e : ∀ i, i < n → f i = g i) : Blk w b n t g := by
 unfold Blk at *; rw [h, zbc e]
theorem Blk.set {w : World} {b n : Nat} {t : TypeId} {f : Nat → Nat} (h : Blk w b n t f) {i v : Nat} {x : Int} (e : x = (v : Int)) : Blk (w.setCell ⟨b, i, none⟩ (.int .u8 x)) b n t (upd f i v) := by
 subst e; unfold Blk at *
 rw [heap_setCell_same _ _ _ _ _ _ h, bcells_set]
theorem Blk.setOther {w : World} {b n : Nat} {t : TypeId} {f : Nat → Nat} (h : Blk w b n t f) {a : Addr} {v : Value} (e : b ≠ a.block) : Blk (w.setCell a v) b n t f := by
 unfold Blk at *; rw [heap_setCell_other _ _ _ _ e]; exact h
theorem Blk.alloc {w : World} {b n : Nat} {t : TypeId} {f : Nat → Nat} (h : Blk w b n t f) (o : Obj) : Blk (w.alloc o) b n t f := by
 have := h.lt
 unfold Blk at *; rw [Below.heap_alloc _ _ _ this]; exact h
theorem Blk.drew {w : World} {b n : Nat} {t : TypeId} {f : Nat → Nat} (h : Blk w b n t f) : Blk w.drew b n t f := h
theorem Blk.drewN {w : World} {b n : Nat} {t : TypeId} {f : Nat → Nat} (h : Blk w b n t f) (k : Nat) : Blk (w.drewN k) b n t f := by unfold Blk at *; exact h
theorem Blk.row {w : World} {b n : Nat} {t : TypeId} {f : Nat → Nat} (h : Blk w b n t f) (g : Nat → Nat) : Blk (w.setRow b (zb n g)) b n t g := setRow_heap _ _ _ _ _ _ h
theorem Blk.rowOther {w : World} {b n : Nat} {t : TypeId} {f : Nat → Nat} (h : Blk w b n t f) {k : Nat} {cs : Array Value} (e : b ≠ k) : Blk (w.setRow k cs) b n t f := by
 unfold Blk at *; rw [setRow_other _ _ _ _ e]; exact h
theorem Blk.below {w w' : World} {B b n : Nat} {t : TypeId} {f : Nat → Nat} (h : Blk w b n t f) (hb : Below B w w') (e : b < B) : Blk w' b n t f := by
 unfold Blk at *; rw [hb.block b e]; exact h

theorem Blk.zw {w w' : World} {b n : Nat} {t : TypeId} {f : Nat → Nat} (h : Blk w b n t f) (hb : Below w.heap.size w w') : Blk w' b n t f := Blk.below h hb (Blk.lt h)
theorem Blk.range {w : World} {b n : Nat} {t : TypeId} {f : Nat → Nat} (h : Blk w b n t f) : w.rangeAt b 0 (bl n f) := by
 intro j v hv
 rw [Nat.zero_add, cell_of_row _ _ _ _ _ _ h]
 simpa using hv
theorem below_drewN' {B : Nat} {a w : World} (h : Below B a w) (n : Nat) : Below B a (w.drewN n) := ⟨h.os, h.tape, h.output, h.size, h.block⟩

theorem zal (w : World) (o : Obj) : Below w.heap.size w (w.alloc o) := (Below.refl _ _).alloc (Nat.le_refl _) _
/-- y points to a block from N on that holds g -/
def PF (y : Value) (w : World) (N n : Nat) (t : TypeId) (g : Nat → Nat) : Prop := ∃ b, y = .pointer (some ⟨b, 0, none⟩) ∧ N ≤ b ∧ Blk w b n t g
def AF (y : Value) (w : World) (N n : Nat) (t : TypeId) : Prop := ∃ g, PF y w N n t g
theorem PF.below {y : Value} {w w' : World} {N n : Nat} {t : TypeId} {g : Nat → Nat} (h : PF y w N n t g) (hb : Below w.heap.size w w') : PF y w' N n t g := by
 obtain ⟨b, e, hN, hk⟩ := h
 exact ⟨b, e, hN, hk.zw hb⟩
theorem AF.below {y : Value} {w w' : World} {N n : Nat} {t : TypeId} (h : AF y w N n t) (hb : Below w.heap.size w w') : AF y w' N n t := by
 obtain ⟨g, h⟩ := h
 exact ⟨g, h.below hb⟩
theorem PF.new (w : World) {N : Nat} (n : Nat) (t : TypeId) (g : Nat → Nat) (h : N ≤ w.heap.size) : PF (.pointer (some ⟨w.heap.size, 0, none⟩)) (w.alloc (.cells (zb n g) t)) N n t g := ⟨_, rfl, h, Blk.new _ _ _ _⟩
theorem PF.row {w : World} {b N n : Nat} {t : TypeId} {f : Nat → Nat} (hb : Blk w b n t f) (hN : N ≤ b) (g : Nat → Nat) : PF (.pointer (some ⟨b, 0, none⟩)) (w.setRow b (zb n g)) N n t g := ⟨b, rfl, hN, hb.row g⟩
theorem PF.rowOther {y : Value} {w : World} {b N n : Nat} {t : TypeId} {g : Nat → Nat} {cs : Array Value} (h : PF y w N n t g) (e : y ≠ .pointer (some ⟨b, 0, none⟩)) : PF y (w.setRow b cs) N n t g := by
 obtain ⟨b', e', hN, hk⟩ := h
 refine ⟨b', e', hN, hk.rowOther ?_⟩
 rintro rfl
 exact e e'
theorem AF.row {y : Value} {w : World} {b N n m : Nat} {t u : TypeId} {f g : Nat → Nat} (h : AF y w N n t) (hb : Blk w b m u f) : AF y (w.setRow b (zb m g)) N n t := by
 obtain ⟨g', b', e', hN, hk⟩ := h
 by_cases e : b' = b
 · subst e
   have h1 := hk.symm.trans hb
   simp only [Option.some.injEq, Obj.cells.injEq, and_true] at h1
   obtain ⟨h1, h2⟩ := h1
   have h3 : n = m := by have := congrArg Array.size h1; rwa [zbs, zbs] at this
   subst h3; subst h2
   exact ⟨g, b', e', hN, hk.row g⟩
 · exact ⟨g', b', e', hN, hk.rowOther e⟩
theorem PF.out {y : Value} {w : World} {N n : Nat} {t : TypeId} {g : Nat → Nat} (h : PF y w N n t g) : ∃ b, y = .pointer (some ⟨b, 0, none⟩) ∧ N ≤ b ∧ Blk w b n t g := h
theorem AF.out {y : Value} {w : World} {N n : Nat} {t : TypeId} (h : AF y w N n t) : ∃ g b, y = .pointer (some ⟨b, 0, none⟩) ∧ N ≤ b ∧ Blk w b n t g := h
theorem zr {N b : Nat} {w0 w : World} (hb : Below N w0 w) (h : N ≤ b) (cs : Array Value) : Below N w0 (w.setRow b cs) := below_setRow hb h cs

section
variable {P : Program}
theorem run_index_blk (t e n : Nat) (f : Nat → Nat) (k : IntKind) (i : Nat) (hu : P.underlying t = some (.array n e)) (he : P.underlying e = some (.int .u8)) (hs : (P.info? e).map (·.size) = some 1) (hi : i < n) (w : World) :
 (Instr.index t (.agg (zb n f)) (.int k (i : Int))).run P w = .ok (.int .u8 (f i : Int)) w := by
 cases hq : P.info? e with
 | none => simp [hq] at hs
 | some ie =>
  have hsz : ie.size = 1 := by simpa [hq] using hs
  have hin : (0 : Int) ≤ (i : Int) ∧ (i : Int) < (n : Int) := by omega
  have hagg : (isAgg e).run P w = .ok false w := by
   unfold isAgg
   rw [Sem.run_bind, run_underlying he w]
   rfl
  have hg : (bl n f)[i]? = some (.int .u8 (f i : Int)) := by simp [bl, hi]
  simp [Instr.index, asIntOf, Sem.run_bind, run_underlying hu, sizeOf, typeInfo, hq, hsz, part, hagg, hg]
  intro h; omega
theorem wpList_store_new {ops : Array Oper} {rest : List Oper} {o : Oper} {a : Act} {w : World} {Q : Exit → Act → World → Prop} (hgd : o.guard = none) (ty : TypeId) (x y : Operand) (ho : o.op = .store ty x y)
 (old : Array Value) (t : TypeId) (n : Nat) (g : Nat → Nat) (hx : a.eval x = .pointer (some ⟨w.heap.size, 0, none⟩)) (hy : a.eval y = .agg (zb n g)) (hold : old.size = n)
 (hi : (P.info? ty).map (·.size) = some n)
 (h : wpList P ops Q rest (a.put o.dst undef) (w.alloc (.cells (zb n g) t))) : wpList P ops Q (o :: rest) a (w.alloc (.cells old t)) :=
 wpList_store_row hgd ty x y ho _ _ hx hy t old (heap_alloc_last w _) (by rw [zbs]; exact hi) (by rw [zbs]; exact hold) (bcells_one n g) (by rw [World.setRow_alloc_new]; exact h)
theorem zlb {ops : Array Oper} {rest : List Oper} {o : Oper} {a : Act} {w : World} {Q : Exit → Act → World → Prop} (hgd : o.guard = none) (ty : TypeId) (x : Operand) (ho : o.op = .load ty x)
 (b : Nat) (hx : a.eval x = .pointer (some ⟨b, 0, none⟩)) (n : Nat) (t : TypeId) (f : Nat → Nat) (hb : Blk w b n t f) (e : TypeId)
 (hu : P.underlying ty = some (.array n e)) (hi : (P.info? ty).map (·.size) = some n)
 (h : wpList P ops Q rest (a.put o.dst (.agg (zb n f))) w) : wpList P ops Q (o :: rest) a w :=
 wpList_load_row hgd ty x ho b hx t _ (0, 0) _ hb hu rfl (by rw [zbs]; exact hi) h
theorem wpList_store_blk {ops : Array Oper} {rest : List Oper} {o : Oper} {a : Act} {w : World} {Q : Exit → Act → World → Prop} (hgd : o.guard = none) (ty : TypeId) (x y : Operand) (ho : o.op = .store ty x y)
 (b : Nat) (n : Nat) (g : Nat → Nat) (hx : a.eval x = .pointer (some ⟨b, 0, none⟩)) (hy : a.eval y = .agg (zb n g)) (t : TypeId) (f : Nat → Nat) (hb : Blk w b n t f)
 (hi : (P.info? ty).map (·.size) = some n)
 (h : wpList P ops Q rest (a.put o.dst undef) (w.setRow b (zb n g))) : wpList P ops Q (o :: rest) a w :=
 wpList_store_row hgd ty x y ho b _ hx hy t _ hb (by rw [zbs]; exact hi) (by rw [zbs, zbs]) (bcells_one n g) h
theorem zrb {fn : Func} {p : Tmp} {ty : TypeId} (h : fn.results = #[.cell p ty]) (tmps : Array Value) (w : World) (b n : Nat) (t e : TypeId) (f : Nat → Nat)
 (hp : tmps.getD p undef = .pointer (some ⟨b, 0, none⟩)) (hb : Blk w b n t f) (hu : P.underlying ty = some (.array n e)) (hi : (P.info? ty).map (·.size) = some n) :
 (results fn tmps).run P w = .ok (.agg (zb n f)) w :=
 results_cell_row h tmps w b t _ (0, 0) _ hp hb hu rfl (by rw [zbs]; exact hi)
end
theorem z64 : zb 64 (fun _ => 0) = #[.int .u8 0, .int .u8 0, .int .u8 0, .int .u8 0, .int .u8 0, .int .u8 0, .int .u8 0, .int .u8 0, .int .u8 0, .int .u8 0, .int .u8 0, .int .u8 0, .int .u8 0, .int .u8 0, .int .u8 0, .int .u8 0, .int .u8 0, .int .u8 0, .int .u8 0, .int .u8 0, .int .u8 0, .int .u8 0, .int .u8 0, .int .u8 0, .int .u8 0, .int .u8 0, .int .u8 0, .int .u8 0, .int .u8 0, .int .u8 0, .int .u8 0, .int .u8 0, .int .u8 0, .int .u8 0, .int .u8 0, .int .u8 0, .int .u8 0, .int .u8 0, .int .u8 0, .int .u8 0, .int .u8 0, .int .u8 0, .int .u8 0, .int .u8 0, .int .u8 0, .int .u8 0, .int .u8 0, .int .u8 0, .int .u8 0, .int .u8 0, .int .u8 0, .int .u8 0, .int .u8 0, .int .u8 0, .int .u8 0, .int .u8 0, .int .u8 0, .int .u8 0, .int .u8 0, .int .u8 0, .int .u8 0, .int .u8 0, .int .u8 0, .int .u8 0] := by rfl
attribute [irreducible] Blk PF AF bl
end Go.Proofs.Ytgcajgmokcmcgaa
end
section
namespace Go.Proofs.Ytgcajgmokcmcgaa
def okP (p : Int) : Bool := p == 2 || p == 3 || p == 5 || p == 7
def okA (p : Int) (f : Nat → Nat) : Bool := okP p && (List.range 64).all fun i => decide ((f i : Int) < p)
theorem okP_cases {p : Int} (h : okP p = true) : p = 2 ∨ p = 3 ∨ p = 5 ∨ p = 7 := by
 simp only [okP, Bool.or_eq_true, beq_iff_eq] at h
 rcases h with ((h | h) | h) | h <;> simp [h]
theorem okP_false {p : Int} (h : okP p = false) : (p == 2) = false ∧ (p == 3) = false ∧ (p == 5) = false ∧ (p == 7) = false := by
 simp only [okP, Bool.or_eq_false_iff] at h
 exact ⟨h.1.1.1, h.1.1.2, h.1.2, h.2⟩
theorem okP_le {p : Int} (h : okP p = true) : 2 ≤ p ∧ p ≤ 7 := by rcases okP_cases h with h | h | h | h <;> subst h <;> decide
theorem okA_iff {p : Int} {f : Nat → Nat} : okA p f = true ↔ okP p = true ∧ ∀ i, i < 64 → (f i : Int) < p := by
 simp [okA, List.all_eq_true]
theorem okA_lt {p : Int} {f : Nat → Nat} (h : okA p f = true) {i : Nat} (hi : i < 64) : (f i : Int) < p := (okA_iff.1 h).2 i hi
/-- the code of a list of polynomials -/
def codeL (p : Int) (fs : List (Nat → Nat)) : Int := if okP p && fs.all (okA p) then 0 else 1
/-- f cut off at 64 -/
def cut (f : Nat → Nat) : Nat → Nat := fun i => if i < 64 then f i else 0
/-- a byte -/
def byte (f : Nat → Nat) : Prop := ∀ i, f i < 256
end Go.Proofs.Ytgcajgmokcmcgaa
end
section
namespace Go.Proofs.Ytgcajgmokcmcgaa
open Go.RowKit
theorem foldl_set : ∀ (vs : List Value) (k : Nat) (pre post old : List Value), old.length = vs.length → pre.length = k →
 (vs.zipIdx 0).foldl (fun (cs : Array Value) (x : Value × Nat) => cs.setIfInBounds (k + x.2) x.1) (pre ++ old ++ post).toArray = (pre ++ vs ++ post).toArray := by
 have key : ∀ (vs : List Value) (j k : Nat) (pre post old : List Value), old.length = vs.length → pre.length = k + j →
  (vs.zipIdx j).foldl (fun (cs : Array Value) (x : Value × Nat) => cs.setIfInBounds (k + x.2) x.1) (pre ++ old ++ post).toArray = (pre ++ vs ++ post).toArray := by
  intro vs
  induction vs with
  | nil => intro j k pre post old h _; have : old = [] := List.length_eq_zero_iff.1 h; subst this; rfl
  | cons v vs ih =>
   intro j k pre post old h hp
   cases old with
   | nil => simp at h
   | cons o old =>
    simp only [List.zipIdx_cons, List.foldl_cons]
    have e : (pre ++ o :: old ++ post).toArray.setIfInBounds (k + j) v = ((pre ++ [v]) ++ old ++ post).toArray := by
     rw [List.setIfInBounds_toArray]
     congr 1
     rw [← hp]
     simp
    rw [e, ih (j + 1) k (pre ++ [v]) post old (by simpa using h) (by simp; omega)]
    simp
 intro vs k pre post old h hp
 exact key vs 0 k pre post old h (by omega)
theorem fill_cat (sz : Nat) : ∀ (vss : List (List Value)) (k : Nat) (pre old : List Value), (∀ vs ∈ vss, vs.length = sz) → pre.length = k * sz → old.length = vss.length * sz →
 Instr.fill (fun i => some (i * sz, sz)) (pre ++ old).toArray ((vss.zipIdx k).map fun x => (x.2, Value.agg x.1.toArray)) = some (pre ++ vss.flatten).toArray := by
 intro vss
 induction vss with
 | nil => intro k pre old _ _ h; have : old = [] := List.length_eq_zero_iff.1 (by simpa using h); subst this; simp [Instr.fill]
 | cons vs vss ih =>
  intro k pre old hs hp ho
  have h1 : vs.length = sz := hs vs (by simp)
  have hlen : sz ≤ old.length := by rw [ho, List.length_cons, Nat.succ_mul]; omega
  simp only [List.zipIdx_cons, List.map_cons, Instr.fill]
  have hc : (Value.agg vs.toArray).cells = vs.toArray := rfl
  rw [hc, if_neg (by simp; omega)]
  have := foldl_set vs (k * sz) pre (old.drop sz) (old.take sz) (by simp; omega) hp
  rw [List.append_assoc, List.take_append_drop] at this
  have e : ∀ (cs : Array Value), vs.toArray.zipIdx.foldl (fun cs x => cs.setIfInBounds (k * sz + x.2) x.1) cs = (vs.zipIdx 0).foldl (fun cs x => cs.setIfInBounds (k * sz + x.2) x.1) cs := by
   intro cs
   rw [← Array.foldl_toList]
   simp
  rw [e, this]
  have := ih (k + 1) (pre ++ vs) (old.drop sz) (fun v hv => hs v (by simp [hv])) (by simp [hp, h1, Nat.succ_mul]) (by simp [ho, Nat.succ_mul])
  rw [this]
  simp

/-- block b holds the polynomials fs, one behind the other -/
def PolS (w : World) (b : Nat) (fs : List (Nat → Nat)) : Prop := w.heap[b]? = some (.cells ((fs.map (bl 64)).flatten).toArray 26 (0, 0))
theorem PolS.lt {w : World} {b : Nat} {fs : List (Nat → Nat)} (h : PolS w b fs) : b < w.heap.size := by
 unfold PolS at h
 exact (Array.getElem?_eq_some_iff.1 h).1
theorem PolS.below {w w' : World} {B b : Nat} {fs : List (Nat → Nat)} (h : PolS w b fs) (hb : Below B w w') (e : b < B) : PolS w' b fs := by
 unfold PolS at *; rw [hb.block b e]; exact h
theorem PolS.zw {w w' : World} {b : Nat} {fs : List (Nat → Nat)} (h : PolS w b fs) (hb : Below w.heap.size w w') : PolS w' b fs := PolS.below h hb (PolS.lt h)
theorem flat_get : ∀ (fs : List (Nat → Nat)) (i : Nat) (f : Nat → Nat) (j : Nat), fs[i]? = some f → j < 64 → ((fs.map (bl 64)).flatten)[i * 64 + j]? = some (.int .u8 (f j : Int))
 | [], _, _, _, h, _ => by simp at h
 | g :: fs, 0, f, j, h, hj => by
  simp only [List.getElem?_cons_zero, Option.some.injEq] at h
  subst h
  rw [List.map_cons, List.flatten_cons, Nat.zero_mul, Nat.zero_add, List.getElem?_append_left (by rw [zl]; exact hj)]
  simp [bl, hj]
 | g :: fs, i + 1, f, j, h, hj => by
  rw [List.map_cons, List.flatten_cons, List.getElem?_append_right (by rw [zl]; omega), zl]
  have := flat_get fs i f j (by simpa using h) hj
  rw [show (i + 1) * 64 + j - 64 = i * 64 + j by omega]
  exact this
theorem PolS.range {w : World} {b : Nat} {fs : List (Nat → Nat)} (h : PolS w b fs) {i : Nat} {f : Nat → Nat} (hi : fs[i]? = some f) : w.rangeAt b (i * 64) (bl 64 f) := by
 intro j v hv
 have hj : j < 64 := by
  have := (List.getElem?_eq_some_iff.1 hv).1
  rwa [zl] at this
 rw [cell_of_row _ _ _ _ _ _ h]
 have e : (bl 64 f)[j]? = some (.int .u8 (f j : Int)) := by simp [bl, hj]
 rw [e] at hv
 injection hv with hv
 subst hv
 simpa using flat_get fs i f j hi hj
section
variable {P : Program}
theorem wpList_build_polys {ops : Array Oper} {rest : List Oper} {o : Oper} {a : Act} {w : World} {Q : Exit → Act → World → Prop} (hg : o.guard = none) (t : TypeId) (parts : Array (Nat × Operand)) (fs : List (Nat → Nat))
 (ho : o.op = .buildSlice t fs.length parts) (e : TypeId) (he : e = 26)
 (hu : P.underlying t = some (.slice e)) (hie : (P.info? e).map (fun i => (i.size, i.zero.isSome)) = some (64, true)) (hpos : 0 < fs.length) (hsm : fs.length ≤ 8)
 (hp : (parts.toList.map fun x => (x.1, a.eval x.2)) = ((fs.map (bl 64)).zipIdx 0).map fun x => (x.2, Value.agg x.1.toArray))
 (h : ∀ w', w' = w.alloc (.cells ((fs.map (bl 64)).flatten).toArray e) → PolS w' w.heap.size fs → Below w.heap.size w w' → wpList P ops Q rest (a.put o.dst (.slice (some ⟨w.heap.size, 0, none⟩) fs.length fs.length)) w') : wpList P ops Q (o :: rest) a w := by
 subst he
 cases hi : P.info? 26 with
 | none => simp [hi] at hie
 | some ie =>
  simp only [hi, Option.map_some, Option.some.injEq, Prod.mk.injEq] at hie
  obtain ⟨hs, hz⟩ := hie
  obtain ⟨z, hzz⟩ := Option.isSome_iff_exists.1 hz
  refine wpList_buildSlice hg t 26 fs.length parts ho _ ie z hu hi hzz (by rw [hs]; omega) (by rw [hs]; omega) ?_ (h _ rfl (heap_alloc_last w _) (zal _ _))
  rw [Array.toList_map, hp, hs]
  have := fill_cat 64 (fs.map (bl 64)) 0 [] ((Array.range (fs.length * 64)).map (z.cells[· % z.cells.size]!)).toList (by
   intro vs hv
   obtain ⟨f, _, rfl⟩ := List.mem_map.1 hv
   exact zl _ _) (by simp) (by simp)
  rw [List.nil_append, List.nil_append, Array.toArray_toList] at this
  exact this
end
attribute [irreducible] PolS
end Go.Proofs.Ytgcajgmokcmcgaa
end
section
namespace Go.Proofs.Ytgcajgmokcmcgaa
open Go.RowKit
theorem Try.size22 : (Try.prog.info? 22).map (·.size) = some 64 := by kernel_rfl
theorem Try.size26 : (Try.prog.info? 26).map (·.size) = some 64 := by kernel_rfl
theorem Try.size5 : (Try.prog.info? 5).map (·.size) = some 1 := by kernel_rfl
theorem Try.mixed : Try.prog.follows .mixedOrders = true := by kernel_rfl
theorem ret_int {k : IntKind} {a b : Int} (h : a = b) : Ending.returned (.int k a) = .returned (.int k b) := by rw [h]
theorem ret_bool {a b : Bool} (h : a = b) : Ending.returned (.bool a) = .returned (.bool b) := by rw [h]

theorem isPrime_any (p : Int) (w : World) : Calls Try.prog 123 #[.int .i64 p] w fun e w' => e = .returned (.bool (okP p)) ∧ w = w' := by
 cases hp : okP p with
 | true =>
  rcases okP_cases hp with rfl | rfl | rfl | rfl <;>
  · go_enter Try.func123, Try.ntmps123
    go_wp2
    go_ret
    exact ⟨rfl, rfl⟩
 | false =>
  obtain ⟨h2, h3, h5, h7⟩ := okP_false hp
  go_enter Try.func123, Try.ntmps123
  go_wp2
  go_ret
  exact ⟨rfl, rfl⟩
theorem l01Prime_any (p : Int) (w : World) : Calls Try.prog 119 #[.int .i64 p] w fun e w' => e = .returned (.bool (okP p)) ∧ w = w' := by
 cases hp : okP p with
 | true =>
  rcases okP_cases hp with rfl | rfl | rfl | rfl <;>
  · go_enter Try.func119, Try.ntmps119
    go_wp2
    go_ret
    exact ⟨rfl, rfl⟩
 | false =>
  obtain ⟨h2, h3, h5, h7⟩ := okP_false hp
  go_enter Try.func119, Try.ntmps119
  go_wp2
  go_ret
  exact ⟨rfl, rfl⟩

theorem byteOk (f : Nat → Nat) (hf : byte f) (k : Nat) : (0 : Int) ≤ (f k : Int) ∧ (f k : Int) ≤ 255 := by have := hf k; omega

set_option maxHeartbeats 800000 in
theorem IsPoly_any (p : Int) (f : Nat → Nat) (hf : byte f) (w : World) : Calls Try.prog 124 #[.int .i64 p, .agg (zb 64 f)] w fun e w' => e = .returned (.bool (okA p f)) ∧ Below w.heap.size w w' := by
 cases hp : okP p with
 | false =>
  go_enter Try.func124, Try.ntmps124
  go_wp2_with (go_at_call 123; refine (isPrime_any _ _).mono ?_; rintro e w' ⟨rfl, rfl⟩)
  go_ret
  exact ⟨ret_bool (by simp [okA, hp]), (Below.refl _ _).alloc (Nat.le_refl _) _⟩
 | true =>
  have hb := okP_le hp
  go_enter Try.func124, Try.ntmps124
  go_wp2_with (first | (go_at_call 123; refine (isPrime_any _ _).mono ?_; rintro e w' ⟨rfl, rfl⟩) | refine zlb rfl 26 _ rfl _ rfl 64 26 _ (Blk.new _ _ _ _) 5 Try.underlying26 Try.size26 ?_)
  go_loop [11] (fun i => ∃ k : Nat, k ≤ 64 ∧ (∀ j, j < k → (f j : Int) < p) ∧ i = .int .i64 (k : Int)) (fun i => 64 - (intOf i).toNat)
  case atStart => exact ⟨0, by omega, fun j hj => by omega, rfl⟩
  case round =>
   obtain ⟨k, hk, hall, rfl⟩ := hrel
   have HA := Lib.hid hall; clear hall
   by_cases hlt : k < 64
   · have hx := fun W => run_index_blk (P := Try.prog) 26 5 64 f .i64 k Try.underlying26 Try.underlying5 Try.size5 hlt W
     have hfk := byteOk f hf k
     by_cases hge : p ≤ (f k : Int)
     · go_wp2_with fail
       go_ret
       refine ⟨ret_bool ?_, (Below.refl _ _).alloc (Nat.le_refl _) _⟩
       cases h : okA p f with
       | false => rfl
       | true => have := okA_lt h hlt; omega
     · go_wp2_with fail
       go_round
       case rel =>
        refine ⟨k + 1, by omega, fun j hj => ?_, by go_num⟩
        by_cases e : j = k
        · subst e; omega
        · exact HA.out j (by omega)
       case measure => simp [intOf]; omega
   · go_wp2_with fail
     go_ret
     refine ⟨ret_bool ?_, (Below.refl _ _).alloc (Nat.le_refl _) _⟩
     exact (okA_iff.2 ⟨hp, fun i hi => HA.out i (by omega)⟩).symm

set_option maxHeartbeats 800000 in
theorem l01Is_any (p : Int) (f : Nat → Nat) (hf : byte f) (w : World) : Calls Try.prog 120 #[.int .i64 p, .agg (zb 64 f)] w fun e w' => e = .returned (.bool (okA p f)) ∧ Below w.heap.size w w' := by
 go_enter Try.func120, Try.ntmps120
 go_wp2_with fail
 go_loop [5] (fun i => ∃ k : Nat, k ≤ 64 ∧ (∀ j, j < k → (f j : Int) < p) ∧ i = .int .i64 (k : Int)) (fun i => 64 - (intOf i).toNat)
 case atStart => exact ⟨0, by omega, fun j hj => by omega, rfl⟩
 case round =>
  obtain ⟨k, hk, hall, rfl⟩ := hrel
  have HA := Lib.hid hall; clear hall
  by_cases hlt : k < 64
  · have hc := (Blk.new w 64 26 f).cell hlt
    have hfk := byteOk f hf k
    by_cases hge : p ≤ (f k : Int)
    · go_wp2_with fail
      go_ret
      refine ⟨ret_bool ?_, (Below.refl _ _).alloc (Nat.le_refl _) _⟩
      cases h : okA p f with
      | false => rfl
      | true => have := okA_lt h hlt; omega
    · go_wp2_with fail
      go_round
      case rel =>
       refine ⟨k + 1, by omega, fun j hj => ?_, by go_num⟩
       by_cases e : j = k
       · subst e; omega
       · exact HA.out j (by omega)
      case measure => simp [intOf]; omega
  · go_wp2_with (go_at_call 119; refine (l01Prime_any _ _).mono ?_; rintro e w' ⟨rfl, rfl⟩)
    go_ret
    refine ⟨ret_bool ?_, (Below.refl _ _).alloc (Nat.le_refl _) _⟩
    cases hp : okP p with
    | false => simp [okA, hp]
    | true => exact (okA_iff.2 ⟨hp, fun i hi => HA.out i (by omega)⟩).symm
end Go.Proofs.Ytgcajgmokcmcgaa
end
section
namespace Go.Proofs.Ytgcajgmokcmcgaa
open Go.RowKit
theorem codeL_p {p : Int} {fs : List (Nat → Nat)} (h : okP p = false) : codeL p fs = 1 := by simp [codeL, h]
theorem codeL_bad {p : Int} {fs : List (Nat → Nat)} {k : Nat} {f : Nat → Nat} (hk : fs[k]? = some f) (h : okA p f = false) : codeL p fs = 1 := by
 have : ¬ (fs.all (okA p) = true) := by
  rw [List.all_eq_true]
  intro h2
  have := h2 f (List.mem_of_getElem? hk)
  rw [h] at this; cases this
 simp [codeL, this]
theorem codeL_ok {p : Int} {fs : List (Nat → Nat)} (hp : okP p = true) (h : ∀ (j : Nat) (f : Nat → Nat), fs[j]? = some f → okA p f = true) : codeL p fs = 0 := by
 have : fs.all (okA p) = true := by
  rw [List.all_eq_true]
  intro f hf
  obtain ⟨j, hj⟩ := List.getElem?_of_mem hf
  exact h j f hj
 simp [codeL, hp, this]
set_option maxRecDepth 100000 in
set_option maxHeartbeats 800000 in
theorem checkPolys_any (p : Int) (fs : List (Nat → Nat)) (hf : ∀ f ∈ fs, byte f) (b : Nat) (w : World) (hs : PolS w b fs) (hl : fs.length ≤ 8) :
 Calls Try.prog 76 #[.int .i64 p, .slice (some ⟨b, 0, none⟩) fs.length fs.length] w fun e w' => e = .returned (.int .i64 (codeL p fs)) ∧ Below w.heap.size w w' := by
 cases hp : okP p with
 | false =>
  go_enter Try.func76, Try.ntmps76
  go_wp2_with (go_at_call 123; refine (isPrime_any _ _).mono ?_; rintro e w' ⟨rfl, rfl⟩)
  go_ret
  exact ⟨ret_int (codeL_p hp).symm, Below.refl _ _⟩
 | true =>
  go_enter Try.func76, Try.ntmps76
  go_wp2_with (go_at_call 123; refine (isPrime_any _ _).mono ?_; rintro e w' ⟨rfl, rfl⟩)
  go_loopw [12] (fun i wr => ∃ k : Nat, k ≤ fs.length ∧ (∀ j f, j < k → fs[j]? = some f → okA p f = true) ∧ i = .int .i64 (k : Int) ∧ Below w.heap.size w wr) (fun i _ => fs.length - (intOf i).toNat)
  case atStart => exact ⟨0, by omega, fun j f hj => by omega, rfl, Below.refl _ _⟩
  case round =>
   obtain ⟨k, hk, hall, rfl, hb⟩ := hrel
   have HA := Lib.hid hall; clear hall
   by_cases hlt : k < fs.length
   · obtain ⟨f, hfk⟩ : ∃ f, fs[k]? = some f := ⟨_, List.getElem?_eq_getElem hlt⟩
     have hr := (hs.zw hb).range hfk
     have HK := Lib.hid hfk
     have hbf := hf f (List.mem_of_getElem? hfk)
     clear hfk
     have hb2 := okP_le hp
     cases hkk : okA p f with
     | false =>
      go_wp2_with (first | refine wpList_load_mid rfl 26 _ rfl b (k * 64) rfl _ _ hr Try.underlying26 rfl (by rw [zl]; exact Try.size26) ?_ | refine wpList_store_new rfl 26 _ _ rfl _ 26 64 f rfl rfl rfl Try.size26 ?_ | refine zlb rfl 26 _ rfl _ rfl 64 26 _ (Blk.new _ _ _ _) 5 Try.underlying26 Try.size26 ?_ | (go_at_call 124; refine (IsPoly_any _ _ hbf _).mono ?_; rintro e w' ⟨rfl, hw⟩))
      go_ret
      exact ⟨ret_int (codeL_bad HK.out hkk).symm, hb.trans (((zal _ _).trans (hw.mono (by simp))).mono hb.size)⟩
     | true =>
      go_wp2_with (first | refine wpList_load_mid rfl 26 _ rfl b (k * 64) rfl _ _ hr Try.underlying26 rfl (by rw [zl]; exact Try.size26) ?_ | refine wpList_store_new rfl 26 _ _ rfl _ 26 64 f rfl rfl rfl Try.size26 ?_ | refine zlb rfl 26 _ rfl _ rfl 64 26 _ (Blk.new _ _ _ _) 5 Try.underlying26 Try.size26 ?_ | (go_at_call 124; refine (IsPoly_any _ _ hbf _).mono ?_; rintro e w' ⟨rfl, hw⟩))
      go_roundw
      case rel =>
       refine ⟨k + 1, by omega, fun j g hj hg => ?_, by go_num, hb.trans (((zal _ _).trans (hw.mono (by simp))).mono hb.size)⟩
       by_cases e : j = k
       · subst e
         have := HK.out
         rw [hg] at this
         injection this with this
         subst this
         exact hkk
       · exact HA.out j g (by omega) hg
      case measure => simp [intOf]; omega
   · go_wp2_with fail
     go_ret
     refine ⟨ret_int (codeL_ok hp fun j f hj => HA.out j f ?_ hj).symm, hb⟩
     have := (List.getElem?_eq_some_iff.1 hj).1
     omega
set_option maxRecDepth 100000 in
set_option maxHeartbeats 800000 in
theorem l01Code_any (p : Int) (fs : List (Nat → Nat)) (hf : ∀ f ∈ fs, byte f) (b : Nat) (w : World) (hs : PolS w b fs) (hl : fs.length ≤ 8) :
 Calls Try.prog 74 #[.int .i64 p, .slice (some ⟨b, 0, none⟩) fs.length fs.length] w fun e w' => e = .returned (.int .i64 (codeL p fs)) ∧ Below w.heap.size w w' := by
 cases hp : okP p with
 | false =>
  go_enter Try.func74, Try.ntmps74
  go_wp2_with (go_at_call 119; refine (l01Prime_any _ _).mono ?_; rintro e w' ⟨rfl, rfl⟩)
  go_ret
  exact ⟨ret_int (codeL_p hp).symm, Below.refl _ _⟩
 | true =>
  go_enter Try.func74, Try.ntmps74
  go_wp2_with (go_at_call 119; refine (l01Prime_any _ _).mono ?_; rintro e w' ⟨rfl, rfl⟩)
  go_loopw [5] (fun i wr => ∃ k : Nat, k ≤ fs.length ∧ (∀ j f, j < k → fs[j]? = some f → okA p f = true) ∧ i = .int .i64 (k : Int) ∧ Below w.heap.size w wr) (fun i _ => fs.length - (intOf i).toNat)
  case atStart => exact ⟨0, by omega, fun j f hj => by omega, rfl, Below.refl _ _⟩
  case round =>
   obtain ⟨k, hk, hall, rfl, hb⟩ := hrel
   have HA := Lib.hid hall; clear hall
   by_cases hlt : k < fs.length
   · obtain ⟨f, hfk⟩ : ∃ f, fs[k]? = some f := ⟨_, List.getElem?_eq_getElem hlt⟩
     have hr := (hs.zw hb).range hfk
     have HK := Lib.hid hfk
     have hbf := hf f (List.mem_of_getElem? hfk)
     clear hfk
     cases hkk : okA p f with
     | false =>
      go_wp2_with (first | refine wpList_load_mid rfl 26 _ rfl b (k * 64) rfl _ _ hr Try.underlying26 rfl (by rw [zl]; exact Try.size26) ?_ | (go_at_call 120; refine (l01Is_any _ _ hbf _).mono ?_; rintro e w' ⟨rfl, hw⟩))
      go_ret
      exact ⟨ret_int (codeL_bad HK.out hkk).symm, hb.trans (hw.mono hb.size)⟩
     | true =>
      go_wp2_with (first | refine wpList_load_mid rfl 26 _ rfl b (k * 64) rfl _ _ hr Try.underlying26 rfl (by rw [zl]; exact Try.size26) ?_ | (go_at_call 120; refine (l01Is_any _ _ hbf _).mono ?_; rintro e w' ⟨rfl, hw⟩))
      go_roundw
      case rel =>
       refine ⟨k + 1, by omega, fun j g hj hg => ?_, by go_num, hb.trans (hw.mono hb.size)⟩
       by_cases e : j = k
       · subst e
         have := HK.out
         rw [hg] at this
         injection this with this
         subst this
         exact hkk
       · exact HA.out j g (by omega) hg
      case measure => simp [intOf]; omega
   · go_wp2_with fail
     go_ret
     refine ⟨ret_int (codeL_ok hp fun j f hj => HA.out j f ?_ hj).symm, hb⟩
     have := (List.getElem?_eq_some_iff.1 hj).1
     omega
end Go.Proofs.Ytgcajgmokcmcgaa
end
section
namespace Go.Proofs.Ytgcajgmokcmcgaa
open Go.RowKit
set_option linter.unusedVariables false
set_option maxRecDepth 100000 in
set_option maxHeartbeats 400000 in
theorem toPoly_any (f : Nat → Nat) (hf : byte f) (w : World) : Calls Try.prog 19 #[.agg (zb 64 f)] w fun e w' => e = .returned (.agg (zb 64 f)) ∧ Below w.heap.size w w' := by
 go_enter Try.func19, Try.ntmps19
 go_wp2_with fail
 rw [← z64]
 go_loopw [4] (fun i wr => ∃ k : Nat, k ≤ 64 ∧ i = .int .i64 (k : Int) ∧ Below w.heap.size w wr ∧ Blk wr w.heap.size 64 22 f ∧ Blk wr (w.heap.size + 1) 64 26 (fun _ => 0) ∧ Blk wr (w.heap.size + 1 + 1) 64 26 (fun i => if i < k then f i else 0)) (fun i _ => 64 - (intOf i).toNat)
 case atStart =>
  refine ⟨0, by omega, rfl, (((Below.refl _ _).alloc (Nat.le_refl _) _).alloc (by simp) _).alloc (by simp; omega) _, ?_, ?_, ?_⟩
  · exact (((Blk.new w _ _ _).alloc _).alloc _)
  · have := ((Blk.new (w.alloc (.cells (zb 64 f) 22)) 64 26 (fun _ => 0)).alloc (.cells (zb 64 fun _ => 0) 26)); simpa using this
  · have := (Blk.new ((w.alloc (.cells (zb 64 f) 22)).alloc (.cells (zb 64 fun _ => 0) 26)) 64 26 (fun _ => 0)); simpa using this
 case round =>
  obtain ⟨k, hk, rfl, hb, h0, h1, h2⟩ := hrel
  by_cases hlt : k < 64
  · have c4 := h0.cell hlt
    have c5 := h2.cell hlt
    have z4 := h2.frozen k
    have b1 := byteOk f hf k
    go_wp2_with fail
    go_roundw
    case rel =>
     refine ⟨k + 1, by omega, by go_num, hb.setCell (by simp; omega) _, ?_, ?_, ?_⟩
     · exact h0.setOther (by simp; omega)
     · exact h1.setOther (by simp)
     · exact (h2.set (v := f k) rfl).congr (fun i _ => upd_lt (a := f) rfl i)
    case measure => simp [intOf]; omega
  · have e : k = 64 := by omega
    subst e
    go_wp2_with (first | refine zlb rfl 26 _ rfl _ rfl 64 26 _ (h2) 5 Try.underlying26 Try.size26 ?_ | refine wpList_store_blk rfl 26 _ _ rfl _ 64 ((fun i => if i < 64 then f i else 0)) rfl rfl 26 _ (h1) Try.size26 ?_)
    refine bodyPost_ret (zrb rfl _ _ _ 64 26 5 _ rfl (h1.row _) Try.underlying26 Try.size26) rfl ⟨?_, ?_⟩
    · rw [zbc (g := f)]
      intro i hi; simp [hi]
    · exact below_setRow hb (by omega) _

end Go.Proofs.Ytgcajgmokcmcgaa
end
section
namespace Go.Proofs.Ytgcajgmokcmcgaa
open Go.RowKit
set_option linter.unusedVariables false
theorem Try.elem26 : (Try.prog.info? 26).map (fun i => (i.size, i.zero.isSome)) = some (64, true) := by kernel_rfl
theorem codeL_two (p : Int) (fs : List (Nat → Nat)) : codeL p fs = 0 ∨ codeL p fs = 1 := by
 unfold codeL; split <;> simp
theorem codeL_zero {p : Int} {fs : List (Nat → Nat)} (h : codeL p fs = 0) : okP p = true ∧ ∀ f ∈ fs, okA p f = true := by
 unfold codeL at h
 split at h
 · rename_i h'
   simpa [List.all_eq_true] using h'
 · cases h
end Go.Proofs.Ytgcajgmokcmcgaa
end
section
namespace Go.Proofs.Ytgcajgmokcmcgaa
open Go.RowKit
set_option linter.unusedVariables false
theorem okP_nat {p : Int} (h : okP p = true) : ∃ n : Nat, p = (n : Int) ∧ 2 ≤ n ∧ n ≤ 7 := by
 have := okP_le h
 exact ⟨p.toNat, by omega, by omega, by omega⟩
theorem lt_of_code {n : Nat} {fs : List (Nat → Nat)} (hc : codeL (n : Int) fs = 0) {f : Nat → Nat} (h : f ∈ fs) : ∀ i, i < 64 → f i < n := by
 intro i hi
 have := okA_lt ((codeL_zero hc).2 f h) hi
 omega
def degB (f : Nat → Nat) : Nat → Int
 | 0 => -1
 | n + 1 => if f n ≠ 0 then (n : Int) else degB f n
def deg (f : Nat → Nat) : Int := degB f 64
theorem degB_step {f : Nat → Nat} {k : Nat} (h : f k = 0) : degB f (k + 1) = degB f k := by simp [degB, h]
theorem degB_hit {f : Nat → Nat} {k : Nat} (h : f k ≠ 0) : degB f (k + 1) = (k : Int) := by simp [degB, h]
set_option maxHeartbeats 400000 in
theorem degree_any (f : Nat → Nat) (w : World) :
 Calls Try.prog 69 #[.agg (zb 64 f)] w fun e w' => e = .returned (.int .i64 (deg f)) ∧ Below w.heap.size w w' := by
 go_enter Try.func69, Try.ntmps69
 go_wp2_with fail
 go_loop [3] (fun i => ∃ k : Nat, k ≤ 64 ∧ degB f 64 = degB f k ∧ i = .int .i64 ((k : Int) - 1)) (fun i => (intOf i + 1).toNat)
 case atStart => exact ⟨64, by omega, rfl, by rfl⟩
 case round =>
  obtain ⟨k, hk, hd, rfl⟩ := hrel
  have hD := Lib.hid hd; clear hd
  rcases k with _ | k
  · go_wp2
    go_ret
    exact ⟨ret_int (by rw [deg, hD.out]; rfl), (Below.refl _ _).alloc (Nat.le_refl _) _⟩
  · have hc := (Blk.new w 64 26 f).cell (i := k) (by omega)
    have e1 : ((k + 1 : Nat) : Int) - 1 = (k : Int) := by omega
    rw [e1]
    by_cases h0 : f k = 0
    · have hb : ((f k : Int) != 0) = false := by simp [h0]
      go_wp2
      go_round
      case rel => exact ⟨k, by omega, by rw [hD.out, degB_step h0], by go_num⟩
      case measure => simp [intOf]
    · have hb : ((f k : Int) != 0) = true := by simpa using h0
      go_wp2
      go_ret
      exact ⟨ret_int (by rw [deg, hD.out, degB_hit h0]), (Below.refl _ _).alloc (Nat.le_refl _) _⟩
set_option maxHeartbeats 400000 in
theorem l01Deg_any (f : Nat → Nat) (w : World) :
 Calls Try.prog 63 #[.agg (zb 64 f)] w fun e w' => e = .returned (.int .i64 (deg f)) ∧ Below w.heap.size w w' := by
 go_enter Try.func63, Try.ntmps63
 go_wp2_with fail
 go_loop [3] (fun i => ∃ k : Nat, k ≤ 64 ∧ degB f 64 = degB f k ∧ i = .int .i64 ((k : Int) - 1)) (fun i => (intOf i + 1).toNat)
 case atStart => exact ⟨64, by omega, rfl, by rfl⟩
 case round =>
  obtain ⟨k, hk, hd, rfl⟩ := hrel
  have hD := Lib.hid hd; clear hd
  rcases k with _ | k
  · go_wp2
    go_ret
    exact ⟨ret_int (by rw [deg, hD.out]; rfl), (Below.refl _ _).alloc (Nat.le_refl _) _⟩
  · have hc := (Blk.new w 64 26 f).cell (i := k) (by omega)
    have e1 : ((k + 1 : Nat) : Int) - 1 = (k : Int) := by omega
    rw [e1]
    by_cases h0 : f k = 0
    · have hb : ((f k : Int) == 0) = true := by simp [h0]
      go_wp2
      go_round
      case rel => exact ⟨k, by omega, by rw [hD.out, degB_step h0], by go_num⟩
      case measure => simp [intOf]
    · have hb : ((f k : Int) == 0) = false := by simpa using h0
      go_wp2
      go_ret
      exact ⟨ret_int (by rw [deg, hD.out, degB_hit h0]), (Below.refl _ _).alloc (Nat.le_refl _) _⟩
end Go.Proofs.Ytgcajgmokcmcgaa
end
section
namespace Go.Proofs.Ytgcajgmokcmcgaa
open Go.RowKit
set_option linter.unusedVariables false
theorem degB_spec (f : Nat → Nat) : ∀ k, (degB f k = -1 ∧ ∀ j, j < k → f j = 0) ∨ ∃ d, d < k ∧ degB f k = (d : Int) ∧ f d ≠ 0 ∧ ∀ j, d < j → j < k → f j = 0
 | 0 => .inl ⟨rfl, fun j hj => by omega⟩
 | k + 1 => by
  by_cases h : f k = 0
  · rw [degB_step h]
    rcases degB_spec f k with ⟨e, hz⟩ | ⟨d, hd, e, hne, hz⟩
    · refine .inl ⟨e, fun j hj => ?_⟩
      by_cases hj2 : j = k
      · rw [hj2]; exact h
      · exact hz j (by omega)
    · refine .inr ⟨d, by omega, e, hne, fun j h1 h2 => ?_⟩
      by_cases hj2 : j = k
      · rw [hj2]; exact h
      · exact hz j h1 (by omega)
  · exact .inr ⟨k, by omega, degB_hit h, h, fun j h1 h2 => by omega⟩
theorem deg_spec (f : Nat → Nat) : (deg f = -1 ∧ ∀ j, j < 64 → f j = 0) ∨ ∃ d : Nat, d < 64 ∧ deg f = (d : Int) ∧ f d ≠ 0 ∧ ∀ j : Nat, d < j → j < 64 → f j = 0 := degB_spec f 64
set_option maxHeartbeats 400000 in
theorem l01In_any (n l h : Int) (w : World) : Calls Try.prog 64 #[.int .i64 n, .int .i64 l, .int .i64 h] w fun e w' => e = .returned (.bool (decide (l ≤ n ∧ n ≤ h))) ∧ w = w' := by
 by_cases h1 : l ≤ n
 · by_cases h2 : n ≤ h
   · go_enter Try.func64, Try.ntmps64
     go_wp2
     go_ret
     exact ⟨ret_bool (by simp [h1, h2]), rfl⟩
   · go_enter Try.func64, Try.ntmps64
     go_wp2
     go_ret
     exact ⟨ret_bool (by simp [h2]), rfl⟩
 · go_enter Try.func64, Try.ntmps64
   go_wp2
   go_ret
   exact ⟨ret_bool (by simp; omega), rfl⟩
theorem l01In_yes (n l h : Int) (h1 : l ≤ n ∧ n ≤ h) (w : World) : Calls Try.prog 64 #[.int .i64 n, .int .i64 l, .int .i64 h] w fun e w' => e = .returned (.bool true) ∧ w = w' :=
 (l01In_any n l h w).mono fun _ _ ⟨a, b⟩ => ⟨by rw [a, decide_eq_true h1], b⟩
theorem l01In_no (n l h : Int) (h1 : ¬ (l ≤ n ∧ n ≤ h)) (w : World) : Calls Try.prog 64 #[.int .i64 n, .int .i64 l, .int .i64 h] w fun e w' => e = .returned (.bool false) ∧ w = w' :=
 (l01In_any n l h w).mono fun _ _ ⟨a, b⟩ => ⟨by rw [a, decide_eq_false h1], b⟩
end Go.Proofs.Ytgcajgmokcmcgaa
end
section
namespace Go.Proofs.Ytgcajgmokcmcgaa
open Go.RowKit
set_option linter.unusedVariables false
/-- digit i of n at base p -/
def dgt (p n i : Nat) : Nat := n / p ^ i % p
def ofN (p : Nat) (n : Nat) : Nat → Nat := fun i => dgt p n i
end Go.Proofs.Ytgcajgmokcmcgaa
end
section
namespace Go.Proofs.Ytgcajgmokcmcgaa
open Go.RowKit
def setL (L : Nat → Bool) (i : Nat) : Nat → Bool := fun j => if j = i then true else L j
def updV (v : Nat → Value) (i : Nat) (y : Value) : Nat → Value := fun j => if j = i then y else v j
/-- the frame a0 with the value v i laid into the slot of operation i, for each i -/
def frL (a0 : Act) : List Oper → Nat → (Nat → Value) → Act
 | [], _, _ => a0
 | o :: os, k, v => frL (a0.put o.dst (v k)) os (k + 1) v
theorem zdq {A : Array Edge} {L : Nat → Bool} (hd : ∀ e, e ∈ A → Region.binds .any e = true → L e.on = true) (i : Nat) (h : A.toList.any (fun e => e.on == i && Region.binds .any e) = true) : L i = true := by
 obtain ⟨e, he, h2⟩ := List.any_eq_true.1 h
 simp only [Bool.and_eq_true, beq_iff_eq] at h2
 rw [← h2.1]
 exact hd e (by simpa using he) h2.2
def fr (a0 : Act) (ops : Array Oper) (v : Nat → Value) : Act := frL a0 ops.toList 0 v

/-- all later edges lead back; no slot is written twice -/
def edgesOk (ops : Array Oper) : Bool := (List.range ops.size).all fun i => (ops[i]?.map fun o => o.after.all fun e => !Region.binds .any e || decide (e.on < i)).getD true
def dstsOkL : List Oper → Bool
 | [] => true
 | o :: os => (match o.dst with | none => true | some d => os.all fun q => q.dst != some d) && dstsOkL os
theorem put_comm {a : Act} {d e : Option Tmp} {x y : Value} (h : d = none ∨ d ≠ e) : (a.put d x).put e y = (a.put e y).put d x := by
 cases d with
 | none => cases e <;> rfl
 | some d =>
  cases e with
  | none => rfl
  | some e =>
   have hne : d ≠ e := by
    rcases h with h | h
    · cases h
    · exact fun h' => h (by rw [h'])
   simp only [Act.put]
   congr 1
   apply Array.ext_getElem?
   intro j
   simp only [Array.getElem?_setIfInBounds, Array.size_setIfInBounds]
   by_cases h1 : e = j <;> by_cases h2 : d = j <;> simp_all
theorem put_twice {a : Act} {d : Option Tmp} {x y : Value} : (a.put d x).put d y = a.put d y := by
 cases d with
 | none => rfl
 | some d => simp [Act.put]
theorem frL_congr : ∀ (os : List Oper) (a0 : Act) (k : Nat) (v v' : Nat → Value), (∀ j, k ≤ j → v j = v' j) → frL a0 os k v = frL a0 os k v'
 | [], _, _, _, _, _ => rfl
 | o :: os, a0, k, v, v', h => by
  simp only [frL]
  rw [h k (Nat.le_refl _)]
  exact frL_congr os _ (k + 1) v v' fun j hj => h j (by omega)
theorem frL_put : ∀ (os : List Oper) (a0 : Act) (k : Nat) (v : Nat → Value) (d : Option Tmp) (y : Value), (d = none ∨ os.all (fun q => q.dst != d) = true) → (frL a0 os k v).put d y = frL (a0.put d y) os k v
 | [], _, _, _, _, _, _ => rfl
 | o :: os, a0, k, v, d, y, h => by
  simp only [frL]
  have h' : d = none ∨ os.all (fun q => q.dst != d) = true := by
   rcases h with h | h
   · exact .inl h
   · simp only [List.all_cons, Bool.and_eq_true] at h; exact .inr h.2
  rw [frL_put os _ (k + 1) v d y h']
  congr 1
  rcases h with h | h
  · subst h; rfl
  · simp only [List.all_cons, Bool.and_eq_true] at h
    have : o.dst ≠ d := by simpa using h.1
    exact put_comm (.inr this)
theorem frL_step : ∀ (os : List Oper) (a0 : Act) (k : Nat) (v : Nat → Value) (i : Nat) (o : Oper) (y : Value), dstsOkL os = true → os[i]? = some o → (frL a0 os k v).put o.dst y = frL a0 os k (updV v (k + i) y)
 | [], _, _, _, _, _, _, _, h => by simp at h
 | p :: os, a0, k, v, 0, o, y, hd, h => by
  simp only [List.getElem?_cons_zero, Option.some.injEq] at h
  subst h
  simp only [dstsOkL, Bool.and_eq_true] at hd
  have h' : p.dst = none ∨ os.all (fun q => q.dst != p.dst) = true := by
   cases hp : p.dst with
   | none => exact .inl rfl
   | some d => right; have := hd.1; rw [hp] at this; exact this
  simp only [frL, Nat.add_zero]
  rw [frL_put os _ (k + 1) v p.dst y h', put_twice]
  have : updV v k y k = y := by simp [updV]
  rw [this]
  exact frL_congr os _ (k + 1) _ _ fun j hj => by simp [updV, show j ≠ k by omega]
 | p :: os, a0, k, v, i + 1, o, y, hd, h => by
  simp only [dstsOkL, Bool.and_eq_true] at hd
  simp only [List.getElem?_cons_succ] at h
  simp only [frL]
  rw [frL_step os _ (k + 1) v i o y hd.2 h]
  have e1 : updV v (k + (i + 1)) y k = v k := by simp [updV]
  have e2 : k + 1 + i = k + (i + 1) := by omega
  rw [e1, e2]
theorem put_self {a : Act} {d : Option Tmp} : (a.put d ((d.map fun t => a.tmps.getD t undef).getD undef)) = a := by
 cases d with
 | none => rfl
 | some d =>
  simp only [Act.put, Option.map_some, Option.getD_some]
  cases a with
  | mk t ds =>
   congr 1
   apply Array.ext_getElem?
   intro j
   simp only [Array.getElem?_setIfInBounds]
   by_cases h : d = j
   · subst h
     by_cases hs : d < t.size <;> simp [hs]
   · simp [h]
theorem frL_start : ∀ (os : List Oper) (a0 : Act) (k : Nat) (v : Nat → Value), (∀ i o, os[i]? = some o → v (k + i) = ((o.dst.map fun t => a0.tmps.getD t undef).getD undef)) → frL a0 os k v = a0
 | [], _, _, _, _ => rfl
 | o :: os, a0, k, v, h => by
  simp only [frL]
  have h0 := h 0 o rfl
  rw [Nat.add_zero] at h0
  rw [h0, put_self]
  exact frL_start os a0 (k + 1) v fun i p hp => by
   have := h (i + 1) p (by simpa using hp)
   rw [show k + 1 + i = k + (i + 1) by omega]
   exact this
end Go.Proofs.Ytgcajgmokcmcgaa
end
section
namespace Go.Proofs.Ytgcajgmokcmcgaa
open Go Go.RowKit
def VF (L : Nat → Bool) (v : Nat → Value) (vals : List (Option Value)) : Prop := ∀ i x, vals[i]? = some (some x) → L i = true → v i = x
theorem VF.start {v : Nat → Value} {vals : List (Option Value)} : VF (fun _ => false) v vals := fun _ _ _ h => by cases h
theorem VF.at {L : Nat → Bool} {v : Nat → Value} {vals : List (Option Value)} (h : VF L v vals) {i : Nat} {x : Value} (hL : L i = true) (e : vals[i]? = some (some x)) : v i = x := h i x e hL
theorem VF.step {L : Nat → Bool} {v : Nat → Value} {vals : List (Option Value)} (h : VF L v vals) (i : Nat) {y : Value} (e : vals[i]? = some (some y)) : VF (setL L i) (updV v i y) vals := fun j x hj hL => by
 unfold setL at hL
 unfold updV
 by_cases c : j = i
 · subst c
   rw [e] at hj
   injection hj with hj
   injection hj with hj
   rw [if_pos rfl]; exact hj
 · rw [if_neg c] at hL ⊢
   exact h j x hj hL
theorem VF.skip {L : Nat → Bool} {v : Nat → Value} {vals : List (Option Value)} (h : VF L v vals) (i : Nat) {y : Value} (e : vals[i]? = some none) : VF (setL L i) (updV v i y) vals := fun j x hj hL => by
 unfold setL at hL
 unfold updV
 by_cases c : j = i
 · subst c
   rw [e] at hj
   injection hj with hj
   cases hj
 · rw [if_neg c] at hL ⊢
   exact h j x hj hL
attribute [irreducible] VF
end Go.Proofs.Ytgcajgmokcmcgaa
end
section
namespace Go.Proofs.Ytgcajgmokcmcgaa
open Go.RowKit
set_option linter.unusedVariables false
set_option linter.unusedSimpArgs false
attribute [local irreducible] deg
theorem Blk.pre {w : World} {b n m : Nat} {t : TypeId} {f : Nat → Nat} (h : Blk w b n t f) (hm : m ≤ n) : w.rangeAt b 0 (bl m f) := by
 intro j v hv
 have hj : j < m := by
  have := (List.getElem?_eq_some_iff.1 hv).1
  rwa [zl] at this
 have e : (bl m f)[j]? = some (.int .u8 (f j : Int)) := by have := bcells_get (f := f) hj; simpa using this
 rw [e] at hv
 injection hv with hv
 subst hv
 rw [Nat.zero_add]
 exact h.cell (by omega)
theorem zdb (f : Nat → Nat) : -1 ≤ deg f ∧ deg f ≤ 63 := by
 rcases deg_spec f with ⟨e, _⟩ | ⟨d, hd, e, _⟩ <;> omega
end Go.Proofs.Ytgcajgmokcmcgaa
end
section
namespace Go.Proofs.Ytgcajgmokcmcgaa
/-- one step of the division at n: c times b, moved by n - m, is taken away -/
def stp (p inv m : Nat) (b : Nat → Nat) (n : Nat) (a : Nat → Nat) : Nat → Nat :=
 fun k => if n - m ≤ k ∧ k ≤ n then (a k + (p - a n * inv % p) * b (k - (n - m))) % p else a k
/-- behind the steps at 127, .., 128 - i -/
def dS (p inv m : Nat) (b a : Nat → Nat) : Nat → Nat → Nat
 | 0 => a
 | i + 1 => stp p inv m b (127 - i) (dS p inv m b a i)
/-- the quotient's digit at k, from the step at k + m -/
def qd (p inv m : Nat) (b a : Nat → Nat) (k : Nat) : Nat := dS p inv m b a (127 - (k + m)) (k + m) * inv % p
/-- the quotient behind i steps -/
def qS (p inv m : Nat) (b a : Nat → Nat) (i : Nat) : Nat → Nat := fun k => if 128 - i ≤ k + m ∧ k + m ≤ 127 then qd p inv m b a k else 0
/-- quotient and rest of a (up to 127) by b, m its degree, inv the inverse of its leading coefficient -/
def quoW (p inv m : Nat) (b a : Nat → Nat) : Nat → Nat := qS p inv m b a (128 - m)
def resW (p inv m : Nat) (b a : Nat → Nat) : Nat → Nat := dS p inv m b a (128 - m)
/-- the number whose product with c is 1 -/
def invN (p c : Nat) : Nat := ((List.range 7).find? fun k => k * c % p == 1).getD 0
end Go.Proofs.Ytgcajgmokcmcgaa
end
section
namespace Go.Proofs.Ytgcajgmokcmcgaa
attribute [local irreducible] deg invN
/-- quotient and rest of a by b, other than 0 -/
def quoP (p : Nat) (a b : Nat → Nat) : Nat → Nat := quoW p (invN p (b (deg b).toNat)) (deg b).toNat b (cut a)
def resP (p : Nat) (a b : Nat → Nat) : Nat → Nat := resW p (invN p (b (deg b).toNat)) (deg b).toNat b (cut a)
end Go.Proofs.Ytgcajgmokcmcgaa
end
section
namespace Go.Proofs.Ytgcajgmokcmcgaa
attribute [local irreducible] deg invN
/-- the sum of t below n -/
def cs : Nat → (Nat → Int) → Int
 | 0, _ => 0
 | n + 1, t => cs n t + t n
def sz (f g : Nat → Int) : Nat → Int := fun k => f k - g k
end Go.Proofs.Ytgcajgmokcmcgaa
end
section
namespace Go.Proofs.Ytgcajgmokcmcgaa
/-- sums and products as in the whole numbers -/
class Rg (R : Type) extends Add R, Mul R, Neg R where
 o : R
 e : R
 acomm : ∀ a b : R, a + b = b + a
 aassoc : ∀ a b c : R, a + b + c = a + (b + c)
 oadd : ∀ a : R, o + a = a
 nadd : ∀ a : R, -a + a = o
 mcomm : ∀ a b : R, a * b = b * a
 massoc : ∀ a b c : R, a * b * c = a * (b * c)
 emul : ∀ a : R, e * a = a
 madd : ∀ a b c : R, a * (b + c) = a * b + a * c
namespace Rg
variable {R : Type} [Rg R]
/-- a^n -/
def pw (a : R) : Nat → R
 | 0 => e
 | n + 1 => a * pw a n
/-- k times a -/
def nm : Nat → R → R
 | 0, _ => o
 | k + 1, a => nm k a + a
/-- the sum of c(i) x^i y^(n - i), for the n + 1 numbers of a list -/
def hm (x y : R) : List Nat → R
 | [] => o
 | c :: cs => nm c (pw y cs.length) + x * hm x y cs
def pas : Nat → List Nat → List Nat
 | q, [] => [q]
 | q, c :: cs => (q + c) :: pas c cs
def row : Nat → List Nat
 | 0 => [1]
 | n + 1 => pas 0 (row n)
end Rg
end Go.Proofs.Ytgcajgmokcmcgaa
set_option linter.unusedVariables false
set_option linter.unusedVariables false
set_option linter.unusedVariables false
namespace Go.Proofs.Ytgcajgmokcmcgaa
attribute [local irreducible] deg invN quoP resP
/-- the number with the digits f below n -/
def vl (p : Nat) (f : Nat → Nat) : Nat → Nat
 | 0 => 0
 | n + 1 => f 0 + p * vl p (fun k => f (k + 1)) n
/-- the numbers of the monic polynomials of the degree n -/
def monL (p n : Nat) : List Nat := List.range' (p ^ n) (p ^ n)
/-- how often m divides a, and what is left -/
def dvo (p : Nat) (m : Nat → Nat) : Nat → (Nat → Nat) → Nat × (Nat → Nat)
 | 0, a => (0, a)
 | f + 1, a => if deg (resP p a m) < 0 then ((dvo p m f (quoP p a m)).1 + 1, (dvo p m f (quoP p a m)).2) else (0, a)
end Go.Proofs.Ytgcajgmokcmcgaa
set_option linter.unusedVariables false
namespace Go.Proofs.Ytgcajgmokcmcgaa
attribute [local irreducible] deg invN quoP resP
/-- all of a list, divided out one after the other: what is told, and what is left -/
def foR (p : Nat) : List Nat → (Nat → Nat) → List (Nat × Nat) × (Nat → Nat)
 | [], a => ([], a)
 | N :: ms, a => ((if 0 < (dvo p (ofN p N) 64 a).1 then [(N, (dvo p (ofN p N) 64 a).1)] else []) ++ (foR p ms (dvo p (ofN p N) 64 a).2).1, (foR p ms (dvo p (ofN p N) 64 a).2).2)
/-- degree by degree -/
def run (p : Nat) : Nat → Nat → (Nat → Nat) → List (Nat × Nat)
 | 0, _, _ => []
 | f + 1, n, a => if deg a ≤ 0 then [] else (foR p (monL p n) a).1 ++ run p f (n + 1) (foR p (monL p n) a).2
end Go.Proofs.Ytgcajgmokcmcgaa
set_option linter.unusedVariables false
set_option linter.unusedVariables false
set_option linter.unusedVariables false
set_option linter.unusedVariables false
end
section
namespace Go.Proofs.Ytgcajgmokcmcgaa
open Go.RowKit
set_option linter.unusedVariables false
set_option linter.unusedSimpArgs false
attribute [local irreducible] deg invN dS qS stp
/-- the first scope within a code -/
def scopeIn : Code → Option Code
 | .seq a b => match scopeIn a with
  | some c => some c
  | none => scopeIn b
 | .scope c => some c
 | _ => none
/-- what stands behind a label of the first scope -/
def behind (fn : Func) (l : Nat) : Code := (findLabel ((fn.body.bind scopeIn).getD .skip) l).getD .skip
end Go.Proofs.Ytgcajgmokcmcgaa
end
section
namespace Go.Proofs.Ytgcajgmokcmcgaa
open Go.RowKit
set_option linter.unusedVariables false
set_option linter.unusedSimpArgs false
attribute [local irreducible] deg invN dS qS stp quoP resP
theorem prime_of {n : Nat} {fs : List (Nat → Nat)} (h : codeL (n : Int) fs = 0) : n = 2 ∨ n = 3 ∨ n = 5 ∨ n = 7 := by
 rcases okP_cases (codeL_zero h).1 with h | h | h | h <;> omega
end Go.Proofs.Ytgcajgmokcmcgaa
end
section
namespace Go.Proofs.Ytgcajgmokcmcgaa
open Go Go.RowKit
section
variable {P : Program}
theorem wp_load_any {o : Oper} {a : Act} {w : World} {K : Act → World → Prop} {Q : Exit → Act → World → Prop} (ty : TypeId) (x : Operand) (ho : o.op = .load ty x)
 (b : Nat) (hx : a.eval x = .pointer (some ⟨b, 0, none⟩)) (n : Nat) (t : TypeId) (f : Nat → Nat) (hb : Blk w b n t f) (d : TypeDesc)
 (hu : P.underlying ty = some d) (hd : (match d with | .struct _ | .array _ _ => true | _ => false) = true) (hi : (P.info? ty).map (·.size) = some n) (h : K (a.put o.dst (.agg (zb n f))) w) : o.wp P a w K Q := by
 have hb' : w.heap[b]? = some (.cells (zb n f) t (0, 0)) := by unfold Blk at hb; exact hb
 exact wp_load_row ty x ho b hx t _ (0, 0) d hb' hu hd (by rw [zbs]; exact hi) h
theorem zlc {o : Oper} {a : Act} {w : World} {K : Act → World → Prop} {Q : Exit → Act → World → Prop} {ty : TypeId} {x : Operand} {b n : Nat} {t : TypeId} {f : Nat → Nat} {d : TypeDesc} (hb : Blk w b n t f) (hu : P.underlying ty = some d) (hi : (P.info? ty).map (·.size) = some n) (h : K (a.put o.dst (.agg (zb n f))) w) (ho : o.op = .load ty x := by rfl) (hx : a.eval x = .pointer (some ⟨b, 0, none⟩) := by rfl) (hd : (match d with | .struct _ | .array _ _ => true | _ => false) = true := by rfl) : o.wp P a w K Q := wp_load_any ty x ho b hx n t f hb d hu hd hi h
theorem wpList_load_any {ops : Array Oper} {rest : List Oper} {o : Oper} {a : Act} {w : World} {Q : Exit → Act → World → Prop} (hgd : o.guard = none) (ty : TypeId) (x : Operand) (ho : o.op = .load ty x)
 (b : Nat) (hx : a.eval x = .pointer (some ⟨b, 0, none⟩)) (n : Nat) (t : TypeId) (f : Nat → Nat) (hb : Blk w b n t f) (d : TypeDesc)
 (hu : P.underlying ty = some d) (hd : (match d with | .struct _ | .array _ _ => true | _ => false) = true) (hi : (P.info? ty).map (·.size) = some n)
 (h : wpList P ops Q rest (a.put o.dst (.agg (zb n f))) w) : wpList P ops Q (o :: rest) a w := by
 have hb' : w.heap[b]? = some (.cells (zb n f) t (0, 0)) := by unfold Blk at hb; exact hb
 exact wpList_load_row hgd ty x ho b hx t _ (0, 0) d hb' hu hd (by rw [zbs]; exact hi) h
theorem zla {ops : Array Oper} {rest : List Oper} {o : Oper} {a : Act} {w : World} {Q : Exit → Act → World → Prop} {ty : TypeId} {b n : Nat} {t : TypeId} {f : Nat → Nat} {d : TypeDesc} (x : Operand) (hb : Blk w b n t f) (hu : P.underlying ty = some d) (hi : (P.info? ty).map (·.size) = some n) (h : wpList P ops Q rest (a.put o.dst (.agg (zb n f))) w) (hgd : o.guard = none := by rfl) (ho : o.op = .load ty x := by rfl) (hx : a.eval x = .pointer (some ⟨b, 0, none⟩) := by rfl) (hd : (match d with | .struct _ | .array _ _ => true | _ => false) = true := by rfl) : wpList P ops Q (o :: rest) a w := wpList_load_any hgd ty x ho b hx n t f hb d hu hd hi h
theorem zsr {ops : Array Oper} {rest : List Oper} {o : Oper} {a : Act} {w : World} {Q : Exit → Act → World → Prop} {ty : TypeId} {b n : Nat} {t : TypeId} {f : Nat → Nat} (x y : Operand) (g : Nat → Nat) (hb : Blk w b n t f) (hi : (P.info? ty).map (·.size) = some n) (h : wpList P ops Q rest (a.put o.dst undef) (w.setRow b (zb n g))) (hgd : o.guard = none := by rfl) (ho : o.op = .store ty x y := by rfl) (hx : a.eval x = .pointer (some ⟨b, 0, none⟩) := by rfl) (hy : a.eval y = .agg (zb n g) := by rfl) : wpList P ops Q (o :: rest) a w := wpList_store_blk hgd ty x y ho b n g hx hy t f hb hi h
theorem zlg {ops : Array Oper} {rest : List Oper} {o : Oper} {a : Act} {w : World} {Q : Exit → Act → World → Prop} (hw : Region.wanted o (yielded ops a.tmps) = true) (ty : TypeId) (x : Operand) (ho : o.op = .load ty x)
 (b : Nat) (hx : a.eval x = .pointer (some ⟨b, 0, none⟩)) (n : Nat) (t : TypeId) (f : Nat → Nat) (hb : Blk w b n t f) (d : TypeDesc)
 (hu : P.underlying ty = some d) (hd : (match d with | .struct _ | .array _ _ => true | _ => false) = true) (hi : (P.info? ty).map (·.size) = some n)
 (h : wpList P ops Q rest (a.put o.dst (.agg (zb n f))) w) : wpList P ops Q (o :: rest) a w := by
 unfold wpList
 rw [if_pos hw]
 exact Or.inl (wp_load_any ty x ho b hx n t f hb d hu hd hi h)
theorem wp_build_of {o : Oper} {a : Act} {w : World} {K : Act → World → Prop} {Q : Exit → Act → World → Prop} (t : TypeId) (parts : Array (Nat × Operand)) (ho : o.op = .build t parts)
 (cells : Array Value) (hc : P.built t (parts.map fun (i, x) => (i, a.eval x)).toList = some cells) (h : K (a.put o.dst (.agg cells)) w) : o.wp P a w K Q := by
 refine wp_build t parts ho (by rw [hc]; rfl) ?_
 rw [hc]; exact h
theorem zbo {ops : Array Oper} {rest : List Oper} {o : Oper} {a : Act} {w : World} {Q : Exit → Act → World → Prop} (hg : o.guard = none) (t : TypeId) (parts : Array (Nat × Operand)) (ho : o.op = .build t parts)
 (cells : Array Value) (hc : P.built t (parts.map fun (i, x) => (i, a.eval x)).toList = some cells) (h : wpList P ops Q rest (a.put o.dst (.agg cells)) w) : wpList P ops Q (o :: rest) a w :=
 wpList_plain hg fun _ hK => wp_build_of t parts ho cells hc (hK _ _ h)
end
end Go.Proofs.Ytgcajgmokcmcgaa
end
section
namespace Go.Proofs.Ytgcajgmokcmcgaa
open Go.RowKit
set_option linter.unusedVariables false
set_option linter.unusedSimpArgs false
attribute [local irreducible] deg invN dS qS stp quoP resP
def monB (f : Nat → Nat) : Bool := decide (0 ≤ deg f ∧ f (deg f).toNat = 1)
theorem monB_no {f : Nat → Nat} (h : ¬ 0 ≤ deg f) : monB f = false := by unfold monB; simp; intro h2; omega
theorem monB_at {f : Nat → Nat} {m : Nat} (hm : deg f = (m : Int)) : monB f = ((f m : Int) == 1) := by
 unfold monB
 rw [hm, Int.toNat_natCast, Bool.eq_iff_iff]
 simp
 omega
set_option maxRecDepth 100000 in
theorem l01Monic_any (f : Nat → Nat) (hf : byte f) (w : World) : Calls Try.prog 127 #[.agg (zb 64 f)] w fun e w' => e = .returned (.bool (monB f)) ∧ Below w.heap.size w w' := by
 obtain ⟨fb1, fb2⟩ := zdb f
 go_enter Try.func127, Try.ntmps127
 go_upto_region 1 with (fail)
 obtain ⟨W1, hwo⟩ : ∃ v : World, v = (w.alloc (.cells (zb 64 (f)) 26)) := ⟨_, rfl⟩
 have B0 : Blk W1 (w.heap.size) 64 26 (f) := by subst hwo; have := (Blk.new w 64 26 (f)); simpa using this
 have hb : Below w.heap.size w W1 := by subst hwo; exact ((Below.refl _ _).alloc (Nat.le_refl _) _)
 rw [← hwo]
 clear hwo
 go_upto_region 2 with (first | (refine zla (.tmp 1) B0 Try.underlying26 Try.size26 ?_) | (go_at_call 63; refine (l01Deg_any f _).mono ?_; rintro e W2 ⟨rfl, hW2⟩; replace B0 := B0.zw hW2; replace hb := (hb).trans (hW2.mono (hb).size)))
 by_cases h1 : 0 ≤ deg f
 · obtain ⟨m, hm⟩ : ∃ m : Nat, deg f = (m : Int) := ⟨(deg f).toNat, by omega⟩
   have HV := Lib.hid (monB_at hm)
   rw [hm]
   have cc := B0.cell (i := m) (by omega)
   have hfm := hf m
   have g3 : m < 64 := by omega
   clear hm h1
   go_wp2_with fail
   go_ret
   exact ⟨ret_bool HV.out.symm, hb⟩
 · have HV := Lib.hid (monB_no h1)
   have h3 : deg f < 0 := by omega
   clear h1
   go_wp2_with fail
   go_ret
   exact ⟨ret_bool HV.out.symm, hb⟩
end Go.Proofs.Ytgcajgmokcmcgaa
end
section
namespace Go.Proofs.Ytgcajgmokcmcgaa
open Go Go.RowKit Go.ChangeMaps
open Go.Maps (Keyed)
/-- block b is a map with the entries L, keys of type k -/
def MapG (P : Program) (k : TypeId) (w : World) (b : Nat) (L : List (Value × Value)) : Prop :=
 ∃ es clock, w.heap[b]? = some (.map es clock) ∧ es.toList.map (fun e => (e.key, e.val)) = L ∧ ∀ e ∈ es.toList, ∃ l, keyOf P k e.key = some l
theorem MapG.lt {P : Program} {k : TypeId} {w : World} {b : Nat} {L : List (Value × Value)} (h : MapG P k w b L) : b < w.heap.size := by
 obtain ⟨es, clock, hb, _⟩ := h
 exact (Array.getElem?_eq_some_iff.1 hb).1
theorem MapG.new (P : Program) (k : TypeId) (w : World) : MapG P k (w.alloc (.map #[] 0)) w.heap.size [] := ⟨#[], 0, (MapKept.heap_alloc w _).1, rfl, by simp⟩
theorem MapG.of {P : Program} {k : TypeId} {w w' : World} {b : Nat} {L : List (Value × Value)} (h : MapG P k w b L) (e : w'.heap[b]? = w.heap[b]?) : MapG P k w' b L := by
 obtain ⟨es, clock, hb, r⟩ := h
 exact ⟨es, clock, e.trans hb, r⟩
theorem MapG.alloc {P : Program} {k : TypeId} {w : World} {b : Nat} {L : List (Value × Value)} (h : MapG P k w b L) (o : Obj) : MapG P k (w.alloc o) b L := h.of (Below.heap_alloc _ _ _ h.lt)
theorem MapG.drew {P : Program} {k : TypeId} {w : World} {b : Nat} {L : List (Value × Value)} (h : MapG P k w b L) : MapG P k w.drew b L := h
theorem MapG.below {P : Program} {k : TypeId} {w w' : World} {B b : Nat} {L : List (Value × Value)} (h : MapG P k w b L) (hb : Below B w w') (e : b < B) : MapG P k w' b L := h.of (hb.block b e)
theorem MapG.zw {P : Program} {k : TypeId} {w w' : World} {b : Nat} {L : List (Value × Value)} (h : MapG P k w b L) (hb : Below w.heap.size w w') : MapG P k w' b L := MapG.below h hb (MapG.lt h)
theorem MapG.setOther {P : Program} {k : TypeId} {w : World} {b : Nat} {L : List (Value × Value)} (h : MapG P k w b L) {a : Addr} {v : Value} (e : b ≠ a.block) : MapG P k (w.setCell a v) b L := h.of (heap_setCell_other _ _ _ _ e)
theorem MapG.rowOther {P : Program} {k : TypeId} {w : World} {b : Nat} {L : List (Value × Value)} (h : MapG P k w b L) {j : Nat} {cs : Array Value} (e : b ≠ j) : MapG P k (w.setRow j cs) b L := h.of (setRow_other _ _ _ _ e)
/-- block b is one cell that holds v -/
def One (w : World) (b : Nat) (t : TypeId) (v : Value) : Prop := w.heap[b]? = some (.cells #[v] t (0, 0))
theorem One.new (w : World) (t : TypeId) (v : Value) : One (w.alloc (.cells #[v] t)) w.heap.size t v := heap_alloc_last w _
theorem One.lt {w : World} {b : Nat} {t : TypeId} {v : Value} (h : One w b t v) : b < w.heap.size := by
 unfold One at h
 exact (Array.getElem?_eq_some_iff.1 h).1
theorem One.cell {w : World} {b : Nat} {t : TypeId} {v : Value} (h : One w b t v) : w.cell? ⟨b, 0, none⟩ = some v := by
 rw [cell_of_row _ _ _ _ _ _ h]; rfl
theorem One.frozen {w : World} {b : Nat} {t : TypeId} {v : Value} (h : One w b t v) (i : Nat) : w.frozen? ⟨b, i, none⟩ = false := frozen_of_row _ _ _ _ _ h
theorem One.of {w w' : World} {b : Nat} {t : TypeId} {v : Value} (h : One w b t v) (e : w'.heap[b]? = w.heap[b]?) : One w' b t v := by unfold One at *; rw [e]; exact h
theorem One.alloc {w : World} {b : Nat} {t : TypeId} {v : Value} (h : One w b t v) (o : Obj) : One (w.alloc o) b t v := h.of (Below.heap_alloc _ _ _ h.lt)
theorem One.drew {w : World} {b : Nat} {t : TypeId} {v : Value} (h : One w b t v) : One w.drew b t v := h
theorem One.below {w w' : World} {B b : Nat} {t : TypeId} {v : Value} (h : One w b t v) (hb : Below B w w') (e : b < B) : One w' b t v := h.of (hb.block b e)
theorem One.zw {w w' : World} {b : Nat} {t : TypeId} {v : Value} (h : One w b t v) (hb : Below w.heap.size w w') : One w' b t v := One.below h hb (One.lt h)
theorem One.setOther {w : World} {b : Nat} {t : TypeId} {v x : Value} (h : One w b t v) {a : Addr} (e : b ≠ a.block) : One (w.setCell a x) b t v := h.of (heap_setCell_other _ _ _ _ e)
theorem One.rowOther {w : World} {b : Nat} {t : TypeId} {v : Value} (h : One w b t v) {j : Nat} {cs : Array Value} (e : b ≠ j) : One (w.setRow j cs) b t v := h.of (setRow_other _ _ _ _ e)
theorem One.grown {w w' : World} {b j : Nat} {t : TypeId} {v : Value} (h : One w b t v) (hg : w.grownBy w' (some j)) (e : b ≠ j) : One w' b t v := h.of (hg.block b h.lt (fun x => e (by cases x; rfl)))
/-- a new key -/
theorem MapG.put {P : Program} {k e t : TypeId} (K : Keyed P k) (ht : P.underlying t = some (.map k e)) {w : World} {b : Nat} {L : List (Value × Value)} (h : MapG P k w b L) {key val : Value} {kl : Lit} (hkey : keyOf P k key = some kl) (hn : ∀ q ∈ L, q.1 ≠ key) :
 ∃ w', (Instr.mapUpdate t (.map (some b)) key val).run P w = .ok () w' ∧ MapG P k w' b (L ++ [(key, val)]) ∧ w.grownBy w' (some b) := by
 obtain ⟨es, clock, hb, rfl, hr⟩ := h
 rcases K.find w hkey es.toList hr with ⟨h1, h2⟩ | ⟨j, e0, h1, h2, h3⟩
 · refine ⟨setBlock w b (.map (es.push ⟨key, val, clock⟩) (clock + 1)), ?_, ⟨_, _, heap_setBlock_same hb _, by simp, ?_⟩, ⟨rfl, rfl, rfl, by simp [setBlock], fun i _ hi => heap_setBlock_other hb _ (fun e => hi (by rw [e]))⟩⟩
   · simp [Instr.mapUpdate, run_underlying ht, MapKept.run_getObj_map hb, K.check w false hkey, h1, MapKept.run_setObj_map _ hb, Result.andThen, setBlock]
   · intro x hx
     simp only [Array.toList_push, List.mem_append, List.mem_singleton] at hx
     rcases hx with hx | rfl
     · exact hr x hx
     · exact ⟨_, hkey⟩
 · exact absurd h3 (hn (e0.key, e0.val) (List.mem_map.2 ⟨e0, List.mem_of_getElem? h2, rfl⟩))
/-- what a store into the map leaves of another block -/
theorem Blk.grown {w w' : World} {b n j : Nat} {t : TypeId} {f : Nat → Nat} (h : Blk w b n t f) (hg : w.grownBy w' (some j)) (e : b ≠ j) : Blk w' b n t f := by
 have hl := h.lt
 unfold Blk at *; rw [hg.block b hl (fun x => e (by cases x; rfl))]; exact h
attribute [irreducible] MapG One
end Go.Proofs.Ytgcajgmokcmcgaa
end
section
namespace Go.Proofs.Ytgcajgmokcmcgaa
open Go Go.RowKit
set_option linter.unusedVariables false
/-- v is a slice of the rows cs, each of so many cells, in a block from base on (or nil) -/
def SlL (w : World) (base : Nat) (e : TypeId) (size : Nat) (v : Value) (cs : List (List Value)) : Prop := base ≤ w.heap.size ∧ (∀ c ∈ cs, c.length = size) ∧ w.ownsRow base e size v cs.length cs.flatten
theorem SlL.lt {w : World} {base : Nat} {e : TypeId} {size : Nat} {v : Value} {cs : List (List Value)} (h : SlL w base e size v cs) : base ≤ w.heap.size := h.1
theorem SlL.nil {w : World} {base : Nat} (e : TypeId) (size : Nat) (h : base ≤ w.heap.size) : SlL w base e size (.slice none 0 0) [] := ⟨h, by simp, World.ownsRow_nil _ _ _ _⟩
theorem SlL.grown {w w' : World} {base : Nat} {e : TypeId} {size : Nat} {v : Value} {cs : List (List Value)} {row : Option Nat} (h : SlL w base e size v cs) (hg : w.grownBy w' row) (hr : ∀ r, row = some r → r < base) : SlL w' base e size v cs :=
 ⟨Nat.le_trans h.1 hg.size, h.2.1, h.2.2.kept hg (by
  cases hv : v.ownBlock with
  | none => exact .inl rfl
  | some k =>
   right
   intro he
   have h1 := (h.2.2.lt k hv).1
   have h2 := hr k he.symm
   omega)⟩
theorem SlL.alloc {w : World} {base : Nat} {e : TypeId} {size : Nat} {v : Value} {cs : List (List Value)} (h : SlL w base e size v cs) (o : Obj) : SlL (w.alloc o) base e size v cs := h.grown (World.grownBy_alloc w o none) (fun r e => by cases e)
theorem SlL.drew {w : World} {base : Nat} {e : TypeId} {size : Nat} {v : Value} {cs : List (List Value)} (h : SlL w base e size v cs) : SlL w.drew base e size v cs := h
theorem SlL.below {w w' : World} {base : Nat} {e : TypeId} {size : Nat} {v : Value} {cs : List (List Value)} (h : SlL w base e size v cs) (hb : Below w.heap.size w w') (_ : base ≤ w.heap.size) : SlL w' base e size v cs :=
 h.grown (row := none) ⟨hb.os, hb.tape, hb.output, hb.size, fun k hk _ => hb.block k hk⟩ (fun r e => by cases e)
theorem SlL.zw {w w' : World} {base : Nat} {e : TypeId} {size : Nat} {v : Value} {cs : List (List Value)} (h : SlL w base e size v cs) (hb : Below w.heap.size w w') : SlL w' base e size v cs := SlL.below h hb (SlL.lt h)
theorem SlL.rowOther {w : World} {base : Nat} {e : TypeId} {size : Nat} {v : Value} {cs : List (List Value)} (h : SlL w base e size v cs) {k : Nat} {xs : Array Value} (hk : k < base) : SlL (w.setRow k xs) base e size v cs :=
 h.grown (row := some k) ⟨rfl, rfl, rfl, by simp [World.setRow], fun j _ hj => setRow_other _ _ _ _ (fun e => hj (by rw [e]))⟩ (fun r e => by cases e; exact hk)
theorem SlL.setOther {w : World} {base : Nat} {e : TypeId} {size : Nat} {v x : Value} {cs : List (List Value)} (h : SlL w base e size v cs) {a : Addr} (ha : a.block < base) : SlL (w.setCell a x) base e size v cs :=
 ⟨by simpa using h.1, h.2.1, ownsRow_setCell_below h.2.2 ha x⟩
theorem SlL.own {w : World} {base : Nat} {e : TypeId} {size : Nat} {v : Value} {cs : List (List Value)} (h : SlL w base e size v cs) : ∀ r, v.ownBlock = some r → base ≤ r := fun r hr => (h.2.2.lt r hr).1
theorem SlL.shape {w : World} {base : Nat} {e : TypeId} {size : Nat} {v : Value} {cs : List (List Value)} (h : SlL w base e size v cs) : (v = .slice none 0 0 ∧ cs = []) ∨ ∃ g cap, v = .slice (some ⟨g, 0, none⟩) cs.length cap := by
 obtain ⟨_, _, _, h | ⟨g, cap, cur, rfl, _⟩⟩ := h
 · exact .inl ⟨h.1, List.eq_nil_of_length_eq_zero h.2⟩
 · exact .inr ⟨g, cap, rfl⟩
theorem flat_at : ∀ (cs : List (List Value)) (size i : Nat) (c : List Value) (j : Nat) (u : Value), (∀ c ∈ cs, c.length = size) → cs[i]? = some c → c[j]? = some u → cs.flatten[i * size + j]? = some u
 | [], _, _, _, _, _, _, h, _ => by simp at h
 | g :: cs, size, 0, c, j, u, _, h, hj => by
  simp only [List.getElem?_cons_zero, Option.some.injEq] at h
  subst h
  rw [List.flatten_cons, Nat.zero_mul, Nat.zero_add, List.getElem?_append_left (List.getElem?_eq_some_iff.1 hj).1]
  exact hj
 | g :: cs, size, i + 1, c, j, u, hs, h, hj => by
  have hg : g.length = size := hs g (by simp)
  have e1 : (i + 1) * size = i * size + size := Nat.succ_mul i size
  rw [List.flatten_cons, List.getElem?_append_right (by rw [hg]; omega), hg]
  have := flat_at cs size i c j u (fun c hc => hs c (by simp [hc])) (by simpa using h) hj
  rw [show (i + 1) * size + j - size = i * size + j by omega]
  exact this
/-- the cells of one element -/
theorem SlL.range {w : World} {base : Nat} {e : TypeId} {size g n cap : Nat} {cs : List (List Value)} (h : SlL w base e size (.slice (some ⟨g, 0, none⟩) n cap) cs) {i : Nat} {c : List Value} (hi : cs[i]? = some c) : w.rangeAt g (i * size) c := by
 intro j u hu
 obtain ⟨_, hs, hl, h | ⟨g', cap', cur, hv, hg, hh, h1, h2, h3, h4⟩⟩ := h
 · cases h.1
 · injection hv with e1 e2 e3
   injection e1 with e1
   injection e1 with e1
   subst e1
   rw [cell_of_row _ _ _ _ _ _ hh]
   have hc : cs.flatten[i * size + j]? = some u := flat_at cs size i c j u hs hi hu
   rw [← h4] at hc
   have hlt : i * size + j < cs.length * size := by
    have := (List.getElem?_eq_some_iff.1 hc).1
    rw [List.length_take] at this
    omega
   rw [List.getElem?_take_of_lt hlt] at hc
   rw [← Array.getElem?_toList]
   exact hc
theorem One.row {w : World} {b : Nat} {t : TypeId} {v : Value} (h : One w b t v) (u : Value) : One (w.setRow b #[u]) b t u := by
 unfold One at *
 exact setRow_heap _ _ _ _ _ _ h
/-- append of one element -/
theorem wpList_append_sl {P : Program} (w : World) {ops : Array Oper} {rest : List Oper} {o : Oper} {a : Act} {Q : Exit → Act → World → Prop}
 (hg : o.guard = none) (s x : Operand) (t : TypeId) (hop : o.op = Op.call { callee := Callee.builtin Builtin.append, args := #[s, x], argTypes := #[t, t] })
 (base : Nat) (e : TypeId) (z : Value) (size bytes : Nat) (h1 : P.underlying t = some (.slice e)) (h2 : (P.info? e).map (fun i => (i.zero, i.size, i.bytes)) = some (some z, size, bytes)) (h6 : z.cells.size = size) (h7 : 0 < size)
 (v : Value) (cs : List (List Value)) (hs : a.eval s = v) (hown : SlL w base e size v cs) (g : Nat) (c : List Value) (hx : a.eval x = .slice (some ⟨g, 0, none⟩) 1 1) (hc : c.length = size)
 (hcell : w.rangeAt g 0 c) (h1c : ∀ u ∈ c, u.oneCell' = true) (b1 : cs.length + 1 ≤ maxLen) (b2 : (cs.length + 1) * bytes ≤ 140737488355328)
 (hK : ∀ v' w', SlL w' base e size v' (cs ++ [c]) → w.grownBy w' v.ownBlock → wpList P ops Q rest (a.put o.dst v') w') : wpList P ops Q (o :: rest) a w := by
 obtain ⟨i0, hi, hz0, hz1, hz2⟩ := info_parts h2
 refine wpList_append_own w hg s x t hop base e i0 z size bytes h1 hi hz0 hz1 hz2 h6 h7 v cs.length cs.flatten hs hown.2.2 ⟨g, 0, none⟩ 1 1 c hx (by omega) (fun j u hu => ?_) h1c b1 b2 hown.1 ?_
 · have := hcell j u hu
   rw [Nat.zero_add] at this
   have e : (⟨g, 0, none⟩ : Addr).add j = ⟨g, j, none⟩ := by unfold Addr.add; split <;> simp_all
   rw [e]; exact this
 · intro v' w' h1' h2' _
   refine hK v' w' ⟨Nat.le_trans hown.1 h2'.size, fun d hd => ?_, by simpa using h1'⟩ h2'
   rcases List.mem_append.1 hd with h | h
   · exact hown.2.1 d h
   · rw [List.mem_singleton] at h; rw [h]; exact hc
/-- what lies below the slice's block stays -/
theorem Blk.grownO {w w' : World} {b n : Nat} {t : TypeId} {f : Nat → Nat} {row : Option Nat} (h : Blk w b n t f) (hg : w.grownBy w' row) {base : Nat} (hr : ∀ r, row = some r → base ≤ r) (e : b < base) : Blk w' b n t f := by
 have hl := h.lt
 unfold Blk at *; rw [hg.block b hl (fun x => by have := hr b x.symm; omega)]; exact h
theorem One.grownO {w w' : World} {b : Nat} {t : TypeId} {v : Value} {row : Option Nat} (h : One w b t v) (hg : w.grownBy w' row) {base : Nat} (hr : ∀ r, row = some r → base ≤ r) (e : b < base) : One w' b t v :=
 h.of (hg.block b h.lt (fun x => by have := hr b x.symm; omega))
theorem SlL.one {w : World} {base : Nat} {e : TypeId} {size : Nat} {v : Value} {cs : List (List Value)} (h : SlL w base e size v cs) : v.oneCell' = true := by
 rcases h.shape with ⟨rfl, _⟩ | ⟨g, cap, rfl⟩ <;> rfl
theorem SlL.base {w : World} {base base' : Nat} {e : TypeId} {size : Nat} {v : Value} {cs : List (List Value)} (h : SlL w base e size v cs) (hb : base' ≤ base) : SlL w base' e size v cs := ⟨Nat.le_trans hb h.1, h.2.1, by
 obtain ⟨_, _, hl, h | ⟨g, cap, cur, hv, hg', r⟩⟩ := h
 · exact ⟨hl, .inl h⟩
 · exact ⟨hl, .inr ⟨g, cap, cur, hv, Nat.le_trans hb hg', r⟩⟩⟩
/-- .. whose block lies below top -/
def SlT (w : World) (base top : Nat) (e : TypeId) (size : Nat) (v : Value) (cs : List (List Value)) : Prop := SlL w base e size v cs ∧ ∀ r, v.ownBlock = some r → r < top
theorem SlL.top {w : World} {base : Nat} {e : TypeId} {size : Nat} {v : Value} {cs : List (List Value)} (h : SlL w base e size v cs) : SlT w base w.heap.size e size v cs := ⟨h, fun r hr => (h.2.2.lt r hr).2⟩
theorem SlT.lt {w : World} {base top : Nat} {e : TypeId} {size : Nat} {v : Value} {cs : List (List Value)} (h : SlT w base top e size v cs) : base ≤ w.heap.size := h.1.1
theorem SlT.alloc {w : World} {base top : Nat} {e : TypeId} {size : Nat} {v : Value} {cs : List (List Value)} (h : SlT w base top e size v cs) (o : Obj) : SlT (w.alloc o) base top e size v cs := ⟨h.1.alloc o, h.2⟩
theorem SlT.drew {w : World} {base top : Nat} {e : TypeId} {size : Nat} {v : Value} {cs : List (List Value)} (h : SlT w base top e size v cs) : SlT w.drew base top e size v cs := h
theorem SlT.below {w w' : World} {base top : Nat} {e : TypeId} {size : Nat} {v : Value} {cs : List (List Value)} (h : SlT w base top e size v cs) (hb : Below w.heap.size w w') (hl : base ≤ w.heap.size) : SlT w' base top e size v cs := ⟨h.1.below hb hl, h.2⟩
theorem SlT.zw {w w' : World} {base top : Nat} {e : TypeId} {size : Nat} {v : Value} {cs : List (List Value)} (h : SlT w base top e size v cs) (hb : Below w.heap.size w w') : SlT w' base top e size v cs := SlT.below h hb (SlT.lt h)
theorem SlT.rowOther {w : World} {base top : Nat} {e : TypeId} {size : Nat} {v : Value} {cs : List (List Value)} (h : SlT w base top e size v cs) {k : Nat} {xs : Array Value} (hk : k < base ∨ top ≤ k) : SlT (w.setRow k xs) base top e size v cs :=
 ⟨⟨by simpa [World.setRow] using h.1.1, h.1.2.1, h.1.2.2.kept (row := some k) ⟨rfl, rfl, rfl, by simp [World.setRow], fun j _ hj => setRow_other _ _ _ _ (fun e => hj (by rw [e]))⟩ (by
  cases hv : v.ownBlock with
  | none => exact .inl rfl
  | some j =>
   right
   intro he
   cases he
   have h1 := (h.1.2.2.lt k hv).1
   have h2 := h.2 k hv
   omega)⟩, h.2⟩
theorem SlT.setOther {w : World} {base top : Nat} {e : TypeId} {size : Nat} {v x : Value} {cs : List (List Value)} (h : SlT w base top e size v cs) {a : Addr} (ha : a.block < base ∨ top ≤ a.block) : SlT (w.setCell a x) base top e size v cs :=
 ⟨⟨by simpa using h.1.1, h.1.2.1, h.1.2.2.kept (row := some a.block) ⟨((Below.refl 0 w).setCell (Nat.zero_le _) x).os, ((Below.refl 0 w).setCell (Nat.zero_le _) x).tape, ((Below.refl 0 w).setCell (Nat.zero_le _) x).output, by simp, fun j _ hj => Below.heap_setCell _ _ _ _ (fun e => hj (by rw [e]))⟩ (by
  cases hv : v.ownBlock with
  | none => exact .inl rfl
  | some j =>
   right
   intro he
   have he2 : j = a.block := by injection he
   subst he2
   have h1 := (h.1.2.2.lt a.block hv).1
   have h2 := h.2 a.block hv
   omega)⟩, h.2⟩
theorem SlL.form {w : World} {base : Nat} {e : TypeId} {size : Nat} {v : Value} {cs : List (List Value)} (h : SlL w base e size v cs) : ∃ ad cap, v = .slice ad cs.length cap := by
 rcases h.shape with ⟨h1, h2⟩ | ⟨g, cap, h1⟩
 · exact ⟨none, 0, by rw [h1, h2]; rfl⟩
 · exact ⟨_, cap, h1⟩
theorem SlL.some {w : World} {base : Nat} {e : TypeId} {size n cap : Nat} {ad : Option Addr} {cs : List (List Value)} (h : SlL w base e size (.slice ad n cap) cs) (hn : 0 < cs.length) : ∃ g, ad = some ⟨g, 0, none⟩ := by
 rcases h.shape with ⟨_, h2⟩ | ⟨g, cap', h1⟩
 · rw [h2] at hn; simp at hn
 · injection h1 with h1; exact ⟨g, h1⟩
/-- block b is the row cs -/
def Row (w : World) (b : Nat) (t : TypeId) (cs : Array Value) : Prop := w.heap[b]? = some (.cells cs t (0, 0))
theorem Row.new (w : World) (t : TypeId) (cs : Array Value) : Row (w.alloc (.cells cs t)) w.heap.size t cs := heap_alloc_last w _
theorem Row.lt {w : World} {b : Nat} {t : TypeId} {cs : Array Value} (h : Row w b t cs) : b < w.heap.size := by
 unfold Row at h
 exact (Array.getElem?_eq_some_iff.1 h).1
theorem Row.of {w w' : World} {b : Nat} {t : TypeId} {cs : Array Value} (h : Row w b t cs) (e : w'.heap[b]? = w.heap[b]?) : Row w' b t cs := by unfold Row at *; rw [e]; exact h
theorem Row.alloc {w : World} {b : Nat} {t : TypeId} {cs : Array Value} (h : Row w b t cs) (o : Obj) : Row (w.alloc o) b t cs := h.of (Below.heap_alloc _ _ _ h.lt)
theorem Row.drew {w : World} {b : Nat} {t : TypeId} {cs : Array Value} (h : Row w b t cs) : Row w.drew b t cs := h
theorem Row.below {w w' : World} {B b : Nat} {t : TypeId} {cs : Array Value} (h : Row w b t cs) (hb : Below B w w') (e : b < B) : Row w' b t cs := h.of (hb.block b e)
theorem Row.zw {w w' : World} {b : Nat} {t : TypeId} {cs : Array Value} (h : Row w b t cs) (hb : Below w.heap.size w w') : Row w' b t cs := Row.below h hb (Row.lt h)
theorem Row.rowOther {w : World} {b : Nat} {t : TypeId} {cs : Array Value} (h : Row w b t cs) {j : Nat} {xs : Array Value} (e : b ≠ j) : Row (w.setRow j xs) b t cs := h.of (setRow_other _ _ _ _ e)
theorem Row.setOther {w : World} {b : Nat} {t : TypeId} {cs : Array Value} {x : Value} (h : Row w b t cs) {a : Addr} (e : b ≠ a.block) : Row (w.setCell a x) b t cs := h.of (heap_setCell_other _ _ _ _ e)
theorem Row.row {w : World} {b : Nat} {t : TypeId} {cs : Array Value} (h : Row w b t cs) (xs : Array Value) : Row (w.setRow b xs) b t xs := by
 unfold Row at *
 exact setRow_heap _ _ _ _ _ _ h
theorem Row.cell {w : World} {b : Nat} {t : TypeId} {cs : Array Value} (h : Row w b t cs) {i : Nat} {v : Value} (hi : cs[i]? = some v) : w.cell? ⟨b, i, none⟩ = some v := by
 rw [cell_of_row _ _ _ _ _ _ h]; exact hi
theorem Row.frozen {w : World} {b : Nat} {t : TypeId} {cs : Array Value} (h : Row w b t cs) (i : Nat) : w.frozen? ⟨b, i, none⟩ = false := frozen_of_row _ _ _ _ _ h
theorem Row.set {w : World} {b i : Nat} {t : TypeId} {cs : Array Value} {x : Value} (h : Row w b t cs) : Row (w.setCell ⟨b, i, none⟩ x) b t (cs.setIfInBounds i x) := by
 unfold Row at *
 rw [heap_setCell_same _ _ _ _ _ _ h]
theorem zlr {P : Program} {ops : Array Oper} {rest : List Oper} {o : Oper} {a : Act} {w : World} {Q : Exit → Act → World → Prop} (hgd : o.guard = none) (ty : TypeId) (x : Operand) (ho : o.op = .load ty x)
 (b : Nat) (hx : a.eval x = .pointer (some ⟨b, 0, none⟩)) (t : TypeId) (cs : Array Value) (hb : Row w b t cs) (d : TypeDesc)
 (hu : P.underlying ty = some d) (hd : (match d with | .struct _ | .array _ _ => true | _ => false) = true) (n : Nat) (hi : (P.info? ty).map (·.size) = some n) (hn : cs.size = n)
 (h : wpList P ops Q rest (a.put o.dst (.agg cs)) w) : wpList P ops Q (o :: rest) a w := by
 unfold Row at hb
 exact wpList_load_row hgd ty x ho b hx t _ (0, 0) d hb hu hd (by rw [hi, hn]) h
theorem wpList_store_rowv {P : Program} {ops : Array Oper} {rest : List Oper} {o : Oper} {a : Act} {w : World} {Q : Exit → Act → World → Prop} (hgd : o.guard = none) (ty : TypeId) (x y : Operand) (ho : o.op = .store ty x y)
 (b : Nat) (hx : a.eval x = .pointer (some ⟨b, 0, none⟩)) (xs : Array Value) (hy : a.eval y = .agg xs) (t : TypeId) (cs : Array Value) (hb : Row w b t cs) (n : Nat) (hi : (P.info? ty).map (·.size) = some n) (hn : cs.size = n) (hm : xs.size = n) (h1 : xs.all (·.oneCell') = true)
 (h : wpList P ops Q rest (a.put o.dst undef) (w.setRow b xs)) : wpList P ops Q (o :: rest) a w := by
 unfold Row at hb
 exact wpList_store_row hgd ty x y ho b _ hx hy t _ hb (by rw [hi, hm]) (by rw [hn, hm]) h1 h
theorem Row.range {w : World} {b : Nat} {t : TypeId} {c : List Value} (h : Row w b t c.toArray) : w.rangeAt b 0 c := by
 intro j v hv
 rw [Nat.zero_add, cell_of_row _ _ _ _ _ _ h]
 simpa using hv
attribute [irreducible] Row
attribute [irreducible] SlL
end Go.Proofs.Ytgcajgmokcmcgaa
namespace Go.Proofs.Ytgcajgmokcmcgaa
open Go Go.RowKit
set_option linter.unusedVariables false
/-- what is no cells from B on lies as it lay -/
def KF (B : Nat) (W W' : World) : Prop := KeepsFrom B W W'
theorem KF.refl (B : Nat) (W : World) : KF B W W := KeepsFrom.refl B W
theorem KF.lt {B : Nat} {W W' : World} (h : KF B W W') : W.heap.size ≤ W'.heap.size := h.size
theorem KF.below {B : Nat} {W W1 W2 : World} (h : KF B W W1) (hb : Below W1.heap.size W1 W2) (_ : W.heap.size ≤ W1.heap.size) : KF B W W2 :=
 KeepsFrom.trans h ⟨hb.size, fun k _ _ hk _ => (hb.block k (Array.getElem?_eq_some_iff.1 hk).1).trans hk⟩
theorem KF.zw {B : Nat} {W W1 W2 : World} (h : KF B W W1) (hb : Below W1.heap.size W1 W2) : KF B W W2 := KF.below h hb (KF.lt h)
theorem KF.alloc {B : Nat} {W W1 : World} (h : KF B W W1) (o : Obj) : KF B W (W1.alloc o) := h.below (zal _ _) h.size
theorem KF.drew {B : Nat} {W W1 : World} (h : KF B W W1) : KF B W W1.drew := ⟨h.size, h.same⟩
theorem KF.rowOther {B : Nat} {W W1 : World} (h : KF B W W1) {k : Nat} {cs : Array Value} (e : k < B ∨ W.heap.size ≤ k) : KF B W (W1.setRow k cs) :=
 ⟨by simpa [World.setRow] using h.size, fun j o hB hj ho => by
  have hlt := (Array.getElem?_eq_some_iff.1 hj).1
  rw [setRow_other _ _ _ _ (by omega)]
  exact h.same j o hB hj ho⟩
theorem KF.grown {B : Nat} {W W1 W2 : World} {row : Option Nat} (h : KF B W W1) (hg : W1.grownBy W2 row) (hr : ∀ r, row = some r → ∃ cur t f, W1.heap[r]? = some (.cells cur t f)) : KF B W W2 :=
 KeepsFrom.trans h ⟨hg.size, fun k o _ hk ho => (hg.block k (Array.getElem?_eq_some_iff.1 hk).1 (fun e => by
  obtain ⟨cur, t, f, hc⟩ := hr k e.symm
  rw [hk] at hc; cases hc; cases ho)).trans hk⟩
/-- the block for deferred calls -/
def DF (W : World) (D : Nat) : Prop := W.heap[D]? = some (.deferred (some []))
theorem DF.lt {W : World} {D : Nat} (h : DF W D) : D < W.heap.size := (Array.getElem?_eq_some_iff.1 h).1
theorem DF.of {W W' : World} {D : Nat} (h : DF W D) (e : W'.heap[D]? = W.heap[D]?) : DF W' D := by unfold DF at *; rw [e]; exact h
theorem DF.below {W W' : World} {B D : Nat} (h : DF W D) (hb : Below B W W') (e : D < B) : DF W' D := h.of (hb.block D e)
theorem DF.zw {W W' : World} {D : Nat} (h : DF W D) (hb : Below W.heap.size W W') : DF W' D := DF.below h hb (DF.lt h)
theorem DF.alloc {W : World} {D : Nat} (h : DF W D) (o : Obj) : DF (W.alloc o) D := h.below (zal _ _) h.lt
theorem DF.drew {W : World} {D : Nat} (h : DF W D) : DF W.drew D := h
theorem DF.rowOther {W : World} {D k : Nat} {cs : Array Value} (h : DF W D) (e : D ≠ k) : DF (W.setRow k cs) D := h.of (setRow_other _ _ _ _ e)
theorem DF.grown {W W1 : World} {D : Nat} {row : Option Nat} (h : DF W D) (hg : W.grownBy W1 row) (hr : ∀ r, row = some r → ∃ cur t f, W.heap[r]? = some (.cells cur t f)) : DF W1 D :=
 h.of (hg.block D h.lt (fun e => by
  obtain ⟨cur, t, f, hc⟩ := hr D e.symm
  unfold DF at h
  rw [h] at hc; cases hc))
end Go.Proofs.Ytgcajgmokcmcgaa
end
section
namespace Go.Proofs.Ytgcajgmokcmcgaa
open Go Go.RowKit
set_option linter.unusedVariables false
/-- a place of a row of numbers is written -/
def updI (f : Nat → Int) (i : Nat) (v : Int) : Nat → Int := fun j => if j = i then v else f j
/-- what is left for the place k behind j summands -/
def rtW (D : Nat → Nat) (top : Nat) (f : Nat → Int) (k : Nat) : Nat → Int
 | 0 => if k ≤ top then ((D (top - k) : Nat) : Int) else 0
 | j + 1 => rtW D top f k j - f (j + 1) * f (k - 1 - j)
/-- the digit at the place k -/
def rtX (p : Nat) (D : Nat → Nat) (top : Nat) (f : Nat → Int) (k : Nat) : Int := rtW D top f k (k - 1) * (((p + 1) / 2 : Nat) : Int) % (p : Int)
/-- the digits up to the place n -/
def rtF (p : Nat) (D : Nat → Nat) (top : Nat) : Nat → Nat → Int
 | 0 => fun i => if i = 0 then 1 else 0
 | n + 1 => updI (rtF p D top n) (n + 1) (rtX p D top (rtF p D top n) (n + 1))
/-- the digit -/
def rt (p : Nat) (D : Nat → Nat) (top : Nat) (k : Nat) : Int := rtF p D top k k
theorem rtW_zero (D : Nat → Nat) (top : Nat) (f : Nat → Int) (k : Nat) : rtW D top f k 0 = if k ≤ top then ((D (top - k) : Nat) : Int) else 0 := rfl
theorem rtW_succ (D : Nat → Nat) (top : Nat) (f : Nat → Int) (k j : Nat) : rtW D top f k (j + 1) = rtW D top f k j - f (j + 1) * f (k - 1 - j) := rfl
theorem rtW_congr {D : Nat → Nat} {top : Nat} {f g : Nat → Int} {k : Nat} (h : ∀ i, i < k → f i = g i) : ∀ j, j ≤ k - 1 → rtW D top f k j = rtW D top g k j
 | 0, _ => rfl
 | j + 1, hj => by
  show rtW D top f k j - f (j + 1) * f (k - 1 - j) = rtW D top g k j - g (j + 1) * g (k - 1 - j)
  rw [rtW_congr h j (by omega), h (j + 1) (by omega), h (k - 1 - j) (by omega)]
theorem rtX_congr {p : Nat} {D : Nat → Nat} {top : Nat} {f g : Nat → Int} {k : Nat} (h : ∀ i, i < k → f i = g i) : rtX p D top f k = rtX p D top g k := by
 unfold rtX; rw [rtW_congr h (k - 1) (Nat.le_refl _)]
theorem rtF_le (p : Nat) (D : Nat → Nat) (top : Nat) : ∀ n i, rtF p D top n i = if i ≤ n then rt p D top i else 0
 | 0, i => by
  by_cases h : i = 0
  · subst h; rw [if_pos (Nat.le_refl _)]; rfl
  · rw [if_neg (by omega)]; show (if i = 0 then (1 : Int) else 0) = 0; rw [if_neg h]
 | n + 1, i => by
  show updI (rtF p D top n) (n + 1) (rtX p D top (rtF p D top n) (n + 1)) i = _
  unfold updI
  by_cases h : i = n + 1
  · subst h
    rw [if_pos rfl, if_pos (Nat.le_refl _)]
    show _ = updI (rtF p D top n) (n + 1) (rtX p D top (rtF p D top n) (n + 1)) (n + 1)
    unfold updI; rw [if_pos rfl]
  · rw [if_neg h, rtF_le p D top n i]
    by_cases h2 : i ≤ n
    · rw [if_pos h2, if_pos (by omega)]
    · rw [if_neg h2, if_neg (by omega)]
theorem rt_zero (p : Nat) (D : Nat → Nat) (top : Nat) : rt p D top 0 = 1 := rfl
theorem rt_next (p : Nat) (D : Nat → Nat) (top n : Nat) : rt p D top (n + 1) = rtX p D top (rt p D top) (n + 1) := by
 show updI (rtF p D top n) (n + 1) (rtX p D top (rtF p D top n) (n + 1)) (n + 1) = _
 unfold updI
 rw [if_pos rfl]
 exact rtX_congr fun i hi => by rw [rtF_le, if_pos (by omega)]
theorem rtF_next (p : Nat) (D : Nat → Nat) (top n : Nat) : rtF p D top (n + 1) = updI (rtF p D top n) (n + 1) (rt p D top (n + 1)) := by
 rw [rt_next]
 show updI (rtF p D top n) (n + 1) (rtX p D top (rtF p D top n) (n + 1)) = _
 rw [show rtX p D top (rtF p D top n) (n + 1) = rtX p D top (rt p D top) (n + 1) from rtX_congr fun i hi => by rw [rtF_le, if_pos (by omega)]]
theorem rt_lt {p : Nat} {D : Nat → Nat} {top : Nat} (hp : 2 ≤ p) : ∀ k, 0 ≤ rt p D top k ∧ rt p D top k < (p : Int)
 | 0 => by rw [rt_zero]; omega
 | n + 1 => by
  rw [rt_next]
  unfold rtX
  exact ⟨Int.emod_nonneg _ (by omega), Int.emod_lt_of_pos _ (by omega)⟩
theorem rtW_bound {p : Nat} {D : Nat → Nat} {top k : Nat} {f : Nat → Int} (hp : p ≤ 7) (hD : ∀ i, i < 64 → D i < p) (ht : top < 64) (hf : ∀ i, 0 ≤ f i ∧ f i < (p : Int)) : ∀ j : Nat, -(36 * (j : Int)) ≤ rtW D top f k j ∧ rtW D top f k j ≤ 6
 | 0 => by
  show -(36 * ((0 : Nat) : Int)) ≤ (if k ≤ top then ((D (top - k) : Nat) : Int) else 0) ∧ (if k ≤ top then ((D (top - k) : Nat) : Int) else 0) ≤ 6
  by_cases h : k ≤ top
  · rw [if_pos h]; have := hD (top - k) (by omega); omega
  · rw [if_neg h]; omega
 | j + 1 => by
  have h := rtW_bound (D := D) (top := top) (k := k) hp hD ht hf j
  show -(36 * ((j + 1 : Nat) : Int)) ≤ rtW D top f k j - f (j + 1) * f (k - 1 - j) ∧ rtW D top f k j - f (j + 1) * f (k - 1 - j) ≤ 6
  have a := hf (j + 1)
  have b := hf (k - 1 - j)
  have h1 : 0 ≤ f (j + 1) * f (k - 1 - j) := Int.mul_nonneg a.1 b.1
  have h2 : f (j + 1) * f (k - 1 - j) ≤ 6 * 6 := Int.mul_le_mul (by omega) (by omega) b.1 (by omega)
  push_cast
  omega
theorem mod_sum (x h : Int) {p : Int} (hp : 0 < p) : (Int.tmod x p + p) * h % p = x * h % p := by
 have h1 : Int.tmod x p = x - p * Int.tdiv x p := by have := Int.mul_tdiv_add_tmod x p; omega
 rw [h1, show (x - p * Int.tdiv x p + p) * h = x * h + p * ((1 - Int.tdiv x p) * h) by
  simp only [Int.sub_mul, Int.add_mul, Int.mul_sub, Int.one_mul, Int.mul_assoc]; omega, Int.add_mul_emod_self_left]
theorem mod_sum2 (x h : Int) {p : Int} : Int.tmod x p % p * h % p = x * h % p := by
 have h1 : Int.tmod x p = x - p * Int.tdiv x p := by have := Int.mul_tdiv_add_tmod x p; omega
 rw [h1, Int.sub_mul_emod_self_left, Int.mul_emod, Int.emod_emod_of_dvd _ (Int.dvd_refl p), ← Int.mul_emod]
end Go.Proofs.Ytgcajgmokcmcgaa
end
section
namespace Go.Proofs.Ytgcajgmokcmcgaa
open Go Go.RowKit Go.Shelf
set_option linter.unusedVariables false
set_option linter.unusedSimpArgs false
attribute [local go_sem] Oper.semAt_some
/-- the numbers from a on, k of them -/
abbrev NumN (a k : Nat) := { N : Nat // N ∈ List.range' a k }
def vals {a k : Nat} (l : List (NumN a k)) : List Nat := l.map (·.1)
/-- the captured cells stay -/
def KpN (ba bb bp : Nat) (W W' : World) : Prop := W'.heap[ba]? = W.heap[ba]? ∧ W'.heap[bb]? = W.heap[bb]? ∧ W'.heap[bp]? = W.heap[bp]?
theorem KpN.refl (ba bb bp : Nat) (W : World) : KpN ba bb bp W W := ⟨rfl, rfl, rfl⟩
theorem KpN.trans {ba bb bp : Nat} {A B C : World} (h : KpN ba bb bp A B) (k : KpN ba bb bp B C) : KpN ba bb bp A C := ⟨k.1.trans h.1, k.2.1.trans h.2.1, k.2.2.trans h.2.2⟩
theorem KpN.put {ba bb bp : Nat} {w : World} (h0 : ba < w.heap.size) (h1 : bb < w.heap.size) (h2 : bp < w.heap.size) (W : World) (l : Nat) (o o' : Obj) (hl : w.heap.size ≤ l) (_ : W.heap[l]? = some o) (_ : o.isCells = false) (_ : o.isWalk = false) : KpN ba bb bp W (W.putObj l o') :=
 ⟨World.putObj_heap_other (by omega), World.putObj_heap_other (by omega), World.putObj_heap_other (by omega)⟩
theorem One.same {w w' : World} {b : Nat} {t : TypeId} {v : Value} (h : One w b t v) (h' : One w' b t v) : w'.heap[b]? = w.heap[b]? := by unfold One at *; rw [h, h']
end Go.Proofs.Ytgcajgmokcmcgaa
end
section
namespace Go.Proofs.Ytgcajgmokcmcgaa
open Go Go.RowKit
set_option linter.unusedVariables false
set_option linter.unusedSimpArgs false
attribute [local irreducible] deg invN dS qS stp quoP resP ofN dvo run monL
/-- the cells of a factor -/
def facC (f : Nat → Nat) (k : Nat) : List Value := bl 64 f ++ [.int .i64 (k : Int)]
def facRows (p : Nat) (L : List (Nat × Nat)) : List (List Value) := L.map fun x => facC (ofN p x.1) x.2
/-- the heap has at least n blocks -/
def SzG (n : Nat) (W : World) : Prop := n ≤ W.heap.size
theorem SzG.lt {n : Nat} {W : World} (h : SzG n W) : n ≤ W.heap.size := h
theorem SzG.below {n B : Nat} {W W' : World} (h : SzG n W) (hb : Below B W W') (_ : n ≤ W.heap.size) : SzG n W' := Nat.le_trans h hb.size
theorem SzG.zw {n : Nat} {W W' : World} (h : SzG n W) (hb : Below W.heap.size W W') : SzG n W' := SzG.below h hb (SzG.lt h)
theorem SzG.alloc {n : Nat} {W : World} (h : SzG n W) (o : Obj) : SzG n (W.alloc o) := h.below (zal _ _) h
theorem SzG.drew {n : Nat} {W : World} (h : SzG n W) : SzG n W.drew := h
theorem SzG.rowOther {n k : Nat} {W : World} {cs : Array Value} (h : SzG n W) (_ : 0 ≤ k) : SzG n (W.setRow k cs) := by unfold SzG at *; simpa [World.setRow] using h
theorem SzG.setOther {n : Nat} {W : World} {a : Addr} {v : Value} (h : SzG n W) (_ : 0 ≤ a.block) : SzG n (W.setCell a v) := by unfold SzG at *; simpa using h
end Go.Proofs.Ytgcajgmokcmcgaa
namespace Go.Proofs.Ytgcajgmokcmcgaa
open Go Go.RowKit
set_option linter.unusedVariables false
set_option linter.unusedSimpArgs false
attribute [local irreducible] deg invN dS qS stp quoP resP ofN dvo run monL monB
def FV (p : Nat) (n0 : Nat) (x : Nat × Nat) (l : List (Nat × Nat)) (y : Value) (w : World) : Prop := SlL w n0 170 65 y (facRows p (x :: l))
theorem FV.below {p n0 : Nat} {x : Nat × Nat} {l : List (Nat × Nat)} {y : Value} {w w' : World} (h : FV p n0 x l y w) (hb : Below w.heap.size w w') : FV p n0 x l y w' := SlL.below h hb h.lt
end Go.Proofs.Ytgcajgmokcmcgaa
end
section
namespace Go.Proofs.Ytgcajgmokcmcgaa
open Go Go.RowKit
set_option linter.unusedVariables false
/-- the blocks of w, those of S aside, are in w' as they were -/
def Kx (S : List Nat) (w w' : World) : Prop := w.heap.size ≤ w'.heap.size ∧ ∀ b, b < w.heap.size → b ∉ S → w'.heap[b]? = w.heap[b]?
theorem Kx.start (S : List Nat) (w : World) : Kx S w w.drew := ⟨Nat.le_refl _, fun _ _ _ => rfl⟩
theorem Kx.below {S : List Nat} {w w1 w2 : World} (h : Kx S w w1) (hy : Below w1.heap.size w1 w2) : Kx S w w2 :=
 ⟨Nat.le_trans h.1 hy.size, fun b hb hs => (hy.block b (Nat.lt_of_lt_of_le hb h.1)).trans (h.2 b hb hs)⟩
theorem Kx.alloc {S : List Nat} {w w1 : World} (h : Kx S w w1) (o : Obj) : Kx S w (w1.alloc o) := h.below (zal _ _)
theorem Kx.row {S : List Nat} {w w1 : World} (h : Kx S w w1) {s : Nat} (hs : s ∈ S) (cs : Array Value) : Kx S w (w1.setRow s cs) :=
 ⟨by simpa [World.setRow] using h.1, fun b hb hn => by rw [setRow_other _ _ _ _ (fun e => hn (by rw [e]; exact hs))]; exact h.2 b hb hn⟩
end Go.Proofs.Ytgcajgmokcmcgaa
end
section
namespace Go.Proofs.Ytgcajgmokcmcgaa
open Go Go.RowKit
set_option linter.unusedVariables false
section
variable {P : Program}
theorem results_row {fn : Func} {p : Tmp} {ty : TypeId} (h : fn.results = #[.cell p ty]) (tmps : Array Value) (w : World) (b : Nat) (t : TypeId) (cs : Array Value)
 (hp : tmps.getD p undef = .pointer (some ⟨b, 0, none⟩)) (hb : Row w b t cs) (d : TypeDesc) (hu : P.underlying ty = some d) (hd : (match d with | .struct _ | .array _ _ => true | _ => false) = true) (hi : (P.info? ty).map (·.size) = some cs.size) :
 (results fn tmps).run P w = .ok (.agg cs) w := by
 have hp' : tmps[p]?.getD undef = .pointer (some ⟨b, 0, none⟩) := by simpa using hp
 have hb' : w.heap[b]? = some (.cells cs t (0, 0)) := by unfold Row at hb; exact hb
 simp [results, h, hp', asAddr, run_loadVar_row w b t ty _ (0, 0) d hb' hu hd hi]
end
end Go.Proofs.Ytgcajgmokcmcgaa
end
section
namespace Go.Proofs.Ytgcajgmokcmcgaa
open Go Go.RowKit
set_option linter.unusedVariables false
set_option linter.unusedSimpArgs false
attribute [local irreducible] deg invN dS qS stp quoP resP ofN dvo run monL facRows
theorem slL_empty (w : World) (e : TypeId) (size : Nat) {base : Nat} (h : base ≤ w.heap.size) : SlL (w.alloc (.cells #[] e)) base e size (.slice (some ⟨w.heap.size, 0, none⟩) 0 0) [] := by
 delta SlL
 refine ⟨?_, ?_, ?_⟩
 · simp; omega
 · intro c hc; cases hc
 · exact ⟨by simp, .inr ⟨w.heap.size, 0, #[], rfl, h, heap_alloc_last w _, Nat.le_refl _, Nat.zero_le _, by simp, by simp⟩⟩
end Go.Proofs.Ytgcajgmokcmcgaa
end
section
namespace Go.Proofs.Ytgcajgmokcmcgaa
open Go Go.RowKit
set_option linter.unusedVariables false
set_option linter.unusedSimpArgs false
/-- the mark of a cell -/
def mkF (q : Nat) : Value := if q % 65 = 64 then .int .i64 (1 + (q : Int)) else .int .u8 ((1 + (q : Int)) % 256)
/-- the first q cells of a slice are marked -/
def MkF (w : World) (base : Nat) (v : Value) (n q : Nat) : Prop := ∃ ys, w.ownsRow base 170 65 v n ys ∧ ∀ k, k < q → ys[k]? = some (mkF k)
theorem SlL.marks {w : World} {base n : Nat} {v : Value} {cs : List (List Value)} (h : SlL w base 170 65 v cs) (hn : cs.length = n) : MkF w base v n 0 := by
 delta SlL at h
 exact ⟨cs.flatten, hn ▸ h.2.2, fun k hk => absurd hk (by omega)⟩
theorem MkF.own {w : World} {base n q : Nat} {v : Value} (h : MkF w base v n q) : ∀ r, v.ownBlock = Option.some r → base ≤ r ∧ r < w.heap.size := by
 obtain ⟨ys, h1, _⟩ := h
 exact fun r hr => h1.lt r hr
theorem MkF.grown {w w' : World} {base n q : Nat} {v : Value} {row : Option Nat} (h : MkF w base v n q) (hg : w.grownBy w' row) (hr : v.ownBlock = none ∨ v.ownBlock ≠ row) : MkF w' base v n q := by
 obtain ⟨ys, h1, h2⟩ := h
 exact ⟨ys, h1.kept hg hr, h2⟩
theorem MkF.below {w w' : World} {base n q : Nat} {v : Value} (h : MkF w base v n q) (hb : Below w.heap.size w w') : MkF w' base v n q :=
 h.grown (row := none) ⟨hb.os, hb.tape, hb.output, hb.size, fun k hk _ => hb.block k hk⟩ (by
  cases hv : v.ownBlock with
  | none => exact .inl rfl
  | some k => exact .inr (by simp))
theorem MkF.step {w : World} {base n q g cap : Nat} (h : MkF w base (.slice (some ⟨g, 0, none⟩) n cap) n q) (hq : q < n * 65) :
 (∃ u, w.cell? ⟨g, q, none⟩ = Option.some u) ∧ w.frozen? ⟨g, q, none⟩ = false ∧ MkF (w.setCell ⟨g, q, none⟩ (mkF q)) base (.slice (some ⟨g, 0, none⟩) n cap) n (q + 1) ∧ w.grownBy (w.setCell ⟨g, q, none⟩ (mkF q)) (Option.some g) := by
 obtain ⟨ys, h1, h2⟩ := h
 have hl : q < ys.length := by rw [h1.1]; exact hq
 obtain ⟨s1, s2⟩ := h1.stored q (mkF q)
 refine ⟨⟨ys[q], by rw [h1.cellAt q hq]; exact List.getElem?_eq_getElem hl⟩, h1.frozenAt q, ⟨_, s1, fun k hk => ?_⟩, s2⟩
 rw [List.getElem?_set]
 by_cases e : q = k
 · subst e; rw [if_pos rfl, if_pos hl]
 · rw [if_neg e]; exact h2 k (by omega)
theorem MkF.cell {w : World} {base n q g cap k : Nat} (h : MkF w base (.slice (some ⟨g, 0, none⟩) n cap) n q) (hk : k < q) (hq : q ≤ n * 65) : w.cell? ⟨g, k, none⟩ = Option.some (mkF k) := by
 obtain ⟨ys, h1, h2⟩ := h
 rw [h1.cellAt k (by omega)]
 exact h2 k hk
theorem MkF.same {w : World} {base n q : Nat} {v : Value} (h : MkF w base v n q) (r : Nat) (e : r = q) : MkF w base v n r := e ▸ h
attribute [local irreducible] mkF MkF
end Go.Proofs.Ytgcajgmokcmcgaa
namespace Go.Proofs.Ytgcajgmokcmcgaa
open Go Go.RowKit
set_option linter.unusedVariables false
set_option linter.unusedSimpArgs false
/-- the mark of a cell -/
def mkW (q : Nat) : Value := .int .u8 ((1 + (q : Int)) % 256)
/-- the first q cells of a slice are marked -/
def MkP (w : World) (base : Nat) (v : Value) (n q : Nat) : Prop := ∃ ys, w.ownsRow base 26 64 v n ys ∧ ∀ k, k < q → ys[k]? = some (mkW k)
theorem MkP.own {w : World} {base n q : Nat} {v : Value} (h : MkP w base v n q) : ∀ r, v.ownBlock = Option.some r → base ≤ r ∧ r < w.heap.size := by
 obtain ⟨ys, h1, _⟩ := h
 exact fun r hr => h1.lt r hr
theorem MkP.grown {w w' : World} {base n q : Nat} {v : Value} {row : Option Nat} (h : MkP w base v n q) (hg : w.grownBy w' row) (hr : v.ownBlock = none ∨ v.ownBlock ≠ row) : MkP w' base v n q := by
 obtain ⟨ys, h1, h2⟩ := h
 exact ⟨ys, h1.kept hg hr, h2⟩
theorem MkP.below {w w' : World} {base n q : Nat} {v : Value} (h : MkP w base v n q) (hb : Below w.heap.size w w') : MkP w' base v n q :=
 h.grown (row := none) ⟨hb.os, hb.tape, hb.output, hb.size, fun k hk _ => hb.block k hk⟩ (by
  cases hv : v.ownBlock with
  | none => exact .inl rfl
  | some k => exact .inr (by simp))
theorem MkP.step {w : World} {base n q g cap : Nat} (h : MkP w base (.slice (some ⟨g, 0, none⟩) n cap) n q) (hq : q < n * 64) :
 (∃ u, w.cell? ⟨g, q, none⟩ = Option.some u) ∧ w.frozen? ⟨g, q, none⟩ = false ∧ MkP (w.setCell ⟨g, q, none⟩ (mkW q)) base (.slice (some ⟨g, 0, none⟩) n cap) n (q + 1) ∧ w.grownBy (w.setCell ⟨g, q, none⟩ (mkW q)) (Option.some g) := by
 obtain ⟨ys, h1, h2⟩ := h
 have hl : q < ys.length := by rw [h1.1]; exact hq
 obtain ⟨s1, s2⟩ := h1.stored q (mkW q)
 refine ⟨⟨ys[q], by rw [h1.cellAt q hq]; exact List.getElem?_eq_getElem hl⟩, h1.frozenAt q, ⟨_, s1, fun k hk => ?_⟩, s2⟩
 rw [List.getElem?_set]
 by_cases e : q = k
 · subst e; rw [if_pos rfl, if_pos hl]
 · rw [if_neg e]; exact h2 k (by omega)
theorem MkP.cell {w : World} {base n q g cap k : Nat} (h : MkP w base (.slice (some ⟨g, 0, none⟩) n cap) n q) (hk : k < q) (hq : q ≤ n * 64) : w.cell? ⟨g, k, none⟩ = Option.some (mkW k) := by
 obtain ⟨ys, h1, h2⟩ := h
 rw [h1.cellAt k (by omega)]
 exact h2 k hk
theorem MkP.same {w : World} {base n q : Nat} {v : Value} (h : MkP w base v n q) (r : Nat) (e : r = q) : MkP w base v n r := e ▸ h
attribute [local irreducible] mkW MkP
end Go.Proofs.Ytgcajgmokcmcgaa
end
section
namespace Go.Proofs.Ytgcajgmokcmcgaa
open Go Go.RowKit
set_option linter.unusedVariables false
set_option linter.unusedSimpArgs false
theorem Try.infoInt : (Try.prog.info? 2).map (fun i => (i.zero, i.size, i.bytes)) = some (some (.int .i64 0), 1, 8) := by kernel_rfl
theorem Try.elemInt : (Try.prog.info? 2).map (fun i => (i.size, i.zero.isSome)) = some (1, true) := by kernel_rfl
theorem wpList_buildI {P : Program} {ops : Array Oper} {rest : List Oper} {o : Oper} {a : Act} {w : World} {Q : Exit → Act → World → Prop} (hg : o.guard = none) (t : TypeId) (parts : Array (Nat × Operand)) (x : Int)
 (ho : o.op = .buildSlice t 1 parts) (e : TypeId) (hu : P.underlying t = some (.slice e)) (hie : (P.info? e).map (fun i => (i.size, i.zero.isSome)) = some (1, true))
 (hp : (parts.toList.map fun x => (x.1, a.eval x.2)) = [(0, Value.int .i64 x)])
 (h : ∀ w', Row w' w.heap.size e #[.int .i64 x] → Below w.heap.size w w' → wpList P ops Q rest (a.put o.dst (.slice (some ⟨w.heap.size, 0, none⟩) 1 1)) w') : wpList P ops Q (o :: rest) a w := by
 cases hi : P.info? e with
 | none => simp [hi] at hie
 | some ie =>
  simp only [hi, Option.map_some, Option.some.injEq, Prod.mk.injEq] at hie
  obtain ⟨hs, hz⟩ := hie
  obtain ⟨z, hzz⟩ := Option.isSome_iff_exists.1 hz
  refine wpList_buildSlice hg t e 1 parts ho _ ie z hu hi hzz (by rw [hs]; omega) (by rw [hs]; omega) ?_ (h _ (Row.new w e #[.int .i64 x]) (zal _ _))
  rw [Array.toList_map, hp, hs]
  obtain ⟨old, hold⟩ : ∃ old, old = (Array.range (1 * 1)).map (z.cells[· % z.cells.size]!) := ⟨_, rfl⟩
  have hsz : old.size = 1 := by rw [hold]; simp
  rw [← hold]
  obtain ⟨l⟩ := old
  match l, hsz with
  | [u], _ => simp [Instr.fill, Value.cells]
/-- the mark of a cell -/
def mkI (q : Nat) : Value := .int .i64 (1 + (q : Int))
/-- the first q cells of a slice are marked -/
def MkI (w : World) (base : Nat) (v : Value) (n q : Nat) : Prop := ∃ ys, w.ownsRow base 2 1 v n ys ∧ ∀ k, k < q → ys[k]? = some (mkI k)
theorem MkI.own {w : World} {base n q : Nat} {v : Value} (h : MkI w base v n q) : ∀ r, v.ownBlock = Option.some r → base ≤ r ∧ r < w.heap.size := by
 obtain ⟨ys, h1, _⟩ := h
 exact fun r hr => h1.lt r hr
theorem MkI.grown {w w' : World} {base n q : Nat} {v : Value} {row : Option Nat} (h : MkI w base v n q) (hg : w.grownBy w' row) (hr : v.ownBlock = none ∨ v.ownBlock ≠ row) : MkI w' base v n q := by
 obtain ⟨ys, h1, h2⟩ := h
 exact ⟨ys, h1.kept hg hr, h2⟩
theorem MkI.below {w w' : World} {base n q : Nat} {v : Value} (h : MkI w base v n q) (hb : Below w.heap.size w w') : MkI w' base v n q :=
 h.grown (row := none) ⟨hb.os, hb.tape, hb.output, hb.size, fun k hk _ => hb.block k hk⟩ (by
  cases hv : v.ownBlock with
  | none => exact .inl rfl
  | some k => exact .inr (by simp))
theorem MkI.step {w : World} {base n q g cap : Nat} (h : MkI w base (.slice (some ⟨g, 0, none⟩) n cap) n q) (hq : q < n * 1) :
 (∃ u, w.cell? ⟨g, q, none⟩ = Option.some u) ∧ w.frozen? ⟨g, q, none⟩ = false ∧ MkI (w.setCell ⟨g, q, none⟩ (mkI q)) base (.slice (some ⟨g, 0, none⟩) n cap) n (q + 1) ∧ w.grownBy (w.setCell ⟨g, q, none⟩ (mkI q)) (Option.some g) := by
 obtain ⟨ys, h1, h2⟩ := h
 have hl : q < ys.length := by rw [h1.1]; exact hq
 obtain ⟨s1, s2⟩ := h1.stored q (mkI q)
 refine ⟨⟨ys[q], by rw [h1.cellAt q hq]; exact List.getElem?_eq_getElem hl⟩, h1.frozenAt q, ⟨_, s1, fun k hk => ?_⟩, s2⟩
 rw [List.getElem?_set]
 by_cases e : q = k
 · subst e; rw [if_pos rfl, if_pos hl]
 · rw [if_neg e]; exact h2 k (by omega)
theorem MkI.cell {w : World} {base n q g cap k : Nat} (h : MkI w base (.slice (some ⟨g, 0, none⟩) n cap) n q) (hk : k < q) (hq : q ≤ n * 1) : w.cell? ⟨g, k, none⟩ = Option.some (mkI k) := by
 obtain ⟨ys, h1, h2⟩ := h
 rw [h1.cellAt k (by omega)]
 exact h2 k hk
theorem MkI.same {w : World} {base n q : Nat} {v : Value} (h : MkI w base v n q) (r : Nat) (e : r = q) : MkI w base v n r := e ▸ h
attribute [local irreducible] mkI MkI
end Go.Proofs.Ytgcajgmokcmcgaa
end
section
namespace Go.Proofs.Ytgcajgmokcmcgaa
open Go Go.RowKit
set_option linter.unusedVariables false
/-- cells of numbers -/
def icl (n : Nat) (f : Nat → Int) : List Value := (List.range n).map fun i => Value.int .i64 (f i)
theorem icl_len (n : Nat) (f : Nat → Int) : (icl n f).length = n := by simp [icl]
theorem icl_get {n : Nat} {f : Nat → Int} {i : Nat} (h : i < n) : (icl n f).toArray[i]? = some (.int .i64 (f i)) := by simp [icl, h]
theorem icl_set {n : Nat} {f : Nat → Int} {i : Nat} {v : Int} : (icl n f).toArray.setIfInBounds i (.int .i64 v) = (icl n (updI f i v)).toArray := by
 rw [List.setIfInBounds_toArray]
 congr 1
 apply List.ext_getElem?
 intro j
 rw [List.getElem?_set]
 unfold icl updI
 simp only [List.getElem?_map, List.length_map, List.length_range]
 by_cases e : i = j
 · subst e
   by_cases h : i < n
   · simp [h]
   · simp [h]
 · rw [if_neg e]
   by_cases h : j < n
   · simp [h, show ¬ j = i from fun x => e x.symm]
   · simp [h]
theorem icl_all (n : Nat) (f : Nat → Int) : (icl n f).toArray.all (·.oneCell') = true := Array.all_eq_true_iff_forall_mem.2 fun u hu => by
 have hu' : u ∈ icl n f := by simpa using hu
 unfold icl at hu'
 obtain ⟨i, _, rfl⟩ := List.mem_map.1 hu'
 rfl
theorem icl_congr {n : Nat} {f g : Nat → Int} (h : ∀ i, i < n → f i = g i) : icl n f = icl n g := by
 unfold icl
 apply List.map_congr_left
 intro i hi
 rw [h i (by simpa using hi)]
theorem Row.zcell {w : World} {b n : Nat} {t : TypeId} {f : Nat → Int} (h : Row w b t (icl n f).toArray) {i : Nat} (hi : i < n) : w.cell? ⟨b, i, none⟩ = some (.int .i64 (f i)) := h.cell (icl_get hi)
theorem Row.zset {w : World} {b n i : Nat} {t : TypeId} {f : Nat → Int} {v : Int} (h : Row w b t (icl n f).toArray) : Row (w.setCell ⟨b, i, none⟩ (.int .i64 v)) b t (icl n (updI f i v)).toArray := by
 rw [← icl_set]; exact h.set
/-- a part of an array of cells, with its capacity at its end -/
theorem slice3_exact {P : Program} {t e : TypeId} {n : Nat} (hu : P.underlying t = some (.array n e)) (hs : (P.info? e).map (·.size) = some 1) (b l h : Nat) (h1 : l ≤ h) (h2 : h ≤ n) :
 ∃ o : Nat, o = (if h = l then 0 else l) ∧ ∀ (kl kh km : IntKind) (w : World), (Instr.sliceAt t (.pointer (some ⟨b, 0, none⟩)) (some (.int kl (l : Int))) (some (.int kh (h : Int))) (some (.int km (h : Int)))).run P w = .ok (.slice (some ⟨b, o, none⟩) (h - l) (h - l)) w := by
 refine ⟨if h = l then 0 else l, rfl, fun kl kh km w => ?_⟩
 have hl : P.arrayLen t = n := by simp [Program.arrayLen, hu]
 have he : P.elem t = e := by simp [Program.elem, hu]
 rw [run_sliceAt_array_lhm (P := P) w t ⟨b, 0, none⟩ (by rw [hl, he]; exact hu) kl kh km (l : Int) (h : Int) (h : Int) (by omega) (by omega) (by omega) (by rw [hl]; omega)]
 rw [he]
 have hz : ∀ w : World, (Go.sizeOf e).run P w = .ok 1 w := fun w => by
  cases hq : P.info? e with
  | none => rw [hq] at hs; cases hs
  | some i =>
   rw [hq] at hs
   simp only [Option.map_some, Option.some.injEq] at hs
   simp [Go.sizeOf, typeInfo, Sem.run_bind, hq, hs]
 rw [hz]
 simp only [Result.andThen, slicedAt, Addr.add]
 by_cases e2 : h = l
 · subst e2; simp
 · have e3 : ¬ ((h : Int).toNat = (l : Int).toNat) := by omega
   simp only [if_neg e3, if_neg e2]
   by_cases e4 : l = 0
   · subst e4; simp
   · simp [e4]
theorem slice3_any {P : Program} {t e : TypeId} {n : Nat} (hu : P.underlying t = some (.array n e)) (hs : (P.info? e).map (·.size) = some 1) (b l h : Nat) (h1 : l ≤ h) (h2 : h ≤ n) :
 ∃ o : Nat, (l < h → o = l) ∧ ∀ (kl kh km : IntKind) (w : World), (Instr.sliceAt t (.pointer (some ⟨b, 0, none⟩)) (some (.int kl (l : Int))) (some (.int kh (h : Int))) (some (.int km (h : Int)))).run P w = .ok (.slice (some ⟨b, o, none⟩) (h - l) (h - l)) w := by
 obtain ⟨o, ho, hs2⟩ := slice3_exact hu hs b l h h1 h2
 exact ⟨o, fun hl => by rw [ho, if_neg (by omega)], hs2⟩
theorem Try.sizeI64 : (Try.prog.info? 2).map (·.size) = some 1 := by kernel_rfl
end Go.Proofs.Ytgcajgmokcmcgaa
end
section
namespace Go.Proofs.Ytgcajgmokcmcgaa
open Rg
set_option linter.unusedVariables false
theorem deg_lead {x : Nat → Nat} {n : Nat} (h : deg x = (n : Int)) : n < 64 ∧ x n ≠ 0 := by
 rcases deg_spec x with ⟨h2, _⟩ | ⟨j, hj, h3, h5, _⟩
 · omega
 · have : j = n := by omega
   subst this; exact ⟨hj, h5⟩
end Go.Proofs.Ytgcajgmokcmcgaa
end
section
namespace Go.Proofs.Ytgcajgmokcmcgaa
open Go Go.RowKit
set_option linter.unusedVariables false
set_option linter.unusedSimpArgs false
theorem Try.size99 : (Try.prog.info? 99).map (·.size) = some 72 := by kernel_rfl
theorem icl_zero : (icl 72 (fun _ => 0)).toArray = Try.zeroCells99 := by unfold icl; kernel_rfl
theorem built_rt0 (p : Nat) (D : Nat → Nat) (top : Nat) : Try.prog.built 99 [(0, .int .i64 1)] = some (icl 72 (rtF p D top 0)).toArray := by unfold icl rtF; kernel_rfl
attribute [local irreducible] deg icl rtW rt rtF
set_option maxRecDepth 100000 in
set_option maxHeartbeats 3200000 in
theorem rootOf_any (p top : Nat) (D : Nat → Nat) (w : World) (hpr : p = 2 ∨ p = 3 ∨ p = 5 ∨ p = 7) (lD : ∀ k, k < 64 → D k < p) (hd : deg D = (top : Int)) :
 Calls Try.prog 86 #[.int .i64 (p : Int), .agg (zb 64 D)] w fun e w' => e = .returned (.agg (icl 72 (rt p D top)).toArray) ∧ Below w.heap.size w w' := by
 have HDG := Lib.hid (fun W => show Calls Try.prog _ _ W (fun e w' => e = .returned (.int .i64 (top : Int)) ∧ Below W.heap.size W w') from hd ▸ degree_any D W)
 go_enter Try.func86, Try.ntmps86
 go_upto_region 1 with (fail)
 rw [← icl_zero]
 obtain ⟨W1, hwo⟩ : ∃ v : World, v = ((w.alloc (.cells (zb 64 (D)) 26)).alloc (.cells (icl 72 (fun _ => 0)).toArray 99)) := ⟨_, rfl⟩
 have B0 : Blk W1 (w.heap.size) 64 26 (D) := by subst hwo; have := ((Blk.new w 64 26 (D)).alloc (.cells (icl 72 (fun _ => 0)).toArray 99)); simpa using this
 have B1 : Row W1 (w.heap.size + 1) 99 (icl 72 (fun _ => 0)).toArray := by subst hwo; have := (Row.new (w.alloc (.cells (zb 64 (D)) 26)) 99 (icl 72 (fun _ => 0)).toArray); simpa using this
 have hb : Below w.heap.size w W1 := by subst hwo; exact (((Below.refl _ _).alloc (Nat.le_refl _) _).alloc (by simp) _)
 rw [← hwo]
 clear hwo
 have lt_B0 := B0.lt
 have lt_B1 := B1.lt
 go_upto_region 2 with (first | rw [← z64] | rw [← icl_zero] | (refine zbo rfl 99 _ rfl (icl 72 (rtF p D top 0)).toArray (by rw [Array.toList_map]; exact built_rt0 p D top) ?_) | (refine wpList_store_rowv rfl 99 (.tmp 5) (.tmp 12) rfl _ rfl (icl 72 (rtF p D top 0)).toArray rfl 99 _ ((Row.new W1 99 (icl 72 (fun _ => 0)).toArray)) 72 Try.size99 (by simp [icl_len]) (by simp [icl_len]) (icl_all _ _) ?_; try simp only [Act.put]))
 have lt_B0 := B0.lt
 have lt_B1 := B1.lt
 have lhb := hb.size
 obtain ⟨W2, hwo, hzQ⟩ : ∃ v : World, v = ((W1.alloc (.cells (icl 72 (fun _ => 0)).toArray 99)).setRow (W1.heap.size) (icl 72 (rtF p D top 0)).toArray) ∧ Blk v (w.heap.size) 64 26 (D) ∧ Row v (w.heap.size + 1) 99 (icl 72 (fun _ => 0)).toArray ∧ Row v (W1.heap.size) 99 (icl 72 (rtF p D top 0)).toArray ∧ Below w.heap.size w v := ⟨_, rfl, ((B0.alloc (.cells (icl 72 (fun _ => 0)).toArray 99)).rowOther (by omega)), ((B1.alloc (.cells (icl 72 (fun _ => 0)).toArray 99)).rowOther (by omega)), ((Row.new W1 99 (icl 72 (fun _ => 0)).toArray).row (icl 72 (rtF p D top 0)).toArray), (zr (hb.alloc (by have := hb.size; simp; omega) (.cells (icl 72 (fun _ => 0)).toArray 99)) (by omega) _)⟩
 rw [← hwo]
 clear hwo B0 B1 hb
 obtain ⟨B0, B1, B2, hb⟩ := hzQ
 obtain ⟨N1, hNN⟩ : ∃ n : Nat, n = W1.heap.size := ⟨_, rfl⟩
 rw [← hNN] at lt_B0 lt_B1 lhb B2 ⊢
 clear hNN
 have zN1_0 := lt_B0
 have zN1_1 := lt_B1
 have zN1 := lhb
 clear lt_B0 lt_B1 lhb
 try simp only [Act.put, pA, pB, pC]
 go_upto_region 3 with (first | (refine zla (.tmp 3) B0 Try.underlying26 Try.size26 ?_) | (go_at_call 69; refine (HDG.out _).mono ?_; rintro e W3 ⟨rfl, hW3⟩; replace B0 := B0.zw hW3; replace B1 := B1.zw hW3; replace B2 := B2.zw hW3; replace hb := (hb).trans (hW3.mono (hb).size)))
 obtain ⟨c2, hc2, hc4, hcn⟩ : ∃ c2 : Nat, ((p : Int) + 1) / 2 = (c2 : Int) ∧ c2 ≤ 4 ∧ c2 = (p + 1) / 2 := ⟨(p + 1) / 2, by omega, by omega, rfl⟩
 rw [hc2]
 have p2 : 2 ≤ p := by omega
 have p7 : p ≤ 7 := by omega
 have HC2 := Lib.hid hcn
 clear hc2 hcn
 have htop : top < 64 := (deg_lead hd).1
 have HRT := Lib.hid (fun i => rt_lt (D := D) (top := top) p2 i)
 have HRW := Lib.hid (fun k j => rtW_bound (k := k) p7 lD htop (fun i => rt_lt (D := D) (top := top) p2 i) j)
 have HLD := Lib.hid lD
 have HF1 := Lib.hid (rtF_next p D top)
 have HRL := Lib.hid (rtF_le p D top)
 clear lD hd
 go_wp2_with fail
 go_loopw [8] (fun x wr => ∃ n : Nat, n ≤ 71 ∧ x = .int .i64 ((n + 1 : Nat) : Int) ∧ Below w.heap.size w wr ∧ Blk wr (w.heap.size) 64 26 (D) ∧ Row wr (w.heap.size + 1) 99 (icl 72 (fun _ => 0)).toArray ∧ Row wr (N1) 99 (icl 72 (rtF p D top n)).toArray) (fun x _ => 73 - (intOf x).toNat)
 case atStart => exact ⟨0, by omega, rfl, hb, B0, B1, B2⟩
 case round =>
  clear hb B0 B1 B2
  obtain ⟨n, hn, rfl, hb, B0, B1, B2⟩ := hrel
  obtain ⟨X, hX⟩ : ∃ X, X = n + 1 := ⟨_, rfl⟩
  rw [← hX]
  by_cases hn71 : n < 71
  · have hX72 : (X : Int) < 72 := by omega
    have hXn1 : (X : Int) - 1 = (n : Int) := by omega
    have HXn := Lib.hid hX
    obtain ⟨F, hF⟩ : ∃ F, F = rtF p D top n := ⟨_, rfl⟩
    obtain ⟨f, hf⟩ : ∃ f, f = rt p D top := ⟨_, rfl⟩
    have HFC := Lib.hid (show ∀ i, i ≤ n → F i = f i from fun i hi => by rw [hF, HRL.out, if_pos hi, hf])
    have HFB := Lib.hid (show ∀ i, 0 ≤ f i ∧ f i < 7 from fun i => by have := HRT.out i; rw [hf]; omega)
    have HWB := Lib.hid (show ∀ j : Nat, j ≤ 71 → -2600 ≤ rtW D top f X j ∧ rtW D top f X j ≤ 6 from fun j hj => by have := HRW.out X j; rw [hf]; omega)
    rw [← hF] at B2
    have HFe := Lib.hid hF
    have Hfe := Lib.hid hf
    clear hF hf hX
    by_cases hXt : X ≤ top
    · have hXi : (X : Int) ≤ (top : Int) := by omega
      obtain ⟨q, hq⟩ : ∃ q : Nat, (top : Int) - (X : Int) = (q : Int) := ⟨top - X, by omega⟩
      have hq64 : q < 64 := by omega
      have cc := B0.cell (i := q) hq64
      obtain ⟨l0, hl0⟩ : ∃ l0, l0 = rtW D top f X 0 := ⟨_, rfl⟩
      have hDq : ((D q : Nat) : Int) = l0 := by rw [hl0]; rw [rtW_zero, if_pos hXt, show top - X = q by omega]
      have hlq : D q < 7 := by have := HLD.out q hq64; omega
      have HL0 := Lib.hid hl0
      clear hl0
      go_upto_region 9 with (fail)
      clear cc hq hq64
      have h1n : (1 : Int) ≤ (X : Int) := by omega
      have h1N : 1 ≤ X := by omega
      have hX72N : X ≤ 72 := by omega
      obtain ⟨o, ho, hsl⟩ := slice3_any (P := Try.prog) Try.underlying99 Try.sizeI64 (N1) 1 X h1N hX72N
      rw [show X - 1 = n by have := HXn.out; omega] at hsl
      replace hsl : ∀ W, (Instr.sliceAt 99 (.pointer (some ⟨N1, 0, none⟩)) (some (.int .i64 1)) (some (.int .i64 (X : Int))) (some (.int .i64 (X : Int)))).run Try.prog W = .ok (.slice (some ⟨N1, o, none⟩) n n) W := fun W => hsl .i64 .i64 .i64 W
      have HO := Lib.hid ho
      clear hXi hXt ho
      go_wp2_with fail
      go_loopw [9, 35] (fun l i wv => ∃ j : Nat, j ≤ n ∧ i = .int .i64 (j : Int) ∧ l = .int .i64 (rtW D top f X j) ∧ wv = wr) (fun _ i _ => n - (intOf i).toNat)
      case atStart => exact ⟨0, Nat.zero_le _, rfl, by first | (rw [← HL0.out]; done) | (rw [← HL0.out, ← HDq.out]; done), rfl⟩
      case round =>
       obtain ⟨j, hjn, rfl, rfl, rfl⟩ := hrel
       obtain ⟨l, hl⟩ : ∃ l, l = rtW D top f X j := ⟨_, rfl⟩
       have hlb := HWB.out j (by omega)
       have HLj := Lib.hid hl
       rw [← hl] at hlb ⊢
       clear hl
       by_cases hj : j < n
       · have hjl : (j : Int) < (n : Int) := by omega
         obtain ⟨q2, hq2⟩ : ∃ q2 : Nat, (n : Int) - (j : Int) = (q2 : Int) := ⟨n - j, by omega⟩
         have hq72 : q2 < 72 := by omega
         obtain rfl := HO.out (by omega)
         have c1 := B2.zcell (i := 1 + j) (by omega)
         have c2' := B2.zcell (i := q2) (by omega)
         rw [HFC.out (1 + j) (by omega)] at c1
         rw [HFC.out q2 (by omega)] at c2'
         have k1 := HFB.out (1 + j)
         have k2 := HFB.out q2
         have hst : rtW D top f X (j + 1) = l - f (1 + j) * f q2 := by rw [rtW_succ, HLj.out, Nat.add_comm 1 j, show q2 = X - 1 - j by have := HXn.out; omega]
         obtain ⟨a1, ha1⟩ : ∃ a, a = f (1 + j) := ⟨_, rfl⟩
         obtain ⟨a2, ha2⟩ : ∃ a, a = f q2 := ⟨_, rfl⟩
         rw [← ha1] at c1 k1 hst
         rw [← ha2] at c2' k2 hst
         clear ha1 ha2
         have m1 : 0 ≤ a1 * a2 := Int.mul_nonneg k1.1 k2.1
         have m2 : a1 * a2 ≤ 6 * 6 := Int.mul_le_mul (by omega) (by omega) k2.1 (by omega)
         have HST := Lib.hid hst
         clear hst
         go_wp2_with fail
         go_roundw
         case rel => exact ⟨j + 1, by omega, by go_num, by rw [HST.out], (by first | rfl | trivial)⟩
         case measure => simp [intOf] <;> omega
       · have hjl : ¬ (j : Int) < (n : Int) := by omega
         obtain rfl : j = n := by omega
         have cc := B2.zcell (i := X) (by omega)
         have zz := B2.frozen X
         have q1 := Int.tmod_lt_of_pos l (show (0 : Int) < (p : Int) by omega)
         have q2 := Int.lt_tmod_of_pos l (show (0 : Int) < (p : Int) by omega)
         have t2 : 0 ≤ (l.tmod (p : Int) + (p : Int)) * (c2 : Int) := Int.mul_nonneg (by omega) (by omega)
         have t3 : (l.tmod (p : Int) + (p : Int)) * (c2 : Int) ≤ 14 * 4 := Int.mul_le_mul (by omega) (by omega) (by omega) (by omega)
         have HRV := Lib.hid (show (l.tmod (p : Int) + (p : Int)) * (c2 : Int) % (p : Int) = rt p D top X by
          rw [mod_sum _ _ (by omega), HLj.out, Hfe.out, HXn.out, rt_next, HC2.out]
          unfold rtX; rw [Nat.add_sub_cancel])
         go_wp2_with fail
         rw [HRV.out]
         refine ⟨⟨j + 1, by omega, ?_, hb.setCell (by show w.heap.size ≤ _; omega) _, B0.setOther (by dsimp only; omega), B1.setOther (by dsimp only; omega), ?_⟩, ?_⟩
         · rw [HXn.out]; go_num
         · rw [HF1.out, ← HXn.out, ← HFe.out]; have h := B2.zset (i := X) (v := rt p D top X); exact h
         · simp [intOf] <;> omega
        
    · have hXi : ¬ (X : Int) ≤ (top : Int) := by omega
      obtain ⟨l0, hl0⟩ : ∃ l0, l0 = rtW D top f X 0 := ⟨_, rfl⟩
      have hDq : (0 : Int) = l0 := by rw [hl0]; rw [rtW_zero, if_neg hXt]
      have HL0 := Lib.hid hl0
      clear hl0
      have HDq := Lib.hid hDq
      clear hDq
      go_upto_region 9 with (fail)
      have h1n : (1 : Int) ≤ (X : Int) := by omega
      have h1N : 1 ≤ X := by omega
      have hX72N : X ≤ 72 := by omega
      obtain ⟨o, ho, hsl⟩ := slice3_any (P := Try.prog) Try.underlying99 Try.sizeI64 (N1) 1 X h1N hX72N
      rw [show X - 1 = n by have := HXn.out; omega] at hsl
      replace hsl : ∀ W, (Instr.sliceAt 99 (.pointer (some ⟨N1, 0, none⟩)) (some (.int .i64 1)) (some (.int .i64 (X : Int))) (some (.int .i64 (X : Int)))).run Try.prog W = .ok (.slice (some ⟨N1, o, none⟩) n n) W := fun W => hsl .i64 .i64 .i64 W
      have HO := Lib.hid ho
      clear hXi hXt ho
      go_wp2_with fail
      go_loopw [9, 35] (fun l i wv => ∃ j : Nat, j ≤ n ∧ i = .int .i64 (j : Int) ∧ l = .int .i64 (rtW D top f X j) ∧ wv = wr) (fun _ i _ => n - (intOf i).toNat)
      case atStart => exact ⟨0, Nat.zero_le _, rfl, by first | (rw [← HL0.out]; done) | (rw [← HL0.out, ← HDq.out]; done), rfl⟩
      case round =>
       obtain ⟨j, hjn, rfl, rfl, rfl⟩ := hrel
       obtain ⟨l, hl⟩ : ∃ l, l = rtW D top f X j := ⟨_, rfl⟩
       have hlb := HWB.out j (by omega)
       have HLj := Lib.hid hl
       rw [← hl] at hlb ⊢
       clear hl
       by_cases hj : j < n
       · have hjl : (j : Int) < (n : Int) := by omega
         obtain ⟨q2, hq2⟩ : ∃ q2 : Nat, (n : Int) - (j : Int) = (q2 : Int) := ⟨n - j, by omega⟩
         have hq72 : q2 < 72 := by omega
         obtain rfl := HO.out (by omega)
         have c1 := B2.zcell (i := 1 + j) (by omega)
         have c2' := B2.zcell (i := q2) (by omega)
         rw [HFC.out (1 + j) (by omega)] at c1
         rw [HFC.out q2 (by omega)] at c2'
         have k1 := HFB.out (1 + j)
         have k2 := HFB.out q2
         have hst : rtW D top f X (j + 1) = l - f (1 + j) * f q2 := by rw [rtW_succ, HLj.out, Nat.add_comm 1 j, show q2 = X - 1 - j by have := HXn.out; omega]
         obtain ⟨a1, ha1⟩ : ∃ a, a = f (1 + j) := ⟨_, rfl⟩
         obtain ⟨a2, ha2⟩ : ∃ a, a = f q2 := ⟨_, rfl⟩
         rw [← ha1] at c1 k1 hst
         rw [← ha2] at c2' k2 hst
         clear ha1 ha2
         have m1 : 0 ≤ a1 * a2 := Int.mul_nonneg k1.1 k2.1
         have m2 : a1 * a2 ≤ 6 * 6 := Int.mul_le_mul (by omega) (by omega) k2.1 (by omega)
         have HST := Lib.hid hst
         clear hst
         go_wp2_with fail
         go_roundw
         case rel => exact ⟨j + 1, by omega, by go_num, by rw [HST.out], (by first | rfl | trivial)⟩
         case measure => simp [intOf] <;> omega
       · have hjl : ¬ (j : Int) < (n : Int) := by omega
         obtain rfl : j = n := by omega
         have cc := B2.zcell (i := X) (by omega)
         have zz := B2.frozen X
         have q1 := Int.tmod_lt_of_pos l (show (0 : Int) < (p : Int) by omega)
         have q2 := Int.lt_tmod_of_pos l (show (0 : Int) < (p : Int) by omega)
         have t2 : 0 ≤ (l.tmod (p : Int) + (p : Int)) * (c2 : Int) := Int.mul_nonneg (by omega) (by omega)
         have t3 : (l.tmod (p : Int) + (p : Int)) * (c2 : Int) ≤ 14 * 4 := Int.mul_le_mul (by omega) (by omega) (by omega) (by omega)
         have HRV := Lib.hid (show (l.tmod (p : Int) + (p : Int)) * (c2 : Int) % (p : Int) = rt p D top X by
          rw [mod_sum _ _ (by omega), HLj.out, Hfe.out, HXn.out, rt_next, HC2.out]
          unfold rtX; rw [Nat.add_sub_cancel])
         go_wp2_with fail
         rw [HRV.out]
         refine ⟨⟨j + 1, by omega, ?_, hb.setCell (by show w.heap.size ≤ _; omega) _, B0.setOther (by dsimp only; omega), B1.setOther (by dsimp only; omega), ?_⟩, ?_⟩
         · rw [HXn.out]; go_num
         · rw [HF1.out, ← HXn.out, ← HFe.out]; have h := B2.zset (i := X) (v := rt p D top X); exact h
         · simp [intOf] <;> omega
        
  · obtain rfl : n = 71 := by omega
    have hX72 : ¬ (X : Int) < 72 := by omega
    go_upto_region 15 with (fail)
    have lt_B0 := B0.lt
    have lt_B1 := B1.lt
    have lt_B2 := B2.lt
    have lt_B0 := B0.lt
    have lt_B1 := B1.lt
    have lt_B2 := B2.lt
    go_wp2_with (first | rw [← z64] | (refine zlr rfl 99 (.tmp 5) rfl _ rfl 99 (icl 72 (rtF p D top 71)).toArray (B2) _ Try.underlying99 rfl 72 Try.size99 (by simp [icl_len]) ?_) | (refine wpList_store_rowv rfl 99 (.tmp 4) (.tmp 62) rfl _ rfl (icl 72 (rtF p D top 71)).toArray rfl 99 _ (B1) 72 Try.size99 (by simp [icl_len]) (by simp [icl_len]) (icl_all _ _) ?_; try simp only [Act.put]))
    obtain ⟨W4, hwo, hzQ⟩ : ∃ v : World, v = (wr.setRow (w.heap.size + 1) (icl 72 (rtF p D top 71)).toArray) ∧ Blk v (w.heap.size) 64 26 (D) ∧ Row v (w.heap.size + 1) 99 (icl 72 (rtF p D top 71)).toArray ∧ Row v (N1) 99 (icl 72 (rtF p D top 71)).toArray ∧ Below w.heap.size w v := ⟨_, rfl, (B0.rowOther (by omega)), (B1.row (icl 72 (rtF p D top 71)).toArray), (B2.rowOther (by omega)), (zr hb (by omega) _)⟩
    rw [← hwo]
    clear hwo B0 B1 B2 hb
    obtain ⟨B0, B1, B2, hb⟩ := hzQ
    try simp only [Act.put, pA, pB, pC]
    rw [show icl 72 (rtF p D top 71) = icl 72 (rt p D top) from icl_congr fun i hi => by rw [HRL.out 71 i, if_pos (by omega)]] at B1
    refine bodyPost_ret (results_row rfl _ _ _ _ _ rfl B1 _ Try.underlying99 rfl (by rw [Try.size99]; simp [icl_len])) rfl ⟨rfl, hb⟩
end Go.Proofs.Ytgcajgmokcmcgaa
end
section
namespace Go.Proofs.Ytgcajgmokcmcgaa
open Go Go.RowKit
set_option linter.unusedVariables false
set_option linter.unusedSimpArgs false
/-- the code of a square case -/
def sqC (p : Int) (D : Nat → Nat) : Int := if codeL p [D] = 0 then (if ¬ p = 2 ∧ monB D = true ∧ deg D % 2 = 0 then 0 else 2) else 1
theorem sqC_1 {p : Int} {D : Nat → Nat} (h : codeL p [D] = 1) : sqC p D = 1 := by unfold sqC; rw [if_neg (by omega)]
theorem sqC_2 {p : Int} {D : Nat → Nat} (h : codeL p [D] = 0) (h2 : ¬ (¬ p = 2 ∧ monB D = true ∧ deg D % 2 = 0)) : sqC p D = 2 := by unfold sqC; rw [if_pos h, if_neg h2]
theorem sqC_0 {p : Int} {D : Nat → Nat} (h : codeL p [D] = 0) (h2 : ¬ p = 2 ∧ monB D = true ∧ deg D % 2 = 0) : sqC p D = 0 := by unfold sqC; rw [if_pos h, if_pos h2]
theorem sqC_yes {p : Int} {D : Nat → Nat} (h : sqC p D = 0) : codeL p [D] = 0 ∧ ¬ p = 2 ∧ ∃ g : Nat, deg D = ((2 * g : Nat) : Int) ∧ D (2 * g) = 1 ∧ g ≤ 31 := by
 unfold sqC at h
 by_cases h1 : codeL p [D] = 0
 · rw [if_pos h1] at h
   by_cases h2 : ¬ p = 2 ∧ monB D = true ∧ deg D % 2 = 0
   · obtain ⟨a, b, c⟩ := h2
     have b2 := of_decide_eq_true b
     obtain ⟨g, hg⟩ : ∃ g : Nat, deg D = ((2 * g : Nat) : Int) := ⟨(deg D).toNat / 2, by omega⟩
     have h64 := (deg_lead hg).1
     refine ⟨h1, a, g, hg, ?_, by omega⟩
     have := b2.2
     rwa [hg, Int.toNat_natCast] at this
   · rw [if_neg h2] at h; omega
 · rw [if_neg h1] at h; omega
attribute [local irreducible] deg icl rt sqC
set_option maxRecDepth 100000 in
set_option maxHeartbeats 3200000 in
theorem checkSquareCase_any (p : Int) (D : Nat → Nat) (hD : byte D) (w : World) :
 Calls Try.prog 83 #[.int .i64 p, .agg (zb 64 D)] w fun e w' => e = .returned (.int .i64 (sqC p D)) ∧ Below w.heap.size w w' := by
 go_enter Try.func83, Try.ntmps83
 go_upto_region 1 with (fail)
 obtain ⟨W1, hwo⟩ : ∃ v : World, v = (w.alloc (.cells (zb 64 (D)) 26)) := ⟨_, rfl⟩
 have B0 : Blk W1 (w.heap.size) 64 26 (D) := by subst hwo; have := (Blk.new w 64 26 (D)); simpa using this
 have hb : Below w.heap.size w W1 := by subst hwo; exact ((Below.refl _ _).alloc (Nat.le_refl _) _)
 rw [← hwo]
 clear hwo
 go_upto_region 2 with (first | (refine zla (.tmp 3) B0 Try.underlying26 Try.size26 ?_) | (refine wpList_build_polys rfl 31 _ [D] rfl 26 rfl Try.underlying31 Try.elem26 (by simp) (by simp) rfl ?_; intro wa hwa hps hba; clear hwa) | (go_at_call 76; refine (checkPolys_any p [D] (by simp [hD]) _ _ hps (by simp)).mono ?_; rintro e W2 ⟨rfl, hbb⟩))
 have hBB : Below W1.heap.size W1 W2 := hba.trans (hbb.mono hba.size)
 replace B0 := B0.zw hBB
 replace hb := hb.trans (hBB.mono hb.size)
 clear hBB hba hbb hps
 rcases codeL_two p [D] with hc | hc
 · have HC := Lib.hid hc
   rw [hc]
   clear hc
   rcases deg_spec D with ⟨hd, _⟩ | ⟨d, hd64, hd, hne, _⟩
   · have HV := Lib.hid (sqC_2 HC.out (by rw [hd]; simp))
     have HDG := Lib.hid (fun W => show Calls Try.prog _ _ W (fun e w' => e = .returned (.int .i64 (-1)) ∧ Below W.heap.size W w') from hd ▸ degree_any D W)
     clear hd
     by_cases hp2 : p = 2
     · have hp2b : (p == 2) = true := by simp [hp2]
       clear hp2
       go_wp2_with (first | (refine zla (.tmp 3) B0 Try.underlying26 Try.size26 ?_) | (go_at_call 69; refine (HDG.out _).mono ?_; rintro e W9 ⟨rfl, h9⟩; replace B0 := B0.zw h9; replace hb := hb.trans (h9.mono hb.size)))
       go_ret
       exact ⟨by rw [HV.out]; rfl, hb⟩
     · have hp2b : (p == 2) = false := by simp [hp2]
       go_wp2_with (first | (refine zla (.tmp 3) B0 Try.underlying26 Try.size26 ?_) | (go_at_call 69; refine (HDG.out _).mono ?_; rintro e W9 ⟨rfl, h9⟩; replace B0 := B0.zw h9; replace hb := hb.trans (h9.mono hb.size)))
       go_ret
       exact ⟨by rw [HV.out]; rfl, hb⟩
   · have hDd := hD d
     have HMB := Lib.hid (monB_at hd)
     have HDD := Lib.hid hd
     have HDG := Lib.hid (fun W => show Calls Try.prog _ _ W (fun e w' => e = .returned (.int .i64 ((d : Int))) ∧ Below W.heap.size W w') from hd ▸ degree_any D W)
     clear hd
     by_cases hp2 : p = 2
     · have HV := Lib.hid (sqC_2 HC.out (fun h => h.1 hp2))
       have hp2b : (p == 2) = true := by simp [hp2]
       clear hp2
       go_wp2_with (first | (refine zla (.tmp 3) B0 Try.underlying26 Try.size26 ?_) | (go_at_call 69; refine (HDG.out _).mono ?_; rintro e W9 ⟨rfl, h9⟩; replace B0 := B0.zw h9; replace hb := hb.trans (h9.mono hb.size)))
       go_ret
       exact ⟨by rw [HV.out]; rfl, hb⟩
     · have hp2b : (p == 2) = false := by simp [hp2]
       by_cases hod : d % 2 = 0
       · have hm : ((d : Int) % 2 != 0) = false := by simp; omega
         by_cases h1 : D d = 1
         · have HV := Lib.hid (sqC_0 HC.out ⟨hp2, by rw [HMB.out, h1]; rfl, by rw [HDD.out]; omega⟩)
           have h1b : (((D d : Nat) : Int) != 1) = false := by rw [h1]; rfl
           clear hp2 h1
           go_upto_region 5 with (first | (refine zla (.tmp 3) B0 Try.underlying26 Try.size26 ?_) | (go_at_call 69; refine (HDG.out _).mono ?_; rintro e W9 ⟨rfl, h9⟩; replace B0 := B0.zw h9; replace hb := hb.trans (h9.mono hb.size)))
           have cc := B0.cell (i := d) hd64
           go_wp2_with (fail)
           go_ret
           exact ⟨by rw [HV.out]; rfl, hb⟩
         · have HV := Lib.hid (sqC_2 HC.out (fun h => by
            have h2 := h.2.1
            rw [HMB.out] at h2
            simp at h2
            omega))
           have h1b : (((D d : Nat) : Int) != 1) = true := by simp; omega
           clear hp2 h1
           go_upto_region 5 with (first | (refine zla (.tmp 3) B0 Try.underlying26 Try.size26 ?_) | (go_at_call 69; refine (HDG.out _).mono ?_; rintro e W9 ⟨rfl, h9⟩; replace B0 := B0.zw h9; replace hb := hb.trans (h9.mono hb.size)))
           have cc := B0.cell (i := d) hd64
           go_wp2_with (fail)
           go_ret
           exact ⟨by rw [HV.out]; rfl, hb⟩
       · have hm : ((d : Int) % 2 != 0) = true := by simp; omega
         have HV := Lib.hid (sqC_2 HC.out (fun h => by have h2 := h.2.2; rw [HDD.out] at h2; omega))
         clear hp2
         go_wp2_with (first | (refine zla (.tmp 3) B0 Try.underlying26 Try.size26 ?_) | (go_at_call 69; refine (HDG.out _).mono ?_; rintro e W9 ⟨rfl, h9⟩; replace B0 := B0.zw h9; replace hb := hb.trans (h9.mono hb.size)))
         go_ret
         exact ⟨by rw [HV.out]; rfl, hb⟩
 · have HV := Lib.hid (sqC_1 hc)
   rw [hc]
   clear hc
   go_wp2_with fail
   go_ret
   exact ⟨by rw [HV.out]; rfl, hb⟩
set_option maxRecDepth 100000 in
set_option maxHeartbeats 3200000 in
theorem l10Case_any (p : Int) (D : Nat → Nat) (hD : byte D) (w : World) :
 Calls Try.prog 81 #[.int .i64 p, .agg (zb 64 D)] w fun e w' => e = .returned (.int .i64 (sqC p D)) ∧ Below w.heap.size w w' := by
 have HMO := Lib.hid (fun W => l01Monic_any D hD W)
 go_enter Try.func81, Try.ntmps81
 go_upto_region 1 with (fail)
 obtain ⟨W1, hwo⟩ : ∃ v : World, v = (w.alloc (.cells (zb 64 (D)) 26)) := ⟨_, rfl⟩
 have B0 : Blk W1 (w.heap.size) 64 26 (D) := by subst hwo; have := (Blk.new w 64 26 (D)); simpa using this
 have hb : Below w.heap.size w W1 := by subst hwo; exact ((Below.refl _ _).alloc (Nat.le_refl _) _)
 rw [← hwo]
 clear hwo
 rcases codeL_two p [D] with hc | hc
 · have HC := Lib.hid hc
   go_upto_region 3 with (first | (refine zla (.tmp 3) B0 Try.underlying26 Try.size26 ?_) | (refine wpList_build_polys rfl 31 _ [D] rfl 26 rfl Try.underlying31 Try.elem26 (by simp) (by simp) rfl ?_; intro wa hwa hps hba; clear hwa) | (go_at_call 74; refine (l01Code_any p [D] (by simp [hD]) _ _ hps (by simp)).mono ?_; rintro e W2 ⟨rfl, hbb⟩; rw [hc]))
   have hBB : Below W1.heap.size W1 W2 := hba.trans (hbb.mono hba.size)
   replace B0 := B0.zw hBB
   replace hb := hb.trans (hBB.mono hb.size)
   clear hBB hba hbb hps
   clear hc
   by_cases hp2 : p = 2
   · have HV := Lib.hid (sqC_2 HC.out (fun h => h.1 hp2))
     have hp2b : (p == 2) = true := by simp [hp2]
     clear hp2
     go_wp2_with fail
     go_ret
     exact ⟨by rw [HV.out]; rfl, hb⟩
   · have hp2b : (p == 2) = false := by simp [hp2]
     cases hm : monB D with
     | false =>
      have HMB := Lib.hid hm
      have HV := Lib.hid (sqC_2 HC.out (fun h => by rw [hm] at h; cases h.2.1))
      clear hp2 hm
      go_wp2_with (first | (refine zla (.tmp 3) B0 Try.underlying26 Try.size26 ?_) | (refine zlg rfl 26 (.tmp 3) rfl _ rfl 64 26 _ B0 _ Try.underlying26 rfl Try.size26 ?_) | (go_at_call 127; refine (HMO.out _).mono ?_; rintro e W9 ⟨rfl, h9⟩; rw [show monB D = false from HMB.out]; replace B0 := B0.zw h9; replace hb := hb.trans (h9.mono hb.size)))
      go_ret
      exact ⟨by rw [HV.out]; rfl, hb⟩
     | true =>
      have HMB := Lib.hid hm
      obtain ⟨d, hd⟩ : ∃ d : Nat, deg D = (d : Int) := ⟨(deg D).toNat, by have := (of_decide_eq_true hm).1; omega⟩
      have HDG := Lib.hid (fun W => show Calls Try.prog _ _ W (fun e w' => e = .returned (.int .i64 (d : Int)) ∧ Below W.heap.size W w') from hd ▸ l01Deg_any D W)
      by_cases hod : d % 2 = 0
      · have HV := Lib.hid (sqC_0 HC.out ⟨hp2, hm, by rw [hd]; omega⟩)
        have hmb : ((d : Int) % 2 != 0) = false := by simp; omega
        clear hp2 hm hd
        go_wp2_with (first | (refine zla (.tmp 3) B0 Try.underlying26 Try.size26 ?_) | (refine zlg rfl 26 (.tmp 3) rfl _ rfl 64 26 _ B0 _ Try.underlying26 rfl Try.size26 ?_) | (go_at_call 127; refine (HMO.out _).mono ?_; rintro e W9 ⟨rfl, h9⟩; rw [show monB D = true from HMB.out]; replace B0 := B0.zw h9; replace hb := hb.trans (h9.mono hb.size)) | (go_at_call 63; refine (HDG.out _).mono ?_; rintro e W8 ⟨rfl, h8⟩; replace B0 := B0.zw h8; replace hb := hb.trans (h8.mono hb.size)))
        go_ret
        exact ⟨by rw [HV.out]; rfl, hb⟩
      · have HV := Lib.hid (sqC_2 HC.out (fun h => by have h2 := h.2.2; rw [hd] at h2; omega))
        have hmb : ((d : Int) % 2 != 0) = true := by simp; omega
        clear hp2 hm hd
        go_wp2_with (first | (refine zla (.tmp 3) B0 Try.underlying26 Try.size26 ?_) | (refine zlg rfl 26 (.tmp 3) rfl _ rfl 64 26 _ B0 _ Try.underlying26 rfl Try.size26 ?_) | (go_at_call 127; refine (HMO.out _).mono ?_; rintro e W9 ⟨rfl, h9⟩; rw [show monB D = true from HMB.out]; replace B0 := B0.zw h9; replace hb := hb.trans (h9.mono hb.size)) | (go_at_call 63; refine (HDG.out _).mono ?_; rintro e W8 ⟨rfl, h8⟩; replace B0 := B0.zw h8; replace hb := hb.trans (h8.mono hb.size)))
        go_ret
        exact ⟨by rw [HV.out]; rfl, hb⟩
 · have HV := Lib.hid (sqC_1 hc)
   go_upto_region 2 with (first | (refine zla (.tmp 3) B0 Try.underlying26 Try.size26 ?_) | (refine wpList_build_polys rfl 31 _ [D] rfl 26 rfl Try.underlying31 Try.elem26 (by simp) (by simp) rfl ?_; intro wa hwa hps hba; clear hwa) | (go_at_call 74; refine (l01Code_any p [D] (by simp [hD]) _ _ hps (by simp)).mono ?_; rintro e W2 ⟨rfl, hbb⟩; rw [hc]))
   have hBB : Below W1.heap.size W1 W2 := hba.trans (hbb.mono hba.size)
   replace B0 := B0.zw hBB
   replace hb := hb.trans (hBB.mono hb.size)
   clear hBB hba hbb hps
   go_wp2_with fail
   go_ret
   exact ⟨by rw [HV.out]; rfl, hb⟩
end Go.Proofs.Ytgcajgmokcmcgaa
end
section
namespace Go.Proofs.Ytgcajgmokcmcgaa
open Go Go.RowKit
set_option linter.unusedVariables false
set_option linter.unusedSimpArgs false
/-- where a part of an array begins -/
def paO (a n : Nat) : Nat := if n = 0 then 0 else a
theorem paO_pos {a n : Nat} (h : 0 < n) : paO a n = a := if_neg (by omega)
attribute [local irreducible] deg icl rt sqC paO
set_option maxRecDepth 100000 in
set_option maxHeartbeats 3200000 in
theorem part_any (f : Nat → Int) (a n : Nat) (w : World) (h : a + n ≤ 72) :
 Calls Try.prog 87 #[.agg (icl 72 f).toArray, .int .i64 (a : Int), .int .i64 (n : Int)] w fun e w' => e = .returned (.slice (some ⟨w.heap.size, paO a n, none⟩) n n) ∧ Row w' w.heap.size 99 (icl 72 f).toArray ∧ Below w.heap.size w w' := by
 obtain ⟨o, ho, hsl⟩ : ∃ o, o = paO a n ∧ ∀ W, (Instr.sliceAt 99 (.pointer (some ⟨w.heap.size, 0, none⟩)) (some (.int .i64 (a : Int))) (some (.int .i64 ((a : Int) + (n : Int)))) (some (.int .i64 ((a : Int) + (n : Int))))).run Try.prog W = .ok (.slice (some ⟨w.heap.size, o, none⟩) n n) W := by
  obtain ⟨o, ho, hs⟩ := slice3_exact (P := Try.prog) Try.underlying99 Try.sizeI64 w.heap.size a (a + n) (by omega) h
  refine ⟨o, ?_, fun W => ?_⟩
  · rw [ho]; unfold paO
    by_cases e : n = 0
    · rw [if_pos e, if_pos (by omega)]
    · rw [if_neg e, if_neg (by omega)]
  · have := hs .i64 .i64 .i64 W
    rwa [Nat.add_sub_cancel_left, Int.natCast_add] at this
 rw [← ho]
 clear ho
 have h1 : (a : Int) + (n : Int) ≤ 72 := by omega
 go_enter Try.func87, Try.ntmps87
 go_upto_region 1 with (fail)
 obtain ⟨W1, hwo⟩ : ∃ v : World, v = (w.alloc (.cells (icl 72 f).toArray 99)) := ⟨_, rfl⟩
 have B0 : Row W1 (w.heap.size) 99 (icl 72 f).toArray := by subst hwo; have := (Row.new w 99 (icl 72 f).toArray); simpa using this
 have hb : Below w.heap.size w W1 := by subst hwo; exact ((Below.refl _ _).alloc (Nat.le_refl _) _)
 rw [← hwo]
 clear hwo
 go_wp2_with fail
 go_ret
 exact ⟨rfl, B0, hb⟩
end Go.Proofs.Ytgcajgmokcmcgaa
end
section
namespace Go.Proofs.Ytgcajgmokcmcgaa
open Go Go.RowKit
set_option linter.unusedVariables false
set_option linter.unusedSimpArgs false
theorem sqC_split (p : Int) (D : Nat → Nat) : (∃ c, sqC p D = c ∧ c ≠ 0) ∨ (sqC p D = 0 ∧ ∃ n g : Nat, p = (n : Int) ∧ (n = 2 ∨ n = 3 ∨ n = 5 ∨ n = 7) ∧ (∀ k, k < 64 → D k < n) ∧ deg D = ((2 * g : Nat) : Int) ∧ g ≤ 31) := by
 by_cases h : sqC p D = 0
 · right
   obtain ⟨hc, _, g, hg, _, h31⟩ := sqC_yes h
   obtain ⟨n, hn, n2, n7⟩ := okP_nat (codeL_zero hc).1
   subst hn
   exact ⟨h, n, g, rfl, prime_of hc, lt_of_code hc (by simp), hg, h31⟩
 · exact .inl ⟨_, rfl, h⟩
attribute [local irreducible] deg icl rt sqC
end Go.Proofs.Ytgcajgmokcmcgaa
end
section
namespace Go.Proofs.Ytgcajgmokcmcgaa
open Go Go.RowKit
set_option linter.unusedVariables false
set_option linter.unusedSimpArgs false
/-- the rows of numbers -/
def ilZ (L : List Int) : List (List Value) := L.map fun x => [.int .i64 x]
theorem ilZ_snoc (L : List Int) (x : Int) : ilZ (L ++ [x]) = ilZ L ++ [[.int .i64 x]] := by simp [ilZ]
theorem ilZ_len (L : List Int) : (ilZ L).length = L.length := by simp [ilZ]
theorem ilZ_nil : ilZ [] = [] := rfl
theorem ilZ_flat : ∀ (L : List Int), (ilZ L).flatten = L.map fun x => Value.int .i64 x
 | [] => rfl
 | x :: L => by
  have := ilZ_flat L
  unfold ilZ at *
  rw [List.map_cons, List.flatten_cons, this]; rfl
/-- a list of numbers whose block lies between lo and hi -/
def Seg (w : World) (lo hi : Nat) (v : Value) (L : List Int) : Prop :=
 lo ≤ hi ∧ hi ≤ w.heap.size ∧ ∃ a cap, v = .slice a L.length cap ∧ (L = [] ∨ ∃ g o t cs, a = some ⟨g, o, none⟩ ∧ lo ≤ g ∧ g < hi ∧ Row w g t cs ∧ o + L.length ≤ cs.size ∧ ∀ i x, L[i]? = some x → cs[o + i]? = some (.int .i64 x))
theorem Seg.lt {w : World} {lo hi : Nat} {v : Value} {L : List Int} (h : Seg w lo hi v L) : hi ≤ w.heap.size := h.2.1
theorem Seg.form {w : World} {lo hi : Nat} {v : Value} {L : List Int} (h : Seg w lo hi v L) : ∃ a cap, v = .slice a L.length cap := by
 obtain ⟨_, _, a, cap, e, _⟩ := h
 exact ⟨a, cap, e⟩
theorem Seg.move {w w' : World} {lo hi : Nat} {v : Value} {L : List Int} (h : Seg w lo hi v L) (hs : w.heap.size ≤ w'.heap.size) (hb : ∀ k, lo ≤ k → k < hi → w'.heap[k]? = w.heap[k]?) : Seg w' lo hi v L := by
 obtain ⟨h1, h2, a, cap, e, h3⟩ := h
 refine ⟨h1, Nat.le_trans h2 hs, a, cap, e, ?_⟩
 rcases h3 with h3 | ⟨g, o, t, cs, e2, g1, g2, hr, hc⟩
 · exact .inl h3
 · exact .inr ⟨g, o, t, cs, e2, g1, g2, hr.of (hb g g1 g2), hc⟩
theorem Seg.below {w w' : World} {lo hi : Nat} {v : Value} {L : List Int} (h : Seg w lo hi v L) {B : Nat} (hb : Below B w w') (hB : hi ≤ B) : Seg w' lo hi v L :=
 h.move hb.size fun k _ h2 => hb.block k (by omega)
theorem Seg.zw {w w' : World} {lo hi : Nat} {v : Value} {L : List Int} (h : Seg w lo hi v L) (hb : Below w.heap.size w w') : Seg w' lo hi v L := Seg.below h hb (Seg.lt h)
theorem Seg.drew {w : World} {lo hi : Nat} {v : Value} {L : List Int} (h : Seg w lo hi v L) : Seg w.drew lo hi v L := h.move (Nat.le_refl _) fun _ _ _ => rfl
theorem Seg.nil (w : World) {lo hi : Nat} (a : Option Addr) (cap : Nat) (h1 : lo ≤ hi) (h : hi ≤ w.heap.size) : Seg w lo hi (.slice a 0 cap) [] := ⟨h1, h, a, cap, rfl, .inl rfl⟩
theorem SlL.seg {w : World} {base : Nat} {v : Value} {L : List Int} (h : SlL w base 2 1 v (ilZ L)) : Seg w base w.heap.size v L := by
 delta SlL at h
 obtain ⟨h1, h2, h3⟩ := h
 refine ⟨h1, Nat.le_refl _, ?_⟩
 rw [ilZ_len] at h3
 rcases h3.2 with ⟨e, h4⟩ | ⟨g, cap, cur, e, h4, h5, h6, h7, h8, h9⟩
 · have hn : L = [] := List.length_eq_zero_iff.1 h4
   subst hn
   exact ⟨none, 0, e, .inl rfl⟩
 · refine ⟨_, cap, e, .inr ⟨g, 0, 2, cur, rfl, h4, ?_, by delta Row; exact h5, by omega, fun i x hx => ?_⟩⟩
   · have : w.heap[g]? ≠ none := by rw [h5]; simp
     simpa using this
   · rw [ilZ_flat] at h9
     have h10 : (cur.toList.take (L.length * 1))[i]? = Option.some (Value.int .i64 x) := by rw [h9, List.getElem?_map, hx]; rfl
     have hi := (List.getElem?_eq_some_iff.1 hx).1
     rw [List.getElem?_take, if_pos (by omega)] at h10
     rw [Nat.zero_add]
     simpa using h10
/-- the first q cells are marked -/
def MkS (w : World) (lo hi : Nat) (v : Value) (n q : Nat) : Prop :=
 hi ≤ w.heap.size ∧ ∃ a cap, v = .slice a n cap ∧ (n = 0 ∨ ∃ g o t cs, a = some ⟨g, o, none⟩ ∧ lo ≤ g ∧ g < hi ∧ Row w g t cs ∧ o + n ≤ cs.size ∧ ∀ k, k < q → cs[o + k]? = some (mkI k))
theorem Seg.marks {w : World} {lo hi : Nat} {v : Value} {L : List Int} (h : Seg w lo hi v L) : MkS w lo hi v L.length 0 := by
 obtain ⟨h1, h2, a, cap, e, h3⟩ := h
 refine ⟨h2, a, cap, e, ?_⟩
 rcases h3 with h3 | ⟨g, o, t, cs, e2, g1, g2, hr, hc, _⟩
 · exact .inl (by rw [h3]; rfl)
 · exact .inr ⟨g, o, t, cs, e2, g1, g2, hr, hc, fun k hk => absurd hk (by omega)⟩
theorem MkS.below {w w' : World} {lo hi : Nat} {v : Value} {n q : Nat} (h : MkS w lo hi v n q) {B : Nat} (hb : Below B w w') (hB : hi ≤ B) : MkS w' lo hi v n q := by
 obtain ⟨h2, a, cap, e, h3⟩ := h
 refine ⟨Nat.le_trans h2 hb.size, a, cap, e, ?_⟩
 rcases h3 with h3 | ⟨g, o, t, cs, e2, g1, g2, hr, hc⟩
 · exact .inl h3
 · exact .inr ⟨g, o, t, cs, e2, g1, g2, hr.below hb (by omega), hc⟩
theorem MkS.lt {w : World} {lo hi : Nat} {v : Value} {n q : Nat} (h : MkS w lo hi v n q) : hi ≤ w.heap.size := h.1
theorem MkS.zw {w w' : World} {lo hi n q : Nat} {v : Value} (h : MkS w lo hi v n q) (hb : Below w.heap.size w w') : MkS w' lo hi v n q := MkS.below h hb (MkS.lt h)
attribute [local irreducible] mkI
set_option maxRecDepth 100000 in
set_option maxHeartbeats 3200000 in
theorem eqInt64S_seg (L : List Int) (lo1 hi1 lo2 hi2 : Nat) (v1 v2 : Value) (w : World) (h1 : Seg w lo1 hi1 v1 L) (h2 : Seg w lo2 hi2 v2 L) (hL : L.length ≤ 1000) :
 Calls Try.prog 21 #[v1, v2] w fun e w' => e = .returned (.bool true) ∧ Below w.heap.size w w' := by
 obtain ⟨_, s1, a1, cap1, rfl, h1⟩ := h1
 obtain ⟨_, s2, a2, cap2, rfl, h2⟩ := h2
 go_enter Try.func21, Try.ntmps21
 go_wp2_with fail
 go_loopw [5] (fun i wr => ∃ j : Nat, i = .int .i64 (j : Int) ∧ j ≤ L.length ∧ Below w.heap.size w wr) (fun i _ => L.length - (intOf i).toNat)
 case atStart => exact ⟨0, rfl, Nat.zero_le _, Below.refl _ _⟩
 case round =>
  obtain ⟨j, rfl, hjR, hb⟩ := hrel
  by_cases hj : j < L.length
  · obtain ⟨x, hx⟩ : ∃ x, L[j]? = some x := ⟨_, List.getElem?_eq_getElem hj⟩
    rcases h1 with h1 | ⟨g1, o1, t1, cs1, rfl, l1, u1, r1, b1, c1⟩
    · subst h1; simp at hj
    rcases h2 with h2 | ⟨g2, o2, t2, cs2, rfl, l2, u2, r2, b2, c2⟩
    · subst h2; simp at hj
    have R1 := r1.below hb (by omega)
    have R2 := r2.below hb (by omega)
    have cc1 := R1.cell (c1 j x hx)
    have cc2 := R2.cell (c2 j x hx)
    have hjl : (j : Int) < (L.length : Int) := by omega
    have hne : ((x : Int) != (x : Int)) = false := by simp
    clear c1 c2
    go_upto_region 6 with (fail)
    go_quiet (fail)
    go_wp2_with fail
    go_roundw
    case rel => exact ⟨j + 1, by go_num, by omega, below_drewN' hb _⟩
    case measure => simp [intOf] <;> omega
  · have hjl : ¬ (j : Int) < (L.length : Int) := by omega
    go_wp2_with fail
    go_ret
    exact ⟨rfl, hb⟩
set_option maxRecDepth 100000 in
set_option maxHeartbeats 3200000 in
theorem markInt64S_seg (n lo hi : Nat) (v : Value) (w : World) (h : MkS w lo hi v n 0) (hlo : lo ≤ w.heap.size) (hn : n ≤ 1000) :
 Calls Try.prog 22 #[v, .int .i64 1] w fun e w' => e = .returned (.int .i64 ((1 + n : Nat) : Int)) ∧ MkS w' lo hi v n n ∧ Below lo w w' := by
 obtain ⟨s1, a, cap, rfl, h⟩ := h
 go_enter Try.func22, Try.ntmps22
 go_wp2_with fail
 go_loopw [1, 5] (fun x i wr => ∃ j X : Nat, x = .int .i64 (X : Int) ∧ X = 1 + j ∧ i = .int .i64 (j : Int) ∧ j ≤ n ∧ MkS wr lo hi (.slice a n cap) n j ∧ Below lo w wr) (fun _ i _ => n - (intOf i).toNat)
 case atStart => exact ⟨0, 1, rfl, rfl, rfl, Nat.zero_le _, ⟨s1, a, cap, rfl, h⟩, Below.refl _ _⟩
 case round =>
  clear h; obtain ⟨j, X, rfl, hX, rfl, hjn, hM, hG⟩ := hrel
  by_cases hj : j < n
  · have hjl : (j : Int) < (n : Int) := by omega
    obtain ⟨s2, a', cap', ee, hM⟩ := hM
    rcases hM with hM | ⟨g, o, t, cs, rfl, l1, u1, r1, b1, c1⟩
    · omega
    cases ee
    have hX2 : X ≤ 1001 := by omega
    have e1 : mkI j = .int .i64 (X : Int) := by unfold mkI; rw [show (1 + (j : Int)) = (X : Int) by omega]
    have HX := Lib.hid hX
    clear hX
    have hol : o + j < cs.size := by omega
    have cc := r1.cell (i := o + j) (v := cs[o + j]) (Array.getElem?_eq_getElem hol)
    have zz := r1.frozen (o + j)
    have HM2 := Lib.hid (show MkS (wr.setCell ⟨g, o + j, none⟩ (.int .i64 (X : Int))) lo hi (.slice (some ⟨g, o, none⟩) n cap) n (j + 1) from ⟨by simpa using s2, _, _, rfl, .inr ⟨g, o, t, _, rfl, l1, u1, r1.set, by simpa using b1, fun k hk => by
     by_cases e : k = j
     · subst e; rw [Array.getElem?_setIfInBounds, if_pos rfl, if_pos hol, e1]
     · rw [Array.getElem?_setIfInBounds, if_neg (by omega)]; exact c1 k (by omega)⟩⟩)
    have HG2 := Lib.hid (show Below lo w (wr.setCell ⟨g, o + j, none⟩ (.int .i64 (X : Int))) from hG.setCell (by show lo ≤ g; exact l1) _)
    clear c1 e1 hG b1
    go_wp2_with fail
    go_roundw
    case rel => exact ⟨j + 1, X + 1, by go_num, by have := HX.out; omega, by go_num, by omega, HM2.out, HG2.out⟩
    case measure => simp [intOf] <;> omega
  · have hjl : ¬ (j : Int) < (n : Int) := by omega
    have e : j = n := by omega
    subst e
    go_wp2_with fail
    go_ret
    exact ⟨ret_int (by push_cast; rfl), hM, hG⟩
set_option maxRecDepth 100000 in
set_option maxHeartbeats 3200000 in
theorem heldInt64S_seg (n lo hi : Nat) (v : Value) (w : World) (h : MkS w lo hi v n n) (hn : n ≤ 1000) :
 Calls Try.prog 23 #[v, .int .i64 1] w fun e w' => e = .returned (.int .i64 ((1 + n : Nat) : Int)) ∧ w = w' := by
 obtain ⟨s1, a, cap, rfl, h⟩ := h
 go_enter Try.func23, Try.ntmps23
 go_wp2_with fail
 go_loopw [1, 5] (fun x i wr => ∃ j X : Nat, x = .int .i64 (X : Int) ∧ X = 1 + j ∧ i = .int .i64 (j : Int) ∧ j ≤ n ∧ wr = w) (fun _ i _ => n - (intOf i).toNat)
 case atStart => exact ⟨0, 1, rfl, rfl, rfl, Nat.zero_le _, rfl⟩
 case round =>
  obtain ⟨j, X, rfl, hX, rfl, hjn, rfl⟩ := hrel
  by_cases hj : j < n
  · have hjl : (j : Int) < (n : Int) := by omega
    rcases h with h | ⟨g, o, t, cs, rfl, l1, u1, r1, b1, c1⟩
    · omega
    have hX2 : X ≤ 1001 := by omega
    have e1 : mkI j = .int .i64 (X : Int) := by unfold mkI; rw [show (1 + (j : Int)) = (X : Int) by omega]
    have HX := Lib.hid hX
    clear hX
    have hc := r1.cell (c1 j hj)
    rw [e1] at hc
    have hne : ((X : Int) != (X : Int)) = false := by simp
    clear e1 c1
    go_wp2_with fail
    go_roundw
    case rel => exact ⟨j + 1, X + 1, by go_num, by have := HX.out; omega, by go_num, by omega, trivial⟩
    case measure => simp [intOf] <;> omega
  · have hjl : ¬ (j : Int) < (n : Int) := by omega
    have e : j = n := by omega
    subst e
    go_wp2_with fail
    go_ret
    exact ⟨ret_int (by push_cast; rfl), rfl⟩
end Go.Proofs.Ytgcajgmokcmcgaa
end
section
namespace Go.Proofs.Ytgcajgmokcmcgaa
open Go Go.RowKit
set_option linter.unusedVariables false
set_option linter.unusedSimpArgs false
/-- the digits in front -/
def rtl (p : Nat) (D : Nat → Nat) (top n : Nat) : List Int := (List.range n).map (rt p D top)
theorem rtl_len (p : Nat) (D : Nat → Nat) (top n : Nat) : (rtl p D top n).length = n := by simp [rtl]
theorem rtl_one (p : Nat) (D : Nat → Nat) (top : Nat) : rtl p D top 1 = [1] := rfl
theorem rtl_snoc (p : Nat) (D : Nat → Nat) (top n : Nat) : rtl p D top (n + 1) = rtl p D top n ++ [rt p D top n] := by unfold rtl; rw [List.range_succ, List.map_append]; rfl
theorem rtl_at {p : Nat} {D : Nat → Nat} {top n i : Nat} (h : i < n) : (rtl p D top n)[i]? = some (rt p D top i) := by unfold rtl; rw [List.getElem?_map, List.getElem?_range h]; rfl
theorem slL_int1 {w : World} {b base : Nat} {x : Int} (h : Row w b 2 #[.int .i64 x]) (hb : base ≤ b) : SlL w base 2 1 (.slice (some ⟨b, 0, none⟩) 1 1) (ilZ [x]) := by
 have hl := h.lt
 delta SlL
 refine ⟨by omega, ?_, ?_⟩
 · intro c hc
   unfold ilZ at hc
   simp at hc
   subst hc; rfl
 · refine ⟨by simp [ilZ], .inr ⟨b, 1, #[.int .i64 x], by simp [ilZ], hb, by delta Row at h; exact h, by simp [ilZ], by decide, by simp, by simp [ilZ]⟩⟩
theorem slL_zat {w : World} {base g n cap i : Nat} {L : List Int} {x : Int} (h : SlL w base 2 1 (.slice (some ⟨g, 0, none⟩) n cap) (ilZ L)) (hi : L[i]? = some x) : w.cell? ⟨g, i, none⟩ = some (.int .i64 x) := by
 have hr : (ilZ L)[i]? = some [.int .i64 x] := by unfold ilZ; rw [List.getElem?_map, hi]; rfl
 have cc := h.range hr 0 (.int .i64 x) rfl
 simpa using cc
attribute [local irreducible] deg icl rt rtW rtl ilZ
set_option maxRecDepth 100000 in
set_option maxHeartbeats 3200000 in
theorem l10Root_any (p top n : Nat) (D : Nat → Nat) (w : World) (hpr : p = 2 ∨ p = 3 ∨ p = 5 ∨ p = 7) (lD : ∀ k, k < 64 → D k < p) (hd : deg D = (top : Int)) (hn1 : 1 ≤ n) (hn72 : n ≤ 72) :
 Calls Try.prog 85 #[.int .i64 (p : Int), .agg (zb 64 D), .int .i64 (n : Int)] w fun e w' => ∃ v, e = .returned v ∧ SlL w' w.heap.size 2 1 v (ilZ (rtl p D top n)) ∧ Below w.heap.size w w' := by
 have HDG := Lib.hid (fun W => show Calls Try.prog _ _ W (fun e w' => e = .returned (.int .i64 (top : Int)) ∧ Below W.heap.size W w') from hd ▸ l01Deg_any D W)
 go_enter Try.func85, Try.ntmps85
 go_upto_region 1 with (fail)
 obtain ⟨W1, hwo⟩ : ∃ v : World, v = (w.alloc (.cells (zb 64 (D)) 26)) := ⟨_, rfl⟩
 have B0 : Blk W1 (w.heap.size) 64 26 (D) := by subst hwo; have := (Blk.new w 64 26 (D)); simpa using this
 have hb : Below w.heap.size w W1 := by subst hwo; exact ((Below.refl _ _).alloc (Nat.le_refl _) _)
 rw [← hwo]
 clear hwo
 obtain ⟨base, hbase0⟩ : ∃ b, b = W1.heap.size := ⟨_, rfl⟩
 have ybw : w.heap.size ≤ base := by rw [hbase0]; exact hb.size
 have yb0 : (w.heap.size) < base := by rw [hbase0]; exact B0.lt
 have HBA := Lib.hid (Nat.le_of_eq hbase0)
 clear hbase0
 go_upto_region 2 with (first | (refine wpList_buildI rfl 23 _ 1 rfl 2 Try.underlying23 Try.elemInt rfl ?_; intro wa hps hba; replace B0 := B0.zw hba; replace hb := hb.trans (hba.mono hb.size); have hS := slL_int1 hps HBA.out) | (refine zla (.tmp 4) B0 Try.underlying26 Try.size26 ?_) | (go_at_call 63; refine (HDG.out _).mono ?_; rintro e W5 ⟨rfl, h5⟩; replace B0 := B0.zw h5; replace hS := hS.zw h5; replace hb := hb.trans (h5.mono hb.size)))
 clear hps hba h5 HBA
 have hS0 := hS
 rw [← rtl_one p D top] at hS0
 clear hS
 obtain ⟨c2, hc2, hc4, hcn⟩ : ∃ c2 : Nat, ((p : Int) + 1) / 2 = (c2 : Int) ∧ c2 ≤ 4 ∧ c2 = (p + 1) / 2 := ⟨(p + 1) / 2, by omega, by omega, rfl⟩
 have p2 : 2 ≤ p := by omega
 have p7 : p ≤ 7 := by omega
 have HC2 := Lib.hid hcn
 have htop : top < 64 := (deg_lead hd).1
 have HRT := Lib.hid (fun i => rt_lt (D := D) (top := top) p2 i)
 have HRW := Lib.hid (fun k j => rtW_bound (k := k) p7 lD htop (fun i => rt_lt (D := D) (top := top) p2 i) j)
 have HLD := Lib.hid lD
 have HRL := Lib.hid (fun k => rtl_len p D top k)
 clear lD hd hcn
 go_upto_region 3 with (fail)
 rw [hc2]
 clear hc2
 go_wp2_with fail
 go_loopw [7, 10] (fun s x wr => ∃ (m : Nat) (lst : Value), lst = s ∧ m + 1 ≤ n ∧ x = .int .i64 ((m + 1 : Nat) : Int) ∧ Below w.heap.size w wr ∧ Blk wr (w.heap.size) 64 26 (D) ∧ SlL wr base 2 1 lst (ilZ (rtl p D top (m + 1)))) (fun _ x _ => n - (intOf x).toNat)
 case atStart => exact ⟨0, _, rfl, by omega, rfl, hb, B0, hS0⟩
 case round =>
  clear hb B0 hS0
  obtain ⟨m, lst, rfl, hm, rfl, hb, B0, hS⟩ := hrel
  obtain ⟨X, hX⟩ : ∃ X, X = m + 1 := ⟨_, rfl⟩
  rw [← hX] at hS ⊢
  have hX1 : 1 ≤ X := by omega
  by_cases hXn : X < n
  · have hXi : (X : Int) < (n : Int) := by omega
    have HXn := Lib.hid hX
    obtain ⟨f, hf⟩ : ∃ f, f = rt p D top := ⟨_, rfl⟩
    have HFB := Lib.hid (show ∀ i, 0 ≤ f i ∧ f i < 7 from fun i => by have := HRT.out i; rw [hf]; omega)
    have HWB := Lib.hid (show ∀ j : Nat, j ≤ 71 → -2600 ≤ rtW D top f X j ∧ rtW D top f X j ≤ 6 from fun j hj => by have := HRW.out X j; rw [hf]; omega)
    have Hfe := Lib.hid hf
    have HLE := Lib.hid (show (rtl p D top X).length = X from HRL.out X)
    obtain ⟨L, hL⟩ : ∃ L, L = rtl p D top X := ⟨_, rfl⟩
    have HLA := Lib.hid (show ∀ i, i < X → L[i]? = some (f i) from fun i hi => by rw [hL, rtl_at hi, hf])
    rw [← hL] at hS HLE
    have HLe := Lib.hid hL
    clear hf hX hL
    obtain ⟨cap, g, rfl⟩ : ∃ cap g, lst = .slice (some ⟨g, 0, none⟩) X cap := by
     obtain ⟨a, c, e⟩ := hS.form
     subst e
     obtain ⟨g, hg⟩ := hS.some (by rw [ilZ_len, HLE.out]; have := HXn.out; omega)
     exact ⟨c, g, by rw [ilZ_len, HLE.out, hg]⟩
    by_cases hXt : X ≤ top
    · have hXt2 : (X : Int) ≤ (top : Int) := by omega
      obtain ⟨q, hq⟩ : ∃ q : Nat, (top : Int) - (X : Int) = (q : Int) := ⟨top - X, by omega⟩
      have hq64 : q < 64 := by omega
      have cc := B0.cell (i := q) hq64
      obtain ⟨l0, hl0⟩ : ∃ l0, l0 = rtW D top f X 0 := ⟨_, rfl⟩
      have hDq : ((D q : Nat) : Int) = l0 := by rw [hl0, rtW_zero, if_pos hXt, show top - X = q by omega]
      have hlq : D q < 7 := by have := HLD.out q hq64; omega
      have HL0 := Lib.hid hl0
      have HDq := Lib.hid hDq
      clear hl0
      go_upto_region 9 with (fail)
      clear cc hq hq64
      go_wp2_with fail
      go_loopw [11, 12] (fun l i wv => ∃ (j : Nat) (wz : World), wz = wv ∧ j + 1 ≤ X ∧ i = .int .i64 ((j + 1 : Nat) : Int) ∧ l = .int .i64 (rtW D top f X j) ∧ Below w.heap.size w wz ∧ Blk wz (w.heap.size) 64 26 (D) ∧ SlL wz base 2 1 (.slice (some ⟨g, 0, none⟩) X cap) (ilZ L)) (fun _ i _ => X - (intOf i).toNat)
      case atStart => exact ⟨0, _, rfl, by omega, rfl, by first | (rw [← HL0.out]; done) | (rw [← HL0.out, ← HDq.out]; done), hb, B0, hS⟩
      case round =>
       clear hb B0 hS
       obtain ⟨j, wz, rfl, hjX, rfl, rfl, hb, B0, hS⟩ := hrel
       obtain ⟨l, hl⟩ : ∃ l, l = rtW D top f X j := ⟨_, rfl⟩
       have hlb := HWB.out j (by omega)
       have HLj := Lib.hid hl
       rw [← hl] at hlb ⊢
       clear hl
       obtain ⟨Y, hY⟩ : ∃ Y, Y = j + 1 := ⟨_, rfl⟩
       rw [← hY] at hjX ⊢
       have HY := Lib.hid hY
       by_cases hj : Y < X
       · have hjl : (Y : Int) < (X : Int) := by omega
         obtain ⟨q2, hq2⟩ : ∃ q2 : Nat, (X : Int) - (Y : Int) = (q2 : Int) := ⟨X - Y, by omega⟩
         have hq2X : q2 < X := by omega
         have c1 := slL_zat hS (HLA.out Y hj)
         have c2' := slL_zat hS (HLA.out q2 hq2X)
         have k1 := HFB.out Y
         have k2 := HFB.out q2
         have hst : rtW D top f X (j + 1) = l - f Y * f q2 := by rw [rtW_succ, HLj.out, hY, show q2 = X - 1 - j by omega]
         obtain ⟨a1, ha1⟩ : ∃ a, a = f Y := ⟨_, rfl⟩
         obtain ⟨a2, ha2⟩ : ∃ a, a = f q2 := ⟨_, rfl⟩
         rw [← ha1] at c1 k1 hst
         rw [← ha2] at c2' k2 hst
         clear ha1 ha2 hY
         have m1 : 0 ≤ a1 * a2 := Int.mul_nonneg k1.1 k2.1
         have m2 : a1 * a2 ≤ 6 * 6 := Int.mul_le_mul (by omega) (by omega) k2.1 (by omega)
         have HST := Lib.hid hst
         clear hst
         go_upto_region 12 with (fail)
         go_quiet (fail)
         go_wp2_with fail
         go_roundw
         case rel => exact ⟨j + 1, _, rfl, by have := HY.out; omega, by rw [HY.out]; go_num, by rw [HST.out], below_drewN' hb _, B0.drewN _, hS.below (below_drewN' (Below.refl _ _) _) hS.lt⟩
         case measure => simp [intOf] <;> omega
       · have hjl : ¬ (Y : Int) < (X : Int) := by omega
         obtain rfl : Y = X := by omega
         have q1 := Int.tmod_lt_of_pos l (show (0 : Int) < (p : Int) by omega)
         have q2 := Int.lt_tmod_of_pos l (show (0 : Int) < (p : Int) by omega)
         have t0 : 0 ≤ l.tmod (p : Int) % (p : Int) := Int.emod_nonneg _ (by omega)
         have t1 : l.tmod (p : Int) % (p : Int) < (p : Int) := Int.emod_lt_of_pos _ (by omega)
         have t2 : 0 ≤ l.tmod (p : Int) % (p : Int) * (c2 : Int) := Int.mul_nonneg t0 (by omega)
         have t3 : l.tmod (p : Int) % (p : Int) * (c2 : Int) ≤ 7 * 4 := Int.mul_le_mul (by omega) (by omega) (by omega) (by omega)
         have HRV := Lib.hid (show l.tmod (p : Int) % (p : Int) * (c2 : Int) % (p : Int) = rt p D top Y by
          rw [mod_sum2, HLj.out, Hfe.out, HY.out, rt_next, HC2.out]
          unfold rtX; rw [Nat.add_sub_cancel])
         have HLs := Lib.hid (show rtl p D top (Y + 1) = L ++ [rt p D top Y] by rw [rtl_snoc, HLe.out])
         clear hY
         go_wp2_with (first | (refine wpList_buildI rfl 23 _ _ rfl 2 Try.underlying23 Try.elemInt rfl ?_; intro wa2 hps hba; rw [HRV.out] at hps; have eB0 := B0.zw hba; have eS := hS.zw hba; have ehb := hb.trans (hba.mono hb.size)) | (at_builtin; refine wpList_append_sl _ rfl _ _ 23 rfl base 2 (.int .i64 0) 1 8 Try.underlying23 Try.infoInt (by rfl) (by decide) _ _ rfl eS wz.heap.size [.int .i64 (rt p D top Y)] rfl rfl (Row.range hps) (by intro u hu; rw [List.mem_singleton] at hu; subst hu; rfl) (by rw [ilZ_len, HLE.out]; unfold maxLen; omega) (by rw [ilZ_len, HLE.out]; omega) ?_; intro vp wp hSp hg1; have fB0 := eB0.grownO hg1 (eS.own) (base := base) yb0; have fhb := ehb.grown hg1 ehb.size (fun k e => Nat.le_trans ybw (eS.own k e))))
         go_roundw
         case rel => exact ⟨m + 1, vp, rfl, by have := HXn.out; omega, by rw [HXn.out]; go_num, fhb, fB0, by rw [← HXn.out, HLs.out, ilZ_snoc]; exact hSp⟩
         case measure => simp [intOf] <;> omega
    · have hXt2 : ¬ (X : Int) ≤ (top : Int) := by omega
      obtain ⟨l0, hl0⟩ : ∃ l0, l0 = rtW D top f X 0 := ⟨_, rfl⟩
      have hDq : (0 : Int) = l0 := by rw [hl0, rtW_zero, if_neg hXt]
      have HL0 := Lib.hid hl0
      clear hl0
      have HDq := Lib.hid hDq
      clear hDq
      go_upto_region 9 with (fail)
      go_wp2_with fail
      go_loopw [11, 12] (fun l i wv => ∃ (j : Nat) (wz : World), wz = wv ∧ j + 1 ≤ X ∧ i = .int .i64 ((j + 1 : Nat) : Int) ∧ l = .int .i64 (rtW D top f X j) ∧ Below w.heap.size w wz ∧ Blk wz (w.heap.size) 64 26 (D) ∧ SlL wz base 2 1 (.slice (some ⟨g, 0, none⟩) X cap) (ilZ L)) (fun _ i _ => X - (intOf i).toNat)
      case atStart => exact ⟨0, _, rfl, by omega, rfl, by first | (rw [← HL0.out]; done) | (rw [← HL0.out, ← HDq.out]; done), hb, B0, hS⟩
      case round =>
       clear hb B0 hS
       obtain ⟨j, wz, rfl, hjX, rfl, rfl, hb, B0, hS⟩ := hrel
       obtain ⟨l, hl⟩ : ∃ l, l = rtW D top f X j := ⟨_, rfl⟩
       have hlb := HWB.out j (by omega)
       have HLj := Lib.hid hl
       rw [← hl] at hlb ⊢
       clear hl
       obtain ⟨Y, hY⟩ : ∃ Y, Y = j + 1 := ⟨_, rfl⟩
       rw [← hY] at hjX ⊢
       have HY := Lib.hid hY
       by_cases hj : Y < X
       · have hjl : (Y : Int) < (X : Int) := by omega
         obtain ⟨q2, hq2⟩ : ∃ q2 : Nat, (X : Int) - (Y : Int) = (q2 : Int) := ⟨X - Y, by omega⟩
         have hq2X : q2 < X := by omega
         have c1 := slL_zat hS (HLA.out Y hj)
         have c2' := slL_zat hS (HLA.out q2 hq2X)
         have k1 := HFB.out Y
         have k2 := HFB.out q2
         have hst : rtW D top f X (j + 1) = l - f Y * f q2 := by rw [rtW_succ, HLj.out, hY, show q2 = X - 1 - j by omega]
         obtain ⟨a1, ha1⟩ : ∃ a, a = f Y := ⟨_, rfl⟩
         obtain ⟨a2, ha2⟩ : ∃ a, a = f q2 := ⟨_, rfl⟩
         rw [← ha1] at c1 k1 hst
         rw [← ha2] at c2' k2 hst
         clear ha1 ha2 hY
         have m1 : 0 ≤ a1 * a2 := Int.mul_nonneg k1.1 k2.1
         have m2 : a1 * a2 ≤ 6 * 6 := Int.mul_le_mul (by omega) (by omega) k2.1 (by omega)
         have HST := Lib.hid hst
         clear hst
         go_upto_region 12 with (fail)
         go_quiet (fail)
         go_wp2_with fail
         go_roundw
         case rel => exact ⟨j + 1, _, rfl, by have := HY.out; omega, by rw [HY.out]; go_num, by rw [HST.out], below_drewN' hb _, B0.drewN _, hS.below (below_drewN' (Below.refl _ _) _) hS.lt⟩
         case measure => simp [intOf] <;> omega
       · have hjl : ¬ (Y : Int) < (X : Int) := by omega
         obtain rfl : Y = X := by omega
         have q1 := Int.tmod_lt_of_pos l (show (0 : Int) < (p : Int) by omega)
         have q2 := Int.lt_tmod_of_pos l (show (0 : Int) < (p : Int) by omega)
         have t0 : 0 ≤ l.tmod (p : Int) % (p : Int) := Int.emod_nonneg _ (by omega)
         have t1 : l.tmod (p : Int) % (p : Int) < (p : Int) := Int.emod_lt_of_pos _ (by omega)
         have t2 : 0 ≤ l.tmod (p : Int) % (p : Int) * (c2 : Int) := Int.mul_nonneg t0 (by omega)
         have t3 : l.tmod (p : Int) % (p : Int) * (c2 : Int) ≤ 7 * 4 := Int.mul_le_mul (by omega) (by omega) (by omega) (by omega)
         have HRV := Lib.hid (show l.tmod (p : Int) % (p : Int) * (c2 : Int) % (p : Int) = rt p D top Y by
          rw [mod_sum2, HLj.out, Hfe.out, HY.out, rt_next, HC2.out]
          unfold rtX; rw [Nat.add_sub_cancel])
         have HLs := Lib.hid (show rtl p D top (Y + 1) = L ++ [rt p D top Y] by rw [rtl_snoc, HLe.out])
         clear hY
         go_wp2_with (first | (refine wpList_buildI rfl 23 _ _ rfl 2 Try.underlying23 Try.elemInt rfl ?_; intro wa2 hps hba; rw [HRV.out] at hps; have eB0 := B0.zw hba; have eS := hS.zw hba; have ehb := hb.trans (hba.mono hb.size)) | (at_builtin; refine wpList_append_sl _ rfl _ _ 23 rfl base 2 (.int .i64 0) 1 8 Try.underlying23 Try.infoInt (by rfl) (by decide) _ _ rfl eS wz.heap.size [.int .i64 (rt p D top Y)] rfl rfl (Row.range hps) (by intro u hu; rw [List.mem_singleton] at hu; subst hu; rfl) (by rw [ilZ_len, HLE.out]; unfold maxLen; omega) (by rw [ilZ_len, HLE.out]; omega) ?_; intro vp wp hSp hg1; have fB0 := eB0.grownO hg1 (eS.own) (base := base) yb0; have fhb := ehb.grown hg1 ehb.size (fun k e => Nat.le_trans ybw (eS.own k e))))
         go_roundw
         case rel => exact ⟨m + 1, vp, rfl, by have := HXn.out; omega, by rw [HXn.out]; go_num, fhb, fB0, by rw [← HXn.out, HLs.out, ilZ_snoc]; exact hSp⟩
         case measure => simp [intOf] <;> omega
  · have hXi : ¬ (X : Int) < (n : Int) := by omega
    have hXle : X = n := by omega
    clear hX
    obtain rfl := hXle
    go_wp2_with fail
    go_ret
    exact ⟨lst, rfl, hS.base ybw, hb⟩
end Go.Proofs.Ytgcajgmokcmcgaa
end
section
namespace Go.Proofs.Ytgcajgmokcmcgaa
open Go Go.RowKit
set_option linter.unusedVariables false
section
variable {P : Program} {ops : Array Oper} {Q : Exit → Act → World → Prop}
/-- what is asked of operation i -/
def StepOkU (P : Program) (ops : Array Oper) (Q : Exit → Act → World → Prop) (a0 : Act) (Ψ : (Nat → Bool) → (Nat → Value) → World → Prop) (i : Nat) (o : Oper) : Prop :=
 ∀ (L : Nat → Bool) (v : Nat → Value) (w : World), (∀ e, e ∈ o.after → Region.binds .any e = true → L e.on = true) →
  (∀ j p, ops[j]? = some p → L j = true → ∀ e, e ∈ p.after → Region.binds .any e = true → e.on ≠ i) → L i = false → Ψ L v w →
  ∀ K : Act → World → Prop, (∀ a' y w', a' = (fr a0 ops v).put o.dst y → Ψ (setL L i) (updV v i y) w' → K a' w') →
   if Region.wanted o (yielded ops (fr a0 ops v).tmps) = true then Oper.wp P o (fr a0 ops v) w K Q else K ((fr a0 ops v).put o.dst undef) w

theorem wpAny_invU {a0 : Act} {Ψ : (Nat → Bool) → (Nat → Value) → World → Prop} (hd : dstsOkL ops.toList = true) (he : edgesOk ops = true)
 (hstep : ∀ i o, ops[i]? = some o → StepOkU P ops Q a0 Ψ i o)
 (hend : ∀ L v w, (∀ i, i < ops.size → L i = true) → Ψ L v w → Q .normal (fr a0 ops v) w) :
 ∀ (fuel : Nat) (listed : Array Bool) (v : Nat → Value) (w : World), listed.size = ops.size → (listed.toList.filter (!·)).length = fuel → Ψ (fun j => listed.getD j false) v w →
  (∀ j p, ops[j]? = some p → listed.getD j false = true → ∀ e, e ∈ p.after → Region.binds .any e = true → listed.getD e.on false = true) →
  wpAny P .any ops Q fuel listed (fr a0 ops v) w := by
 have hall : ∀ listed : Array Bool, listed.size = ops.size → Region.ready .any ops listed = [] → ∀ i, i < ops.size → listed.getD i false = true := by
  intro listed hs hr i
  induction i using Nat.strongRecOn with
  | _ i ih =>
   intro hi
   cases hb : listed.getD i false with
   | true => rfl
   | false =>
    exfalso
    have hmem : i ∈ Region.ready .any ops listed := by
     unfold Region.ready
     simp only [List.mem_filter, List.mem_range, hi, true_and, Bool.and_eq_true]
     have ho : ops[i]? = some ops[i] := Array.getElem?_eq_getElem hi
     constructor
     · have : listed.getD i true = false := by
        have h2 : i < listed.size := by omega
        simpa [Array.getD, h2] using hb
       simp [this]
     · rw [ho]
       simp only [Option.map_some, Option.getD_some, Array.all_eq_true_iff_forall_mem]
       intro e hem
       have hE := he
       unfold edgesOk at hE
       rw [List.all_eq_true] at hE
       have := hE i (by simpa using hi)
       rw [ho] at this
       simp only [Option.map_some, Option.getD_some, Array.all_eq_true_iff_forall_mem] at this
       have h3 := this e hem
       cases hbd : Region.binds .any e with
       | false => simp
       | true =>
        simp only [hbd, Bool.not_true, Bool.false_or, decide_eq_true_eq] at h3
        simp [ih e.on h3 (by omega)]
    rw [hr] at hmem
    cases hmem
 intro fuel
 induction fuel with
 | zero =>
  intro listed v w hs hc hI _
  have hl : ∀ i, i < ops.size → listed.getD i false = true := by
   intro i hi
   have h2 : i < listed.size := by omega
   cases hb : listed[i] with
   | true => simp [Array.getD, h2, hb]
   | false =>
    exfalso
    have : false ∈ listed.toList.filter (!·) := by
     rw [List.mem_filter]
     exact ⟨by rw [← hb]; simp, rfl⟩
    rw [List.length_eq_zero_iff.1 hc] at this
    cases this
  refine ⟨?_, hend _ v w hl hI⟩
  unfold Region.ready
  rw [List.filter_eq_nil_iff]
  intro i hi
  have hi' : i < ops.size := by simpa using hi
  have h2 : i < listed.size := by omega
  have := hl i hi'
  have h4 : listed.getD i true = true := by simpa [Array.getD, h2] using this
  simp [h4]
 | succ fuel ih =>
  intro listed v w hs hc hI hcl
  refine ⟨fun hr => hend _ v w (hall listed hs hr) hI, ?_⟩
  intro i hi
  unfold Region.ready at hi
  simp only [List.mem_filter, List.mem_range, Bool.and_eq_true] at hi
  obtain ⟨hin, hnl, haf⟩ := hi
  have ho : ops[i]? = some ops[i] := Array.getElem?_eq_getElem hin
  rw [ho] at haf
  simp only [Option.map_some, Option.getD_some, Array.all_eq_true_iff_forall_mem] at haf
  have h2 : i < listed.size := by omega
  have hfalse : listed[i] = false := by
   have : listed.getD i true = false := by simpa using hnl
   simpa [Array.getD, h2] using this
  refine wpOp_step ho fun K' hK => ?_
  refine hstep i _ ho _ v w ?_ ?_ (by simp [Array.getD, h2, hfalse]) hI K' ?_
  · intro e hem hb
    have := haf e hem
    simpa [hb] using this
  · intro j p hp hj e hem hb he'
    have := hcl j p hp hj e hem hb
    rw [he'] at this
    simp [Array.getD, h2, hfalse] at this
  · intro a' y w' ha' hΨ
    subst ha'
    refine hK _ _ ?_
    have hst : (fr a0 ops v).put ops[i].dst y = fr a0 ops (updV v i y) := by
     have := frL_step ops.toList a0 0 v i ops[i] y hd (by simp [hin])
     rw [Nat.zero_add] at this
     exact this
    rw [hst]
    have e : (fun j => (listed.setIfInBounds i true).getD j false) = setL (fun j => listed.getD j false) i := by
     funext j
     unfold setL
     by_cases h : j = i
     · subst h; simp [Array.getD, h2]
     · have h' : ¬ i = j := fun e => h e.symm
       simp only [h, if_false, Array.getD, Array.size_setIfInBounds]
       by_cases h3 : j < listed.size
       · simp [h3, h']
       · simp [h3]
    refine ih _ _ _ (by simpa using hs) ?_ ?_ ?_
    · have : ∀ (l : List Bool) (i : Nat) (h : i < l.length), l[i] = false → ((l.set i true).filter (!·)).length + 1 = (l.filter (!·)).length := by
       intro l
       induction l with
       | nil => intro i h; simp at h
       | cons b l ihl =>
        intro i h hf
        cases i with
        | zero => simp at hf; subst hf; simp
        | succ i =>
         simp only [List.set_cons_succ]
         have := ihl i (by simpa using h) (by simpa using hf)
         cases b <;> simp <;> omega
      have := this listed.toList i (by simpa using h2) (by simpa using hfalse)
      rw [Array.toList_setIfInBounds]
      omega
    · rw [e]
      exact hΨ
    · intro j p hp hj e2 hem hb
      have ej := congrFun e j
      have ee := congrFun e e2.on
      skip
      rw [ej] at hj
      rw [ee]
      unfold setL at hj ⊢
      by_cases h1 : e2.on = i
      · simp [h1]
      · simp only [h1, if_false]
        by_cases h2 : j = i
        · subst h2
          rw [ho] at hp
          simp only [Option.some.injEq] at hp
          subst hp
          have := haf e2 hem
          simpa [hb] using this
        · simp only [h2, if_false] at hj
          exact hcl j p hp hj e2 hem hb

theorem wp_region_psiU {id : Nat} {a0 : Act} {w : World} (hm : P.follows .mixedOrders = true) (hd : dstsOkL ops.toList = true) (he : edgesOk ops = true)
 (Ψ : (Nat → Bool) → (Nat → Value) → World → Prop) (h0 : Ψ (fun _ => false) (fun i => ((ops[i]?.bind (·.dst)).map fun t => a0.tmps.getD t undef).getD undef) w.drew)
 (hstep : ∀ i o, ops[i]? = some o → StepOkU P ops Q a0 Ψ i o)
 (hend : ∀ L v w, (∀ i, i < ops.size → L i = true) → Ψ L v w → Q .normal (fr a0 ops v) w) : (Code.region id ops true).wp P Q a0 w := by
 refine wp_region_any hm ?_
 have hfr : fr a0 ops (fun i => ((ops[i]?.bind (·.dst)).map fun t => a0.tmps.getD t undef).getD undef) = a0 := by
  refine frL_start _ _ _ _ fun i o ho => ?_
  have ho' : ops[i]? = some o := by simpa using ho
  simp [ho']
 have key := wpAny_invU (P := P) (Q := Q) hd he hstep hend ops.size (Array.replicate ops.size false) (fun i => ((ops[i]?.bind (·.dst)).map fun t => a0.tmps.getD t undef).getD undef) w.drew (by simp) (by simp) (by
  have e : (fun j => (Array.replicate ops.size false).getD j false) = fun _ => false := by
   funext j; simp [Array.getD]
  rw [e]; exact h0) (by
  intro j p _ hj
  simp [Array.getD] at hj)
 rw [hfr] at key
 exact key

/-- what is asked of operation i, no guard before it; F: the frame, written out -/
def StepV (P : Program) (ops : Array Oper) (Q : Exit → Act → World → Prop) (F : (Nat → Value) → Act) (Ψ : (Nat → Bool) → (Nat → Value) → World → Prop) (i : Nat) (o : Oper) : Prop :=
 ∀ (L : Nat → Bool) (v : Nat → Value) (w : World), (∀ e, e ∈ o.after → Region.binds .any e = true → L e.on = true) →
  (∀ j p, ops[j]? = some p → L j = true → ∀ e, e ∈ p.after → Region.binds .any e = true → e.on ≠ i) → L i = false → Ψ L v w →
  ∀ K : Act → World → Prop, (∀ a' y w', a' = (F v).put o.dst y → Ψ (setL L i) (updV v i y) w' → K a' w') → Oper.wp P o (F v) w K Q
inductive StepsV (P : Program) (ops : Array Oper) (Q : Exit → Act → World → Prop) (F : (Nat → Value) → Act) (Ψ : (Nat → Bool) → (Nat → Value) → World → Prop) : List Oper → Nat → Prop
 | nil (k : Nat) : StepsV P ops Q F Ψ [] k
 | cons {o : Oper} {os : List Oper} {k : Nat} (hg : o.guard = none) (h : StepV P ops Q F Ψ k o) (hs : StepsV P ops Q F Ψ os (k + 1)) : StepsV P ops Q F Ψ (o :: os) k
theorem steps_ofV {F : (Nat → Value) → Act} {Ψ : (Nat → Bool) → (Nat → Value) → World → Prop} : ∀ (os : List Oper) (k : Nat), StepsV P ops Q F Ψ os k → ∀ i o, os[i]? = some o → o.guard = none ∧ StepV P ops Q F Ψ (k + i) o
 | [], _, _, _, _, h => by simp at h
 | p :: os, k, hs, 0, o, h => by
  simp only [List.getElem?_cons_zero, Option.some.injEq] at h
  subst h
  cases hs with
  | cons hg h _ => exact ⟨hg, h⟩
 | p :: os, k, hs, i + 1, o, h => by
  cases hs with
  | cons _ _ hs =>
   have := steps_ofV os (k + 1) hs i o (by simpa using h)
   rwa [show k + 1 + i = k + (i + 1) by omega] at this
theorem wp_region_stepsU {os : List Oper} {id : Nat} {a0 : Act} {w : World} (hm : P.follows .mixedOrders = true) (hd : dstsOkL os = true) (he : edgesOk os.toArray = true)
 {F : (Nat → Value) → Act} (hF : ∀ v, frL a0 os 0 v = F v)
 (Ψ : (Nat → Bool) → (Nat → Value) → World → Prop) (h0 : Ψ (fun _ => false) (fun i => ((os.toArray[i]?.bind (·.dst)).map fun t => a0.tmps.getD t undef).getD undef) w.drew)
 (hstep : StepsV P os.toArray Q F Ψ os 0)
 (hend : ∀ L v w, (∀ i, i < os.length → L i = true) → Ψ L v w → Q .normal (F v) w) : (Code.region id os.toArray true).wp P Q a0 w := by
 refine wp_region_psiU hm (by simpa using hd) he Ψ h0 (fun i o ho => ?_) (fun L v w hL hΨ => ?_)
 · obtain ⟨hg, hs⟩ := steps_ofV _ _ hstep i o (by simpa using ho)
   rw [Nat.zero_add] at hs
   intro L v w h1 h2 hU h3 K hK
   have hw : Region.wanted o (yielded os.toArray (fr a0 os.toArray v).tmps) = true := by simp [Region.wanted, hg]
   rw [if_pos hw]
   have hf : fr a0 os.toArray v = F v := hF v
   rw [hf] at hK ⊢
   exact hs L v w h1 h2 hU h3 K hK
 · have hf : fr a0 os.toArray v = F v := hF v
   rw [hf]
   exact hend L v w (by simpa using hL) hΨ
end
end Go.Proofs.Ytgcajgmokcmcgaa
end
section
namespace Go.Proofs.Ytgcajgmokcmcgaa
open Go Go.RowKit
set_option linter.unusedVariables false
theorem run_size1 {P : Program} {e : TypeId} (hs : (P.info? e).map (·.size) = some 1) (w : World) : (Go.sizeOf e).run P w = .ok 1 w := by
 cases hq : P.info? e with
 | none => rw [hq] at hs; cases hs
 | some i =>
  rw [hq] at hs
  simp only [Option.map_some, Option.some.injEq] at hs
  simp [Go.sizeOf, typeInfo, Sem.run_bind, hq, hs]
/-- a slice of cells, cut in front -/
theorem slice_front {P : Program} {t e : TypeId} (hu : P.underlying t = some (.slice e)) (hs : (P.info? e).map (·.size) = some 1) (b l n cap : Nat) (h1 : l ≤ n) (h2 : n ≤ cap) :
 ∃ o : Nat, (l < n → o = l) ∧ ∀ (kl : IntKind) (w : World), (Instr.sliceAt t (.slice (some ⟨b, 0, none⟩) n cap) (some (.int kl (l : Int))) none none).run P w = .ok (.slice (some ⟨b, o, none⟩) (n - l) (cap - l)) w := by
 refine ⟨if cap = l then 0 else l, fun hl => if_neg (by omega), fun kl w => ?_⟩
 have he : P.elem t = e := by simp [Program.elem, hu]
 rw [run_sliceAt_slice (P := P) w t _ _ _ _ (by rw [he]; exact hu), run_slice_l (P := P) w t (some ⟨b, 0, none⟩) n cap (by rw [he]; exact hu) kl (l : Int) (by omega) (by omega), he, run_size1 hs]
 simp only [Result.andThen, sliced, Addr.add]
 by_cases e2 : cap = l
 · subst e2; simp
 · have e3 : ¬ (cap = (l : Int).toNat) := by omega
   simp only [if_neg e3, if_neg e2]
   by_cases e4 : l = 0
   · subst e4; simp
   · simp [e4]
/-- a list of numbers, wherever its cells lie, is appended -/
theorem wpList_append_zs {P : Program} (w : World) {ops : Array Oper} {rest : List Oper} {o : Oper} {a : Act} {Q : Exit → Act → World → Prop}
 (hg : o.guard = none) (s x : Operand) (t : TypeId) (hop : o.op = Op.call { callee := Callee.builtin Builtin.append, args := #[s, x], argTypes := #[t, t] })
 (base : Nat) (h1 : P.underlying t = some (.slice 2)) (h2 : (P.info? 2).map (fun i => (i.zero, i.size, i.bytes)) = some (some (.int .i64 0), 1, 8))
 (v : Value) (M L : List Int) (hs : a.eval s = v) (hown : SlL w base 2 1 v (ilZ M)) (g q n cap : Nat) (hx : a.eval x = .slice (some ⟨g, q, none⟩) n cap) (hn : n = L.length)
 (hc : ∀ i y, L[i]? = some y → w.cell? ⟨g, q + i, none⟩ = some (.int .i64 y)) (b1 : M.length + L.length ≤ 10000)
 (hK : ∀ v' w', SlL w' base 2 1 v' (ilZ (M ++ L)) → w.grownBy w' v.ownBlock → wpList P ops Q rest (a.put o.dst v') w') : wpList P ops Q (o :: rest) a w := by
 obtain ⟨i0, hi, hz0, hz1, hz2⟩ := info_parts h2
 have d1 : base ≤ w.heap.size ∧ (∀ c ∈ ilZ M, c.length = 1) ∧ w.ownsRow base 2 1 v (ilZ M).length (ilZ M).flatten := by delta SlL at hown; exact hown
 have hL1 := ilZ_len M
 subst hn
 refine wpList_append_own w hg s x t hop base 2 i0 (.int .i64 0) 1 8 h1 hi hz0 hz1 hz2 rfl (by decide) v (ilZ M).length (ilZ M).flatten hs d1.2.2 ⟨g, q, none⟩ L.length cap (L.map fun y => Value.int .i64 y) hx (by simp) (fun j u hu => ?_) (fun u hu => ?_) (by rw [hL1]; unfold maxLen; omega) (by rw [hL1]; omega) d1.1 ?_
 · rw [List.getElem?_map] at hu
   cases hy : L[j]? with
   | none => rw [hy] at hu; cases hu
   | some y =>
    rw [hy] at hu
    injection hu with hu
    subst hu
    have := hc j y hy
    have e : (⟨g, q, none⟩ : Addr).add j = ⟨g, q + j, none⟩ := by unfold Addr.add; split <;> simp_all
    rw [e]; exact this
 · obtain ⟨y, _, rfl⟩ := List.mem_map.1 hu
   rfl
 · intro v' w' h1' h2' _
   refine hK v' w' ?_ h2'
   have e2 : (ilZ (M ++ L)).length = (ilZ M).length + L.length := by rw [ilZ_len, ilZ_len, List.length_append]
   delta SlL
   refine ⟨Nat.le_trans d1.1 h2'.size, fun d hd => ?_, ?_⟩
   · unfold ilZ at hd
     obtain ⟨y, _, rfl⟩ := List.mem_map.1 hd
     rfl
   · rw [e2, ilZ_flat, List.map_append, ← ilZ_flat M]
     exact h1'
end Go.Proofs.Ytgcajgmokcmcgaa
end
section
namespace Go.Proofs.Ytgcajgmokcmcgaa
open Go Go.RowKit
set_option linter.unusedVariables false
set_option linter.unusedSimpArgs false
/-- the digits of a root behind its polynomial -/
def drL (p : Nat) (D : Nat → Nat) (g n : Nat) : List Int := (List.range n).map fun i => rt p D (2 * g) (g + 1 + i)
theorem drL_len (p : Nat) (D : Nat → Nat) (g n : Nat) : (drL p D g n).length = n := by simp [drL]
theorem drL_at {p : Nat} {D : Nat → Nat} {g n i : Nat} (h : i < n) : (drL p D g n)[i]? = some (rt p D (2 * g) (g + 1 + i)) := by unfold drL; rw [List.getElem?_map, List.getElem?_range h]; rfl
/-- both answers of DigitsOfRoot -/
def dtV (p : Int) (D : Nat → Nat) (n : Int) : List Int × Int := if sqC p D = 0 then (if 0 ≤ n ∧ n ≤ 40 then (drL p.toNat D (deg D / 2).toNat n.toNat, 0) else ([], 2)) else ([], sqC p D)
theorem dtV_c {p n : Int} {D : Nat → Nat} {c : Int} (h : sqC p D = c) (h0 : c ≠ 0) : dtV p D n = ([], c) := by unfold dtV; rw [h, if_neg h0]
theorem dtV_2 {p n : Int} {D : Nat → Nat} (h : sqC p D = 0) (h0 : ¬ (0 ≤ n ∧ n ≤ 40)) : dtV p D n = ([], 2) := by unfold dtV; rw [if_pos h, if_neg h0]
theorem dtV_0 {q g n : Nat} {D : Nat → Nat} (h : sqC (q : Int) D = 0) (h2 : deg D = ((2 * g : Nat) : Int)) (hn : n ≤ 40) : dtV (q : Int) D (n : Int) = (drL q D g n, 0) := by
 unfold dtV; rw [if_pos h, if_pos (by omega), h2, Int.toNat_natCast, Int.toNat_natCast, show (((2 * g : Nat) : Int) / 2).toNat = g by omega]
theorem dtV_len (p : Int) (D : Nat → Nat) (n : Int) : (dtV p D n).1.length ≤ 1000 := by
 unfold dtV
 by_cases h : sqC p D = 0
 · rw [if_pos h]
   by_cases h2 : 0 ≤ n ∧ n ≤ 40
   · rw [if_pos h2]
     show (drL _ _ _ _).length ≤ 1000
     rw [drL_len]; omega
   · rw [if_neg h2]; exact Nat.zero_le _
 · rw [if_neg h]; exact Nat.zero_le _
/-- a list of numbers and a code are handed back -/
def SgF (L : List Int) (c : Int) (w : World) (e : Ending) (w' : World) : Prop := ∃ v lo hi, e = .returned (.tuple #[v, .int .i64 c]) ∧ w.heap.size ≤ lo ∧ Seg w' lo hi v L ∧ Below w.heap.size w w'
theorem slL_capZ {w : World} {base g n cap : Nat} {L : List Int} (h : SlL w base 2 1 (.slice (some ⟨g, 0, none⟩) n cap) (ilZ L)) : n ≤ cap := by
 delta SlL at h
 rcases h.2.2.2 with ⟨e, _⟩ | ⟨g', cap', cur, e, _, _, h3, _⟩
 · cases e
 · cases e; exact h3
attribute [local irreducible] deg icl rt rtl sqC ilZ drL dtV paO
set_option maxRecDepth 100000 in
set_option maxHeartbeats 3200000 in
theorem impl_DigitsOfRoot_any (p : Int) (D : Nat → Nat) (n : Int) (hD : byte D) (w : World) :
 Calls Try.prog 41 #[.int .i64 p, .agg (zb 64 D), .int .i64 n] w (SgF (dtV p D n).1 (dtV p D n).2 w) := by
 go_enter Try.func41, Try.ntmps41
 go_upto_region 1 with (fail)
 obtain ⟨W1, hwo⟩ : ∃ v : World, v = (w.alloc (.cells (zb 64 (D)) 26)) := ⟨_, rfl⟩
 have B0 : Blk W1 (w.heap.size) 64 26 (D) := by subst hwo; have := (Blk.new w 64 26 (D)); simpa using this
 have hb : Below w.heap.size w W1 := by subst hwo; exact ((Below.refl _ _).alloc (Nat.le_refl _) _)
 rw [← hwo]
 clear hwo
 rcases sqC_split p D with ⟨c, hc, hc0⟩ | ⟨hc, q, g, rfl, hpr, lD, hd, hg⟩
 · have HV := Lib.hid (dtV_c (n := n) hc hc0)
   have HC := Lib.hid (show ∀ W, Calls Try.prog _ _ W _ from fun W => hc ▸ checkSquareCase_any p D hD W)
   have hcb : (c != 0) = true := by simp [hc0]
   have hcb2 : (c == 0) = false := by simp [hc0]
   clear hc hc0
   go_upto_region 3 with (first | (refine zla (.tmp 4) B0 Try.underlying26 Try.size26 ?_) | (go_at_call 83; refine (HC.out _).mono ?_; rintro e W2 ⟨rfl, hW2⟩; replace B0 := B0.zw hW2; replace hb := (hb).trans (hW2.mono (hb).size)))
   go_wp2_with fail
   go_ret2
   exact ⟨_, w.heap.size, w.heap.size, by rw [HV.out]; rfl, Nat.le_refl _, by rw [HV.out]; exact Seg.nil _ none 0 (Nat.le_refl _) hb.size, hb⟩
 · have HC := Lib.hid (show ∀ W, Calls Try.prog _ _ W _ from fun W => hc ▸ checkSquareCase_any (q : Int) D hD W)
   by_cases hn : 0 ≤ n ∧ n ≤ 40
   · obtain ⟨m, rfl⟩ : ∃ m : Nat, n = (m : Int) := ⟨n.toNat, by omega⟩
     have hm40 : m ≤ 40 := by omega
     have HV := Lib.hid (dtV_0 hc hd hm40)
     have HDG := Lib.hid (fun W => show Calls Try.prog _ _ W (fun e w' => e = .returned (.int .i64 (2 * (g : Int))) ∧ Below W.heap.size W w') from by have h := degree_any D W; rw [hd, show ((2 * g : Nat) : Int) = 2 * (g : Int) by omega] at h; exact h)
     have HRO := Lib.hid (fun W => rootOf_any q (2 * g) D W hpr lD hd)
     have HPA := Lib.hid (fun W => part_any (rt q D (2 * g)) (g + 1) m W (by omega))
     have HSE := Lib.hid (show ∀ (b : Nat) (W : World), Row W b 99 (icl 72 (rt q D (2 * g))).toArray → Seg W b (b + 1) (.slice (some ⟨b, paO (g + 1) m, none⟩) m m) (drL q D g m) from fun b W hr => by
      have hl := hr.lt
      refine ⟨by omega, by omega, _, m, by rw [drL_len], ?_⟩
      by_cases hz : m = 0
      · subst hz; left; unfold drL; rfl
      · refine .inr ⟨b, _, _, _, rfl, Nat.le_refl _, by omega, hr, ?_, fun i x hx => ?_⟩
        · rw [paO_pos (by omega), drL_len]; simp [icl_len]; omega
        · have hi : i < m := by have := (List.getElem?_eq_some_iff.1 hx).1; rwa [drL_len] at this
          rw [drL_at hi] at hx
          injection hx with hx
          rw [paO_pos (by omega), icl_get (by omega), hx])
     have hgd : 2 * (g : Int) / 2 = (g : Int) := by omega
     have hg1 : (g : Int) + 1 = ((g + 1 : Nat) : Int) := by omega
     obtain ⟨G, hG⟩ : ∃ G, G = g + 1 := ⟨_, rfl⟩
     rw [← hG] at HPA HSE hg1
     clear hG
     have h1 : ¬ (m : Int) < 0 := by omega
     have h2 : ¬ 40 < (m : Int) := by omega
     have h3 : ¬ (m : Int) > 40 := by omega
     clear hc lD hd
     go_upto_region 6 with (first | (refine zla (.tmp 4) B0 Try.underlying26 Try.size26 ?_) | (go_at_call 83; refine (HC.out _).mono ?_; rintro e W2 ⟨rfl, hW2⟩; replace B0 := B0.zw hW2; replace hb := (hb).trans (hW2.mono (hb).size)))
     have hWs := hb.size
     refine wp_region_stepsU Try.mixed (by kernel_rfl) (by kernel_rfl) (fun v => by (simp only [frL, Act.put, pA, pB, pC, Nat.reduceAdd, Nat.zero_add]; exact rfl))
      (fun L v wx => Below W2.heap.size W2 wx ∧ VF L v [some (.int .i64 (q : Int)), some (.agg (zb 64 (D))), some (.agg (icl 72 (rt q D (2 * g))).toArray), some (.agg (zb 64 (D))), some (.int .i64 (2 * (g : Int))), some (.int .i64 (g : Int)), some (.int .i64 (G : Int)), some (.int .i64 (m : Int)), none, none, some (.int .i64 0)] ∧ (L 8 = true → (∃ bz, (v 8) = (.slice (some ⟨bz, paO G m, none⟩) m m) ∧ W2.heap.size ≤ bz ∧ Seg wx bz (bz + 1) (.slice (some ⟨bz, paO G m, none⟩) m m) (drL q D g m))) ∧ (L 9 = true → L 8 = true ∧ v 9 = (v 8))) ?_ ?_ ?_
     · exact ⟨(Below.refl _ W2).drew, VF.start, (fun h => by cases h), (fun h => by cases h)⟩
     · refine (.cons rfl ?_ (.cons rfl ?_ (.cons rfl ?_ (.cons rfl ?_ (.cons rfl ?_ (.cons rfl ?_ (.cons rfl ?_ (.cons rfl ?_ (.cons rfl ?_ (.cons rfl ?_ (.cons rfl ?_ (.nil _))))))))))))
       · intro L v wx hd hn hU ⟨hY, V, cL, d9⟩ K hK
         go_wp2_with fail
         exact hK _ (.int .i64 (q : Int)) _ (by simp only [Act.put, pA, pB, pC]) ⟨hY, V.step 0 rfl, cL, d9⟩
       · intro L v wx hd hn hU ⟨hY, V, cL, d9⟩ K hK
         refine zlc (B0.zw hY) Try.underlying26 Try.size26 ?_
         exact hK _ _ _ rfl ⟨hY, V.step 1 rfl, cL, d9⟩
       · intro L v wx hd hn hU ⟨hY, V, cL, d9⟩ K hK
         have e0 := V.at (zdq hd 0 rfl) rfl
         have e1 := V.at (zdq hd 1 rfl) rfl
         go_wp2_with (go_at_call 86; refine (HRO.out _).mono ?_; rintro e wy ⟨rfl, hy⟩)
         exact hK _ (.agg (icl 72 (rt q D (2 * g))).toArray) _ (by simp only [Act.put, pA, pB, pC, e0, e1]) ⟨hY.trans (hy.mono hY.size), V.step 2 rfl, (fun h => let ⟨bz, hyE, hzb, hyS⟩ := cL h; ⟨bz, hyE, hzb, hyS.zw hy⟩), d9⟩
       · intro L v wx hd hn hU ⟨hY, V, cL, d9⟩ K hK
         refine zlc (B0.zw hY) Try.underlying26 Try.size26 ?_
         exact hK _ _ _ rfl ⟨hY, V.step 3 rfl, cL, d9⟩
       · intro L v wx hd hn hU ⟨hY, V, cL, d9⟩ K hK
         have e3 := V.at (zdq hd 3 rfl) rfl
         go_wp2_with (go_at_call 69; refine (HDG.out _).mono ?_; rintro e wy ⟨rfl, hy⟩)
         exact hK _ (.int .i64 (2 * (g : Int))) _ (by simp only [Act.put, pA, pB, pC, e3]) ⟨hY.trans (hy.mono hY.size), V.step 4 rfl, (fun h => let ⟨bz, hyE, hzb, hyS⟩ := cL h; ⟨bz, hyE, hzb, hyS.zw hy⟩), d9⟩
       · intro L v wx hd hn hU ⟨hY, V, cL, d9⟩ K hK
         have e4 := V.at (zdq hd 4 rfl) rfl
         go_wp2_with fail
         exact hK _ (.int .i64 (g : Int)) _ (by simp only [Act.put, pA, pB, pC, e4]) ⟨hY, V.step 5 rfl, cL, d9⟩
       · intro L v wx hd hn hU ⟨hY, V, cL, d9⟩ K hK
         have e5 := V.at (zdq hd 5 rfl) rfl
         go_wp2_with fail
         exact hK _ (.int .i64 (G : Int)) _ (by simp only [Act.put, pA, pB, pC, e5]) ⟨hY, V.step 6 rfl, cL, d9⟩
       · intro L v wx hd hn hU ⟨hY, V, cL, d9⟩ K hK
         go_wp2_with fail
         exact hK _ (.int .i64 (m : Int)) _ (by simp only [Act.put, pA, pB, pC]) ⟨hY, V.step 7 rfl, cL, d9⟩
       · intro L v wx hd hn hU ⟨hY, V, cL, d9⟩ K hK
         have e2 := V.at (zdq hd 2 rfl) rfl
         have e6 := V.at (zdq hd 6 rfl) rfl
         have e7 := V.at (zdq hd 7 rfl) rfl
         have hN0 := hY.size
         go_wp2_with (go_at_call 87; refine (HPA.out _).mono ?_; rintro e wy ⟨rfl, hr, hy⟩)
         have hnew : (∃ bz, (Value.slice (some ⟨wx.heap.size, paO G m, none⟩) m m) = (.slice (some ⟨bz, paO G m, none⟩) m m) ∧ W2.heap.size ≤ bz ∧ Seg wy bz (bz + 1) (.slice (some ⟨bz, paO G m, none⟩) m m) (drL q D g m)) := ⟨_, rfl, hN0, HSE.out _ _ hr⟩
         exact hK _ (.slice (some ⟨wx.heap.size, paO G m, none⟩) m m) _ (by simp only [Act.put, pA, pB, pC, e2, e6, e7]) ⟨hY.trans (hy.mono hY.size), V.skip 8 rfl, (fun _ => hnew), (fun h => absurd (d9 h).1 (by rw [hU]; decide))⟩
       · intro L v wx hd hn hU ⟨hY, V, cL, d9⟩ K hK
         have hl := (zdq hd 8 rfl)
         have ⟨bz, hyE, hzb, hyS⟩ := cL hl
         have ez : v 8 = (.slice (some ⟨bz, paO G m, none⟩) m m) := hyE
         have hnew : L 8 = true ∧ (.slice (some ⟨bz, paO G m, none⟩) m m) = (v 8) := ⟨hl, by rw [hyE]; try rfl⟩
         go_wp2_with fail
         exact hK _ (.slice (some ⟨bz, paO G m, none⟩) m m) _ (by simp only [Act.put, pA, pB, pC, ez]; try rfl) ⟨hY, V.skip 9 rfl, cL, (fun _ => hnew)⟩
       · intro L v wx hd hn hU ⟨hY, V, cL, d9⟩ K hK
         go_wp2_with fail
         exact hK _ (.int .i64 0) _ (by simp only [Act.put, pA, pB, pC]) ⟨hY, V.step 10 rfl, cL, d9⟩
     · intro L v W3 hL ⟨hY, V, cL, d9⟩
       have e0 := V.at (hL 0 (by decide)) rfl
       have e1 := V.at (hL 1 (by decide)) rfl
       have e2 := V.at (hL 2 (by decide)) rfl
       have e3 := V.at (hL 3 (by decide)) rfl
       have e4 := V.at (hL 4 (by decide)) rfl
       have e5 := V.at (hL 5 (by decide)) rfl
       have e6 := V.at (hL 6 (by decide)) rfl
       have e7 := V.at (hL 7 (by decide)) rfl
       have e10 := V.at (hL 10 (by decide)) rfl
       obtain ⟨bz, hyE, hzb, hyS⟩ := cL (hL 8 (by decide))
       have e8 := hyE
       have e9 : v 9 = (.slice (some ⟨bz, paO G m, none⟩) m m) := by rw [(d9 (hL 9 (by decide))).2, hyE]; try rfl
       clear hL V cL d9 hyE
       simp only [Exit.then, e0, e1, e2, e3, e4, e5, e6, e7, e10, e8, e9]
       clear e0 e1 e2 e3 e4 e5 e6 e7 e10 e8 e9
       replace B0 := B0.zw hY
       replace hb := hb.trans (hY.mono hb.size)
       go_wp2_with fail
       go_ret2
       exact ⟨_, bz, bz + 1, by rw [HV.out]; rfl, Nat.le_trans hWs hzb, by rw [HV.out]; exact hyS, hb⟩
   · have HV := Lib.hid (dtV_2 hc hn)
     clear hc lD hd
     go_upto_region 4 with (first | (refine zla (.tmp 4) B0 Try.underlying26 Try.size26 ?_) | (go_at_call 83; refine (HC.out _).mono ?_; rintro e W2 ⟨rfl, hW2⟩; replace B0 := B0.zw hW2; replace hb := (hb).trans (hW2.mono (hb).size)))
     by_cases h1 : n < 0
     · go_wp2_with fail
       go_ret2
       exact ⟨_, w.heap.size, w.heap.size, by rw [HV.out]; rfl, Nat.le_refl _, by rw [HV.out]; exact Seg.nil _ none 0 (Nat.le_refl _) hb.size, hb⟩
     · have h2 : 40 < n := by omega
       have h3 : n > 40 := h2
       go_wp2_with fail
       go_ret2
       exact ⟨_, w.heap.size, w.heap.size, by rw [HV.out]; rfl, Nat.le_refl _, by rw [HV.out]; exact Seg.nil _ none 0 (Nat.le_refl _) hb.size, hb⟩
set_option maxRecDepth 100000 in
set_option maxHeartbeats 3200000 in
theorem spec_DigitsOfRoot_any (p : Int) (D : Nat → Nat) (n : Int) (hD : byte D) (w : World) :
 Calls Try.prog 40 #[.int .i64 p, .agg (zb 64 D), .int .i64 n] w (SgF (dtV p D n).1 (dtV p D n).2 w) := by
 go_enter Try.func40, Try.ntmps40
 go_upto_region 1 with (fail)
 obtain ⟨W1, hwo⟩ : ∃ v : World, v = (w.alloc (.cells (zb 64 (D)) 26)) := ⟨_, rfl⟩
 have B0 : Blk W1 (w.heap.size) 64 26 (D) := by subst hwo; have := (Blk.new w 64 26 (D)); simpa using this
 have hb : Below w.heap.size w W1 := by subst hwo; exact ((Below.refl _ _).alloc (Nat.le_refl _) _)
 rw [← hwo]
 clear hwo
 rcases sqC_split p D with ⟨c, hc, hc0⟩ | ⟨hc, q, g, rfl, hpr, lD, hd, hg⟩
 · have HV := Lib.hid (dtV_c (n := n) hc hc0)
   have HC := Lib.hid (show ∀ W, Calls Try.prog _ _ W _ from fun W => hc ▸ l10Case_any p D hD W)
   have hcb : (c != 0) = true := by simp [hc0]
   have hcb2 : (c == 0) = false := by simp [hc0]
   clear hc hc0
   go_upto_region 5 with (first | (refine zla (.tmp 4) B0 Try.underlying26 Try.size26 ?_) | (go_at_call 81; refine (HC.out _).mono ?_; rintro e W2 ⟨rfl, hW2⟩; replace B0 := B0.zw hW2; replace hb := (hb).trans (hW2.mono (hb).size)))
   go_wp2_with fail
   go_ret2
   exact ⟨_, w.heap.size, w.heap.size, by rw [HV.out]; rfl, Nat.le_refl _, by rw [HV.out]; exact Seg.nil _ none 0 (Nat.le_refl _) hb.size, hb⟩
 · have HC := Lib.hid (show ∀ W, Calls Try.prog _ _ W _ from fun W => hc ▸ l10Case_any (q : Int) D hD W)
   by_cases hn : 0 ≤ n ∧ n ≤ 40
   · obtain ⟨m, rfl⟩ : ∃ m : Nat, n = (m : Int) := ⟨n.toNat, by omega⟩
     have hm40 : m ≤ 40 := by omega
     have HV := Lib.hid (dtV_0 hc hd hm40)
     have HDG := Lib.hid (fun W => show Calls Try.prog _ _ W (fun e w' => e = .returned (.int .i64 (2 * (g : Int))) ∧ Below W.heap.size W w') from by have h := l01Deg_any D W; rw [hd, show ((2 * g : Nat) : Int) = 2 * (g : Int) by omega] at h; exact h)
     have HRO := Lib.hid (fun W => l10Root_any q (2 * g) (g + 1 + m) D W hpr lD hd (by omega) (by omega))
     have hgd : 2 * (g : Int) / 2 = (g : Int) := by omega
     obtain ⟨G, hG⟩ : ∃ G, G = g + 1 := ⟨_, rfl⟩
     have hg1 : (g : Int) + 1 = (G : Int) := by omega
     obtain ⟨T, hT⟩ : ∃ T, T = G + m := ⟨_, rfl⟩
     have hgT : (G : Int) + (m : Int) = (T : Int) := by omega
     rw [← hG, ← hT] at HRO
     have HG := Lib.hid hG
     have HT := Lib.hid hT
     have hT72 : T ≤ 72 := by omega
     have hGT : G ≤ T := by omega
     have HTG := Lib.hid (show T - G = m by omega)
     clear hc lD hd hG hT hn
     have hn1 : (0 : Int) ≤ (m : Int) := by omega
     go_upto_region 2 with (first | (refine zla (.tmp 4) B0 Try.underlying26 Try.size26 ?_) | (go_at_call 81; refine (HC.out _).mono ?_; rintro e W2 ⟨rfl, hW2⟩; replace B0 := B0.zw hW2; replace hb := (hb).trans (hW2.mono (hb).size)))
     go_upto_region 6 with (first | (go_at_call 64; refine (l01In_yes (m : Int) 0 40 (by omega) _).mono ?_; rintro e wS ⟨rfl, rfl⟩))
     go_upto_region 7 with (first | (refine zla (.tmp 4) B0 Try.underlying26 Try.size26 ?_) | (go_at_call 63; refine (HDG.out _).mono ?_; rintro e W3 ⟨rfl, hW3⟩; replace B0 := B0.zw hW3; replace hb := (hb).trans (hW3.mono (hb).size)))
     have hS0 := slL_empty W3 2 1 hb.size
     have hbW := hb.size
     replace hb := hb.alloc (o := .cells #[] 2) hb.size
     replace B0 := B0.alloc (.cells #[] 2)
     go_wp2_with (first | (refine zla (.tmp 4) B0 Try.underlying26 Try.size26 ?_))
     refine (HRO.out _).mono ?_
     rintro e W5 ⟨vl, rfl, hS, h5⟩
     obtain ⟨g5, cap5, rfl⟩ : ∃ g5 cap5, vl = .slice (some ⟨g5, 0, none⟩) T cap5 := by
      obtain ⟨a5, c5, e5⟩ := hS.form
      subst e5
      obtain ⟨g5, hg5⟩ := hS.some (by rw [ilZ_len, rtl_len]; have := HT.out; have := HG.out; omega)
      exact ⟨g5, c5, by rw [ilZ_len, rtl_len, hg5]⟩
     have hTc : T ≤ cap5 := slL_capZ hS
     replace hS0 := hS0.zw h5
     replace hb := hb.trans (h5.mono hb.size)
     obtain ⟨N3, hN3⟩ : ∃ n, n = W3.heap.size := ⟨_, rfl⟩
     rw [← hN3] at hS0 ⊢
     clear B0 h5 hN3
     rw [← ilZ_nil] at hS0
     obtain ⟨o5, ho5, hsl⟩ := slice_front (P := Try.prog) Try.underlying23 Try.sizeI64 g5 G T cap5 hGT hTc
     rw [HTG.out] at hsl
     have hcl : ∀ i y, (drL q D g m)[i]? = some y → W5.cell? ⟨g5, o5 + i, none⟩ = some (.int .i64 y) := fun i y hy => by
      have hi : i < m := by have := (List.getElem?_eq_some_iff.1 hy).1; rwa [drL_len] at this
      rw [drL_at hi] at hy
      injection hy with hy
      have h1 := HTG.out
      have h2 := HG.out
      rw [ho5 (by omega), ← hy, ← h2]
      exact slL_zat hS (rtl_at (by omega))
     have HCL := Lib.hid hcl
     clear hcl ho5
     go_wp2_with (first | (at_builtin; refine wpList_append_zs _ rfl _ _ 23 rfl w.heap.size Try.underlying23 Try.infoInt _ [] (drL q D g m) rfl hS0 g5 o5 m (cap5 - G) rfl (drL_len q D g m).symm HCL.out (by rw [drL_len]; show 0 + m ≤ 10000; omega) ?_; intro vp wp hSp hg1; have fhb := hb.grown hg1 hb.size (fun k e => hS0.own k e)))
     rw [List.nil_append] at hSp
     have hsg := hSp.seg
     go_ret2
     exact ⟨_, _, _, by rw [HV.out]; rfl, Nat.le_refl _, by rw [HV.out]; exact hsg, fhb⟩
   · have HV := Lib.hid (dtV_2 hc hn)
     clear hc lD hd
     go_upto_region 2 with (first | (refine zla (.tmp 4) B0 Try.underlying26 Try.size26 ?_) | (go_at_call 81; refine (HC.out _).mono ?_; rintro e W2 ⟨rfl, hW2⟩; replace B0 := B0.zw hW2; replace hb := (hb).trans (hW2.mono (hb).size)))
     go_wp2_with (first | (go_at_call 64; refine (l01In_no n 0 40 (by omega) _).mono ?_; rintro e wS ⟨rfl, rfl⟩))
     go_ret2
     exact ⟨_, w.heap.size, w.heap.size, by rw [HV.out]; rfl, Nat.le_refl _, by rw [HV.out]; exact Seg.nil _ none 0 (Nat.le_refl _) hb.size, hb⟩
end Go.Proofs.Ytgcajgmokcmcgaa
end
