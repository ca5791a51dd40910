/-
  What the rows of this claim rest on: arrays of bytes, walks of the functions, plain mathematics.
-/
import Derived.WalkKit
import Derived.WalkSpells
import Derived.WalkLawsBesides
import Derived.Lib.Hide
import Derived.Laws.Rows
import Derived.Laws.CopyOwn
import Derived.Deep.QuietTactic
import Derived.Deep.WholeRow
import Derived.Deep.Draws
import Derived.Deep.MidRow
import Derived.Deep.CutRange
import Derived.Deep.DeepCutAuto
import Derived.Deep.RegionHeld3
import Derived.BigQuiet
import Derived.BigRegion
import Derived.Great.BuildSlice
import Derived.Test.YtbjpkmbhbpcbgaaRows
import Derived.ScopeJumps
import Derived.Laws.StructEq
import Derived.Laws.Tables
import Derived.Maps.OwnOps
import Derived.DeepKeys4
import Derived.Carry
import Derived.Test.YtbjpkmbhbpcbgaaProg
import Derived.OwnWalk
import Derived.RangeFuncNested
import Derived.RangeFuncBound
import Derived.RangeFuncCalls
import Derived.RangeFuncLeaves
import Derived.Shelf.Abstract
import Derived.Shelf.RegionOpen
import Derived.OwnWalkIn
import Derived.TacticsInMore
import Derived.LoopNIn
import Derived.LoopIn
import Derived.Deep.CutBlock
import Derived.Defers
import Derived.Recover
section
namespace Go.Proofs.Ytbjpkmbhbpcbgaa
open Go.RowKit
/-- the cells of an array of n bytes -/
def bl (n : Nat) (f : Nat → Nat) : List Value := (List.range n).map fun i => Value.int .u8 (f i : Int)
abbrev bcells (n : Nat) (f : Nat → Nat) : Array Value := (bl n f).toArray
theorem bl_length (n : Nat) (f : Nat → Nat) : (bl n f).length = n := by simp [bl]
theorem bl_one {n : Nat} {f : Nat → Nat} : ∀ v ∈ bl n f, v.oneCell' = true := by
  intro v hv
  simp only [bl, List.mem_map] at hv
  obtain ⟨i, _, rfl⟩ := hv
  rfl

theorem bcells_size (n : Nat) (f : Nat → Nat) : (bcells n f).size = n := by simp [bl]
theorem bcells_get {n : Nat} {f : Nat → Nat} {i : Nat} (h : i < n) : (bcells n f)[i]? = some (.int .u8 (f i : Int)) := by
  simp [bl, h]
def upd (f : Nat → Nat) (i v : Nat) : Nat → Nat := fun j => if j = i then v else f j
theorem bcells_set {n : Nat} {f : Nat → Nat} {i v : Nat} : (bcells n f).setIfInBounds i (.int .u8 (v : Int)) = bcells n (upd f i v) := by
  apply Array.ext
  · simp [bl]
  · intro j h1 h2
    have hj : j < n := by simpa [bl] using h2
    rw [Array.getElem_setIfInBounds (by simpa [bl] using hj)]
    by_cases e : i = j
    · subst e; simp [bl, upd]
    · have e' : ¬ j = i := fun h => e h.symm
      simp [bl, upd, e, e']
theorem upd_lt {a b : Nat → Nat} {k v : Nat} (hv : v = a k) : ∀ i, upd (fun i => if i < k then a i else b i) k v i = if i < k + 1 then a i else b i := by
  intro i; subst hv; unfold upd
  by_cases e : i = k
  · subst e; simp
  · have : (i < k + 1) ↔ i < k := by omega
    simp [e, this]
theorem bcells_congr {n : Nat} {f g : Nat → Nat} (h : ∀ i, i < n → f i = g i) : bcells n f = bcells n g := by
  unfold bcells bl
  congr 1
  apply List.map_congr_left
  intro i hi
  rw [h i (by simpa using hi)]
theorem bcells_one (n : Nat) (f : Nat → Nat) : (bcells n f).all (·.oneCell') = true :=
  Array.all_eq_true_iff_forall_mem.2 fun v hv => bl_one v (by simpa using hv)
/-- block b holds the bytes f -/
def Blk (w : World) (b n : Nat) (t : TypeId) (f : Nat → Nat) : Prop := w.heap[b]? = some (.cells (bcells n f) t (0, 0))

theorem Blk.new (w : World) (n : Nat) (t : TypeId) (f : Nat → Nat) : Blk (w.alloc (.cells (bcells n f) t)) w.heap.size n t f := heap_alloc_last w _
theorem Blk.lt {w : World} {b n : Nat} {t : TypeId} {f : Nat → Nat} (h : Blk w b n t f) : b < w.heap.size := by
  unfold Blk at h
  exact (Array.getElem?_eq_some_iff.1 h).1
theorem Blk.cell {w : World} {b n : Nat} {t : TypeId} {f : Nat → Nat} (h : Blk w b n t f) {i : Nat} (hi : i < n) : w.cell? ⟨b, i, none⟩ = some (.int .u8 (f i : Int)) := by
  rw [cell_of_row _ _ _ _ _ _ h]; exact bcells_get hi
theorem Blk.frozen {w : World} {b n : Nat} {t : TypeId} {f : Nat → Nat} (h : Blk w b n t f) (i : Nat) : w.frozen? ⟨b, i, none⟩ = false := frozen_of_row _ _ _ _ _ h
theorem Blk.congr {w : World} {b n : Nat} {t : TypeId} {f g : Nat → Nat} (h : Blk w b n t f) (e : ∀ i, i < n → f i = g i) : Blk w b n t g := by
  unfold Blk at *; rw [h, bcells_congr e]
theorem Blk.set {w : World} {b n : Nat} {t : TypeId} {f : Nat → Nat} (h : Blk w b n t f) {i v : Nat} {x : Int} (e : x = (v : Int)) : Blk (w.setCell ⟨b, i, none⟩ (.int .u8 x)) b n t (upd f i v) := by
  subst e; unfold Blk at *
  rw [heap_setCell_same _ _ _ _ _ _ h, bcells_set]
theorem Blk.setOther {w : World} {b n : Nat} {t : TypeId} {f : Nat → Nat} (h : Blk w b n t f) {a : Addr} {v : Value} (e : b ≠ a.block) : Blk (w.setCell a v) b n t f := by
  unfold Blk at *; rw [heap_setCell_other _ _ _ _ e]; exact h
theorem Blk.alloc {w : World} {b n : Nat} {t : TypeId} {f : Nat → Nat} (h : Blk w b n t f) (o : Obj) : Blk (w.alloc o) b n t f := by
  have := h.lt
  unfold Blk at *; rw [Below.heap_alloc _ _ _ this]; exact h
theorem Blk.drew {w : World} {b n : Nat} {t : TypeId} {f : Nat → Nat} (h : Blk w b n t f) : Blk w.drew b n t f := h
theorem Blk.drewN {w : World} {b n : Nat} {t : TypeId} {f : Nat → Nat} (h : Blk w b n t f) (k : Nat) : Blk (w.drewN k) b n t f := h
theorem Blk.row {w : World} {b n : Nat} {t : TypeId} {f : Nat → Nat} (h : Blk w b n t f) (g : Nat → Nat) : Blk (w.setRow b (bcells n g)) b n t g := setRow_heap _ _ _ _ _ _ h
theorem Blk.rowOther {w : World} {b n : Nat} {t : TypeId} {f : Nat → Nat} (h : Blk w b n t f) {k : Nat} {cs : Array Value} (e : b ≠ k) : Blk (w.setRow k cs) b n t f := by
  unfold Blk at *; rw [setRow_other _ _ _ _ e]; exact h
theorem Blk.below {w w' : World} {B b n : Nat} {t : TypeId} {f : Nat → Nat} (h : Blk w b n t f) (hb : Below B w w') (e : b < B) : Blk w' b n t f := by
  unfold Blk at *; rw [hb.block b e]; exact h

theorem Blk.range {w : World} {b n : Nat} {t : TypeId} {f : Nat → Nat} (h : Blk w b n t f) : w.rangeAt b 0 (bl n f) := by
  intro j v hv
  rw [Nat.zero_add, cell_of_row _ _ _ _ _ _ h]
  simpa using hv
theorem below_drewN' {B : Nat} {a w : World} (h : Below B a w) (n : Nat) : Below B a (w.drewN n) := ⟨h.os, h.tape, h.output, h.size, h.block⟩

theorem below_alloc' (w : World) (o : Obj) : Below w.heap.size w (w.alloc o) := (Below.refl _ _).alloc (Nat.le_refl _) _
/-- y points to a block from N on that holds g -/
def PF (y : Value) (w : World) (N n : Nat) (t : TypeId) (g : Nat → Nat) : Prop := ∃ b, y = .pointer (some ⟨b, 0, none⟩) ∧ N ≤ b ∧ Blk w b n t g
def AF (y : Value) (w : World) (N n : Nat) (t : TypeId) : Prop := ∃ g, PF y w N n t g
theorem PF.below {y : Value} {w w' : World} {N n : Nat} {t : TypeId} {g : Nat → Nat} (h : PF y w N n t g) (hb : Below w.heap.size w w') : PF y w' N n t g := by
  obtain ⟨b, e, hN, hk⟩ := h
  exact ⟨b, e, hN, hk.below hb hk.lt⟩
theorem AF.below {y : Value} {w w' : World} {N n : Nat} {t : TypeId} (h : AF y w N n t) (hb : Below w.heap.size w w') : AF y w' N n t := by
  obtain ⟨g, h⟩ := h
  exact ⟨g, h.below hb⟩
theorem PF.af {y : Value} {w : World} {N n : Nat} {t : TypeId} {g : Nat → Nat} (h : PF y w N n t g) : AF y w N n t := ⟨g, h⟩
theorem PF.new (w : World) {N : Nat} (n : Nat) (t : TypeId) (g : Nat → Nat) (h : N ≤ w.heap.size) : PF (.pointer (some ⟨w.heap.size, 0, none⟩)) (w.alloc (.cells (bcells n g) t)) N n t g := ⟨_, rfl, h, Blk.new _ _ _ _⟩
theorem PF.row {w : World} {b N n : Nat} {t : TypeId} {f : Nat → Nat} (hb : Blk w b n t f) (hN : N ≤ b) (g : Nat → Nat) : PF (.pointer (some ⟨b, 0, none⟩)) (w.setRow b (bcells n g)) N n t g := ⟨b, rfl, hN, hb.row g⟩
theorem PF.rowOther {y : Value} {w : World} {b N n : Nat} {t : TypeId} {g : Nat → Nat} {cs : Array Value} (h : PF y w N n t g) (e : y ≠ .pointer (some ⟨b, 0, none⟩)) : PF y (w.setRow b cs) N n t g := by
  obtain ⟨b', e', hN, hk⟩ := h
  refine ⟨b', e', hN, hk.rowOther ?_⟩
  rintro rfl
  exact e e'
theorem AF.row {y : Value} {w : World} {b N n m : Nat} {t u : TypeId} {f g : Nat → Nat} (h : AF y w N n t) (hb : Blk w b m u f) : AF y (w.setRow b (bcells m g)) N n t := by
  obtain ⟨g', b', e', hN, hk⟩ := h
  by_cases e : b' = b
  · subst e
    have h1 := hk.symm.trans hb
    simp only [Option.some.injEq, Obj.cells.injEq, and_true] at h1
    obtain ⟨h1, h2⟩ := h1
    have h3 : n = m := by have := congrArg Array.size h1; rwa [bcells_size, bcells_size] at this
    subst h3; subst h2
    exact ⟨g, b', e', hN, hk.row g⟩
  · exact ⟨g', b', e', hN, hk.rowOther e⟩
theorem PF.out {y : Value} {w : World} {N n : Nat} {t : TypeId} {g : Nat → Nat} (h : PF y w N n t g) : ∃ b, y = .pointer (some ⟨b, 0, none⟩) ∧ N ≤ b ∧ Blk w b n t g := h
theorem AF.out {y : Value} {w : World} {N n : Nat} {t : TypeId} (h : AF y w N n t) : ∃ g b, y = .pointer (some ⟨b, 0, none⟩) ∧ N ≤ b ∧ Blk w b n t g := h
theorem below_row {N b : Nat} {w0 w : World} (hb : Below N w0 w) (h : N ≤ b) (cs : Array Value) : Below N w0 (w.setRow b cs) := below_setRow hb h cs

theorem acc {P : Program} {k : FuncId} {args : Array Value} {w W0 : World} {v : Ending} (h : Calls P k args w fun e w' => e = v ∧ Below w.heap.size w w') (ha : Below W0.heap.size W0 w) :
    Calls P k args w fun e w' => e = v ∧ Below w.heap.size w w' ∧ Below W0.heap.size W0 w' :=
  h.mono fun _ _ ⟨he, hb⟩ => ⟨he, hb, ha.trans (hb.mono ha.size)⟩
section
variable {P : Program}
theorem wp_load_blk {o : Oper} {a : Act} {w : World} {K : Act → World → Prop} {Q : Exit → Act → World → Prop} (ty : TypeId) (x : Operand) (ho : o.op = .load ty x)
    (b : Nat) (hx : a.eval x = .pointer (some ⟨b, 0, none⟩)) (n : Nat) (t : TypeId) (f : Nat → Nat) (hb : Blk w b n t f) (e : TypeId)
    (hu : P.underlying ty = some (.array n e)) (hi : (P.info? ty).map (·.size) = some n) (h : K (a.put o.dst (.agg (bcells n f))) w) : o.wp P a w K Q :=
  wp_load_row ty x ho b hx t _ (0, 0) _ hb hu rfl (by rw [bcells_size]; exact hi) h
theorem wp_store_blk {o : Oper} {a : Act} {w : World} {K : Act → World → Prop} {Q : Exit → Act → World → Prop} (ty : TypeId) (x y : Operand) (ho : o.op = .store ty x y)
    (b : Nat) (n : Nat) (g : Nat → Nat) (hx : a.eval x = .pointer (some ⟨b, 0, none⟩)) (hy : a.eval y = .agg (bcells n g)) (t : TypeId) (f : Nat → Nat) (hb : Blk w b n t f)
    (hi : (P.info? ty).map (·.size) = some n) (h : K (a.put o.dst undef) (w.setRow b (bcells n g))) : o.wp P a w K Q :=
  wp_store_row ty x y ho b _ hx hy t _ hb (by rw [bcells_size]; exact hi) (by rw [bcells_size, bcells_size]) (bcells_one n g) h
theorem wpList_store_new {ops : Array Oper} {rest : List Oper} {o : Oper} {a : Act} {w : World} {Q : Exit → Act → World → Prop} (hgd : o.guard = none) (ty : TypeId) (x y : Operand) (ho : o.op = .store ty x y)
    (old : Array Value) (t : TypeId) (n : Nat) (g : Nat → Nat) (hx : a.eval x = .pointer (some ⟨w.heap.size, 0, none⟩)) (hy : a.eval y = .agg (bcells n g)) (hold : old.size = n)
    (hi : (P.info? ty).map (·.size) = some n)
    (h : wpList P ops Q rest (a.put o.dst undef) (w.alloc (.cells (bcells n g) t))) : wpList P ops Q (o :: rest) a (w.alloc (.cells old t)) :=
  wpList_store_row hgd ty x y ho _ _ hx hy t old (heap_alloc_last w _) (by rw [bcells_size]; exact hi) (by rw [bcells_size]; exact hold) (bcells_one n g) (by rw [World.setRow_alloc_new]; exact h)
theorem wpList_load_blk {ops : Array Oper} {rest : List Oper} {o : Oper} {a : Act} {w : World} {Q : Exit → Act → World → Prop} (hgd : o.guard = none) (ty : TypeId) (x : Operand) (ho : o.op = .load ty x)
    (b : Nat) (hx : a.eval x = .pointer (some ⟨b, 0, none⟩)) (n : Nat) (t : TypeId) (f : Nat → Nat) (hb : Blk w b n t f) (e : TypeId)
    (hu : P.underlying ty = some (.array n e)) (hi : (P.info? ty).map (·.size) = some n)
    (h : wpList P ops Q rest (a.put o.dst (.agg (bcells n f))) w) : wpList P ops Q (o :: rest) a w :=
  wpList_load_row hgd ty x ho b hx t _ (0, 0) _ hb hu rfl (by rw [bcells_size]; exact hi) h
theorem wpList_store_blk {ops : Array Oper} {rest : List Oper} {o : Oper} {a : Act} {w : World} {Q : Exit → Act → World → Prop} (hgd : o.guard = none) (ty : TypeId) (x y : Operand) (ho : o.op = .store ty x y)
    (b : Nat) (n : Nat) (g : Nat → Nat) (hx : a.eval x = .pointer (some ⟨b, 0, none⟩)) (hy : a.eval y = .agg (bcells n g)) (t : TypeId) (f : Nat → Nat) (hb : Blk w b n t f)
    (hi : (P.info? ty).map (·.size) = some n)
    (h : wpList P ops Q rest (a.put o.dst undef) (w.setRow b (bcells n g))) : wpList P ops Q (o :: rest) a w :=
  wpList_store_row hgd ty x y ho b _ hx hy t _ hb (by rw [bcells_size]; exact hi) (by rw [bcells_size, bcells_size]) (bcells_one n g) h
theorem run_loadVar_blk (w : World) (b n : Nat) (t ty e : TypeId) (f : Nat → Nat) (hb : Blk w b n t f) (hu : P.underlying ty = some (.array n e)) (hi : (P.info? ty).map (·.size) = some n) :
    (loadVar ty ⟨b, 0, none⟩).run P w = .ok (.agg (bcells n f)) w :=
  run_loadVar_row w b t ty _ (0, 0) _ hb hu rfl (by rw [bcells_size]; exact hi)
theorem results_blk {fn : Func} {p : Tmp} {ty : TypeId} (h : fn.results = #[.cell p ty]) (tmps : Array Value) (w : World) (b n : Nat) (t e : TypeId) (f : Nat → Nat)
    (hp : tmps.getD p undef = .pointer (some ⟨b, 0, none⟩)) (hb : Blk w b n t f) (hu : P.underlying ty = some (.array n e)) (hi : (P.info? ty).map (·.size) = some n) :
    (results fn tmps).run P w = .ok (.agg (bcells n f)) w :=
  results_cell_row h tmps w b t _ (0, 0) _ hp hb hu rfl (by rw [bcells_size]; exact hi)
theorem results_bt {fn : Func} {p q : Tmp} {ty : TypeId} (h : fn.results = #[.cell p ty, .tmp q]) (tmps : Array Value) (w : World) (b n : Nat) (t e : TypeId) (f : Nat → Nat)
    (hp : tmps.getD p undef = .pointer (some ⟨b, 0, none⟩)) (hb : Blk w b n t f) (hu : P.underlying ty = some (.array n e)) (hi : (P.info? ty).map (·.size) = some n) :
    (results fn tmps).run P w = .ok (.tuple #[.agg (bcells n f), tmps.getD q undef]) w := by
  have hp' : tmps[p]?.getD undef = .pointer (some ⟨b, 0, none⟩) := by simpa using hp
  simp [results, h, hp', asAddr, run_loadVar_blk w b n t ty e f hb hu hi]
end
theorem zero64 : bcells 64 (fun _ => 0) = #[.int .u8 0, .int .u8 0, .int .u8 0, .int .u8 0, .int .u8 0, .int .u8 0, .int .u8 0, .int .u8 0, .int .u8 0, .int .u8 0, .int .u8 0, .int .u8 0, .int .u8 0, .int .u8 0, .int .u8 0, .int .u8 0, .int .u8 0, .int .u8 0, .int .u8 0, .int .u8 0, .int .u8 0, .int .u8 0, .int .u8 0, .int .u8 0, .int .u8 0, .int .u8 0, .int .u8 0, .int .u8 0, .int .u8 0, .int .u8 0, .int .u8 0, .int .u8 0, .int .u8 0, .int .u8 0, .int .u8 0, .int .u8 0, .int .u8 0, .int .u8 0, .int .u8 0, .int .u8 0, .int .u8 0, .int .u8 0, .int .u8 0, .int .u8 0, .int .u8 0, .int .u8 0, .int .u8 0, .int .u8 0, .int .u8 0, .int .u8 0, .int .u8 0, .int .u8 0, .int .u8 0, .int .u8 0, .int .u8 0, .int .u8 0, .int .u8 0, .int .u8 0, .int .u8 0, .int .u8 0, .int .u8 0, .int .u8 0, .int .u8 0, .int .u8 0] := by rfl
attribute [irreducible] Blk PF AF bl
end Go.Proofs.Ytbjpkmbhbpcbgaa
end
section
namespace Go.Proofs.Ytbjpkmbhbpcbgaa
def okP (p : Int) : Bool := p == 2 || p == 3 || p == 5 || p == 7
theorem okP_cases {p : Int} (h : okP p = true) : p = 2 ∨ p = 3 ∨ p = 5 ∨ p = 7 := by
  simp only [okP, Bool.or_eq_true, beq_iff_eq] at h
  rcases h with ((h | h) | h) | h <;> simp [h]
theorem okP_false {p : Int} (h : okP p = false) : (p == 2) = false ∧ (p == 3) = false ∧ (p == 5) = false ∧ (p == 7) = false := by
  simp only [okP, Bool.or_eq_false_iff] at h
  exact ⟨h.1.1.1, h.1.1.2, h.1.2, h.2⟩
theorem okP_le {p : Int} (h : okP p = true) : 2 ≤ p ∧ p ≤ 7 := by rcases okP_cases h with h | h | h | h <;> subst h <;> decide
/-- f cut off at 64 -/
def cut (f : Nat → Nat) : Nat → Nat := fun i => if i < 64 then f i else 0
end Go.Proofs.Ytbjpkmbhbpcbgaa
end
section
namespace Go.Proofs.Ytbjpkmbhbpcbgaa
open Go.RowKit
/-- block b holds the polynomials fs, one behind the other -/
def PolS (w : World) (b : Nat) (fs : List (Nat → Nat)) : Prop := w.heap[b]? = some (.cells ((fs.map (bl 64)).flatten).toArray 23 (0, 0))
theorem PolS.lt {w : World} {b : Nat} {fs : List (Nat → Nat)} (h : PolS w b fs) : b < w.heap.size := by
  unfold PolS at h
  exact (Array.getElem?_eq_some_iff.1 h).1
theorem PolS.below {w w' : World} {B b : Nat} {fs : List (Nat → Nat)} (h : PolS w b fs) (hb : Below B w w') (e : b < B) : PolS w' b fs := by
  unfold PolS at *; rw [hb.block b e]; exact h
theorem flat_get : ∀ (fs : List (Nat → Nat)) (i : Nat) (f : Nat → Nat) (j : Nat), fs[i]? = some f → j < 64 → ((fs.map (bl 64)).flatten)[i * 64 + j]? = some (.int .u8 (f j : Int))
  | [], _, _, _, h, _ => by simp at h
  | g :: fs, 0, f, j, h, hj => by
    simp only [List.getElem?_cons_zero, Option.some.injEq] at h
    subst h
    rw [List.map_cons, List.flatten_cons, Nat.zero_mul, Nat.zero_add, List.getElem?_append_left (by rw [bl_length]; exact hj)]
    simp [bl, hj]
  | g :: fs, i + 1, f, j, h, hj => by
    rw [List.map_cons, List.flatten_cons, List.getElem?_append_right (by rw [bl_length]; omega), bl_length]
    have := flat_get fs i f j (by simpa using h) hj
    rw [show (i + 1) * 64 + j - 64 = i * 64 + j by omega]
    exact this
theorem PolS.range {w : World} {b : Nat} {fs : List (Nat → Nat)} (h : PolS w b fs) {i : Nat} {f : Nat → Nat} (hi : fs[i]? = some f) : w.rangeAt b (i * 64) (bl 64 f) := by
  intro j v hv
  have hj : j < 64 := by
    have := (List.getElem?_eq_some_iff.1 hv).1
    rwa [bl_length] at this
  rw [cell_of_row _ _ _ _ _ _ h]
  have e : (bl 64 f)[j]? = some (.int .u8 (f j : Int)) := by simp [bl, hj]
  rw [e] at hv
  injection hv with hv
  subst hv
  simpa using flat_get fs i f j hi hj
attribute [irreducible] PolS
end Go.Proofs.Ytbjpkmbhbpcbgaa
end
section
namespace Go.Proofs.Ytbjpkmbhbpcbgaa
open Go.RowKit
theorem Try.size23 : (Try.prog.info? 23).map (·.size) = some 64 := by kernel_rfl
theorem Try.mixed : Try.prog.follows .mixedOrders = true := by kernel_rfl
theorem ret_int {k : IntKind} {a b : Int} (h : a = b) : Ending.returned (.int k a) = .returned (.int k b) := by rw [h]
theorem ret_bool {a b : Bool} (h : a = b) : Ending.returned (.bool a) = .returned (.bool b) := by rw [h]

theorem isPrime_any (p : Int) (w : World) : Calls Try.prog 149 #[.int .i64 p] w fun e w' => e = .returned (.bool (okP p)) ∧ w = w' := by
  cases hp : okP p with
  | true =>
    rcases okP_cases hp with rfl | rfl | rfl | rfl <;>
    · go_enter Try.func149, Try.ntmps149
      go_wp2
      go_ret
      exact ⟨rfl, rfl⟩
  | false =>
    obtain ⟨h2, h3, h5, h7⟩ := okP_false hp
    go_enter Try.func149, Try.ntmps149
    go_wp2
    go_ret
    exact ⟨rfl, rfl⟩
theorem l01Prime_any (p : Int) (w : World) : Calls Try.prog 147 #[.int .i64 p] w fun e w' => e = .returned (.bool (okP p)) ∧ w = w' := by
  cases hp : okP p with
  | true =>
    rcases okP_cases hp with rfl | rfl | rfl | rfl <;>
    · go_enter Try.func147, Try.ntmps147
      go_wp2
      go_ret
      exact ⟨rfl, rfl⟩
  | false =>
    obtain ⟨h2, h3, h5, h7⟩ := okP_false hp
    go_enter Try.func147, Try.ntmps147
    go_wp2
    go_ret
    exact ⟨rfl, rfl⟩

end Go.Proofs.Ytbjpkmbhbpcbgaa
end
section
namespace Go.Proofs.Ytbjpkmbhbpcbgaa
open Go.RowKit
set_option linter.unusedVariables false
set_option maxRecDepth 100000 in
set_option maxHeartbeats 400000 in
theorem eqPoly_same (f g : Nat → Nat) (hfg : ∀ i, i < 64 → f i = g i) (w : World) : Calls Try.prog 26 #[.agg (bcells 64 f), .agg (bcells 64 g)] w fun e w' => e = .returned (.bool true) ∧ Below w.heap.size w w' := by
  rw [bcells_congr (fun i hi => (hfg i hi).symm)]
  go_enter Try.func26, Try.ntmps26
  go_wp2_with fail
  clear hfg
  go_loopw [5] (fun i wr => ∃ k : Nat, k ≤ 64 ∧ i = .int .i64 (k : Int) ∧ Below w.heap.size w wr ∧ Blk wr w.heap.size 64 23 f ∧ Blk wr (w.heap.size + 1) 64 23 f) (fun i _ => 64 - (intOf i).toNat)
  case atStart =>
    refine ⟨0, by omega, rfl, ((Below.refl _ _).alloc (Nat.le_refl _) _).alloc (by simp) _, (Blk.new w _ _ _).alloc _, ?_⟩
    have := Blk.new (w.alloc (.cells (bcells 64 f) 23)) 64 23 f; simpa using this
  case round =>
    obtain ⟨k, hk, rfl, hb, h0, h1⟩ := hrel
    by_cases hlt : k < 64
    · have c4 := h0.cell hlt
      have c5 := h1.cell hlt
      have hk0 : (0 : Int) ≤ (k : Int) := by omega
      have hk1 : (k : Int) < 64 := by omega
      have hne : ((f k : Int) != (f k : Int)) = false := by simp
      go_wp2_with fail
      go_quiet (fail)
      go_wp2_with fail
      go_roundw
      case rel => exact ⟨k + 1, by omega, by go_num, below_drewN' hb _, h0.drewN _, h1.drewN _⟩
      case measure => simp [intOf]; omega
    · go_wp2_with fail
      go_ret
      exact ⟨rfl, hb⟩

set_option maxRecDepth 100000 in
set_option maxHeartbeats 400000 in
theorem difference_any (p : Nat) (f g : Nat → Nat) (w : World) (hp1 : 2 ≤ p) (hp2 : p ≤ 7) (hf : ∀ i, i < 64 → f i < p) (hg : ∀ i, i < 64 → g i < p) :
    Calls Try.prog 124 #[.int .i64 (p : Int), .agg (bcells 64 f), .agg (bcells 64 g)] w fun e w' => e = .returned (.agg (bcells 64 fun i => (f i + p - g i) % p)) ∧ Below w.heap.size w w' := by
  go_enter Try.func124, Try.ntmps124
  go_wp2_with fail
  have HF := Lib.hid hf; clear hf
  have HG := Lib.hid hg; clear hg
  rw [← zero64]
  go_loopw [8] (fun i wr => ∃ k : Nat, k ≤ 64 ∧ i = .int .i64 (k : Int) ∧ Below w.heap.size w wr ∧ Blk wr w.heap.size 64 23 (fun i => if i < k then (f i + p - g i) % p else f i) ∧ Blk wr (w.heap.size + 1) 64 23 g ∧ Blk wr (w.heap.size + 1 + 1) 64 23 (fun _ => 0)) (fun i _ => 64 - (intOf i).toNat)
  case atStart =>
    refine ⟨0, by omega, rfl, (((Below.refl _ _).alloc (Nat.le_refl _) _).alloc (by simp) _).alloc (by simp; omega) _, ?_, ?_, ?_⟩
    · exact (((Blk.new w _ _ _).alloc _).alloc _).congr (by simp)
    · have := ((Blk.new (w.alloc (.cells (bcells 64 f) 23)) 64 23 g).alloc (.cells (bcells 64 fun _ => 0) 23)); simpa using this
    · have := (Blk.new ((w.alloc (.cells (bcells 64 f) 23)).alloc (.cells (bcells 64 g) 23)) 64 23 (fun _ => 0)); simpa using this
  case round =>
    obtain ⟨k, hk, rfl, hb, h0, h1, h2⟩ := hrel
    by_cases hlt : k < 64
    · have c4 : wr.cell? ⟨w.heap.size, k, none⟩ = some (.int .u8 (f k : Int)) := by rw [h0.cell hlt]; simp
      have c5 := h1.cell hlt
      have z4 := h0.frozen k
      have b1 : f k < p := HF.out k hlt
      have b2 : g k < p := HG.out k hlt
      go_wp2_with fail
      go_region
      go_wp2_with fail
      go_roundw
      case rel =>
        refine ⟨k + 1, by omega, by go_num, (hb.setCell (by simp) _).drew, ?_, ?_, ?_⟩
        · exact ((h0.set (v := (f k + p - g k) % p) (by rw [Int.natCast_emod, Int.natCast_sub (by omega)]; push_cast; rfl)).congr (fun i _ => upd_lt (a := fun i => (f i + p - g i) % p) rfl i)).drew
        · exact (h1.setOther (by simp)).drew
        · exact (h2.setOther (by simp; omega)).drew
      case measure => simp [intOf]; omega
    · have e : k = 64 := by omega
      subst e
      go_wp2_with (first | refine wpList_load_blk rfl 23 _ rfl _ rfl 64 23 _ (h0) 5 Try.underlying23 Try.size23 ?_ | refine wpList_store_blk rfl 23 _ _ rfl _ 64 ((fun i => if i < 64 then (f i + p - g i) % p else f i)) rfl rfl 23 _ (h2) Try.size23 ?_)
      refine bodyPost_ret (results_blk rfl _ _ _ 64 23 5 _ rfl (h2.row _) Try.underlying23 Try.size23) rfl ⟨?_, ?_⟩
      · rw [bcells_congr (g := fun i => (f i + p - g i) % p)]
        intro i hi; simp [hi]
      · exact below_setRow hb (by omega) _

/-- f and k times g, modulo p -/
def addK (p : Nat) (f g : Nat → Nat) (k : Int) : Nat → Nat := fun i => (((f i : Int) + k * (g i : Int)) % (p : Int)).toNat
theorem small_mul (k : Int) (n : Nat) (hk1 : -6 ≤ k) (hk2 : k ≤ 6) (hn : n < 7) : -42 ≤ k * (n : Int) ∧ k * (n : Int) ≤ 42 := by
  have : n = 0 ∨ n = 1 ∨ n = 2 ∨ n = 3 ∨ n = 4 ∨ n = 5 ∨ n = 6 := by omega
  rcases this with h | h | h | h | h | h | h <;> subst h <;> constructor <;> omega

set_option maxRecDepth 100000 in
set_option maxHeartbeats 800000 in
theorem l01Add_any (p : Nat) (f g : Nat → Nat) (k0 : Int) (w : World) (hp1 : 2 ≤ p) (hp2 : p ≤ 7) (hk1 : -6 ≤ k0) (hk2 : k0 ≤ 6) (hf : ∀ i, i < 64 → f i < p) (hg : ∀ i, i < 64 → g i < p) :
    Calls Try.prog 107 #[.int .i64 (p : Int), .agg (bcells 64 f), .agg (bcells 64 g), .int .i64 k0] w fun e w' => e = .returned (.agg (bcells 64 (addK p f g k0))) ∧ Below w.heap.size w w' := by
  go_enter Try.func107, Try.ntmps107
  go_wp2_with fail
  have HF := Lib.hid hf; clear hf
  have HG := Lib.hid hg; clear hg
  rw [← zero64]
  go_loopw [9] (fun i wr => ∃ k : Nat, k ≤ 64 ∧ i = .int .i64 (k : Int) ∧ Below w.heap.size w wr ∧ Blk wr w.heap.size 64 23 (fun i => if i < k then addK p f g k0 i else f i) ∧ Blk wr (w.heap.size + 1) 64 23 g ∧ Blk wr (w.heap.size + 1 + 1) 64 23 (fun _ => 0)) (fun i _ => 64 - (intOf i).toNat)
  case atStart =>
    refine ⟨0, by omega, rfl, (((Below.refl _ _).alloc (Nat.le_refl _) _).alloc (by simp) _).alloc (by simp; omega) _, ?_, ?_, ?_⟩
    · exact (((Blk.new w _ _ _).alloc _).alloc _).congr (by simp)
    · have := ((Blk.new (w.alloc (.cells (bcells 64 f) 23)) 64 23 g).alloc (.cells (bcells 64 fun _ => 0) 23)); simpa using this
    · have := (Blk.new ((w.alloc (.cells (bcells 64 f) 23)).alloc (.cells (bcells 64 g) 23)) 64 23 (fun _ => 0)); simpa using this
  case round =>
    obtain ⟨k, hk, rfl, hb, h0, h1, h2⟩ := hrel
    by_cases hlt : k < 64
    · have c4 : wr.cell? ⟨w.heap.size, k, none⟩ = some (.int .u8 (f k : Int)) := by rw [h0.cell hlt]; simp
      have c5 := h1.cell hlt
      have z4 := h0.frozen k
      have b1 : f k < p := HF.out k hlt
      have b2 : g k < p := HG.out k hlt
      obtain ⟨m1, m2⟩ := small_mul k0 (g k) hk1 hk2 (by omega)
      have t1 : -(p : Int) < ((f k : Int) + k0 * (g k : Int)).tmod p := by
        have := Int.tmod_lt_of_pos (-((f k : Int) + k0 * (g k : Int))) (b := (p : Int)) (by omega)
        rw [Int.neg_tmod] at this; omega
      have t2 : ((f k : Int) + k0 * (g k : Int)).tmod p < (p : Int) := Int.tmod_lt_of_pos _ (by omega)
      have hA : Hid (((f k : Int) + k0 * (g k : Int)).tmod p % p % 256 = (addK p f g k0 k : Int)) := by
        have e1 : ((f k : Int) + k0 * (g k : Int)).tmod p % p = ((f k : Int) + k0 * (g k : Int)) % p := by rw [Int.tmod_def, Int.sub_mul_emod_self_left]
        have e2 := Int.emod_nonneg ((f k : Int) + k0 * (g k : Int)) (b := (p : Int)) (by omega)
        have e3 := Int.emod_lt_of_pos ((f k : Int) + k0 * (g k : Int)) (b := (p : Int)) (by omega)
        unfold addK
        rw [Int.toNat_of_nonneg e2, e1]
        exact Int.emod_eq_of_lt e2 (by omega)
      have hm0 : (0 : Int) ≤ ((f k : Int) + k0 * (g k : Int)).tmod p + p := by omega
      go_wp2_with fail
      go_region
      go_wp2_with fail
      go_roundw
      case rel =>
        refine ⟨k + 1, by omega, by go_num, (hb.setCell (by simp) _).drew, ?_, ?_, ?_⟩
        · exact ((h0.set (v := addK p f g k0 k) hA.out).congr (fun i _ => upd_lt (a := addK p f g k0) rfl i)).drew
        · exact (h1.setOther (by simp)).drew
        · exact (h2.setOther (by simp; omega)).drew
      case measure => simp [intOf]; omega
    · have e : k = 64 := by omega
      subst e
      go_wp2_with (first | refine wpList_load_blk rfl 23 _ rfl _ rfl 64 23 _ (h0) 5 Try.underlying23 Try.size23 ?_ | refine wpList_store_blk rfl 23 _ _ rfl _ 64 ((fun i => if i < 64 then addK p f g k0 i else f i)) rfl rfl 23 _ (h2) Try.size23 ?_)
      refine bodyPost_ret (results_blk rfl _ _ _ 64 23 5 _ rfl (h2.row _) Try.underlying23 Try.size23) rfl ⟨?_, ?_⟩
      · rw [bcells_congr (g := addK p f g k0)]
        intro i hi; simp [hi]
      · exact below_setRow hb (by omega) _
end Go.Proofs.Ytbjpkmbhbpcbgaa
end
section
namespace Go.Proofs.Ytbjpkmbhbpcbgaa
open Go.RowKit
set_option linter.unusedVariables false
theorem addK_neg {p : Nat} {f g : Nat → Nat} (hp : 0 < p) (hg : ∀ i, i < 64 → g i < p) {i : Nat} (hi : i < 64) : addK p f g (-1) i = (f i + p - g i) % p := by
  unfold addK
  have := hg i hi
  have e : ((f i : Int) + -1 * (g i : Int)) % (p : Int) = ((f i + p - g i : Nat) : Int) % (p : Int) := by
    rw [Int.natCast_sub (by omega), ← Int.add_emod_right]
    congr 1
    push_cast
    omega
  rw [e, ← Int.natCast_emod, Int.toNat_natCast]
end Go.Proofs.Ytbjpkmbhbpcbgaa
end
section
namespace Go.Proofs.Ytbjpkmbhbpcbgaa
open Go.RowKit
set_option linter.unusedVariables false
theorem okP_nat {p : Int} (h : okP p = true) : ∃ n : Nat, p = (n : Int) ∧ 2 ≤ n ∧ n ≤ 7 := by
  have := okP_le h
  exact ⟨p.toNat, by omega, by omega, by omega⟩
def degB (f : Nat → Nat) : Nat → Int
  | 0 => -1
  | n + 1 => if f n ≠ 0 then (n : Int) else degB f n
def deg (f : Nat → Nat) : Int := degB f 64
theorem degB_step {f : Nat → Nat} {k : Nat} (h : f k = 0) : degB f (k + 1) = degB f k := by simp [degB, h]
theorem degB_hit {f : Nat → Nat} {k : Nat} (h : f k ≠ 0) : degB f (k + 1) = (k : Int) := by simp [degB, h]
set_option maxHeartbeats 400000 in
theorem degree_any (f : Nat → Nat) (w : World) :
    Calls Try.prog 78 #[.agg (bcells 64 f)] w fun e w' => e = .returned (.int .i64 (deg f)) ∧ Below w.heap.size w w' := by
  go_enter Try.func78, Try.ntmps78
  go_wp2_with fail
  go_loop [3] (fun i => ∃ k : Nat, k ≤ 64 ∧ degB f 64 = degB f k ∧ i = .int .i64 ((k : Int) - 1)) (fun i => (intOf i + 1).toNat)
  case atStart => exact ⟨64, by omega, rfl, by rfl⟩
  case round =>
    obtain ⟨k, hk, hd, rfl⟩ := hrel
    have hD := Lib.hid hd; clear hd
    rcases k with _ | k
    · go_wp2
      go_ret
      exact ⟨ret_int (by rw [deg, hD.out]; rfl), (Below.refl _ _).alloc (Nat.le_refl _) _⟩
    · have hc := (Blk.new w 64 23 f).cell (i := k) (by omega)
      have e1 : ((k + 1 : Nat) : Int) - 1 = (k : Int) := by omega
      rw [e1]
      by_cases h0 : f k = 0
      · have hb : ((f k : Int) != 0) = false := by simp [h0]
        go_wp2
        go_round
        case rel => exact ⟨k, by omega, by rw [hD.out, degB_step h0], by go_num⟩
        case measure => simp [intOf]
      · have hb : ((f k : Int) != 0) = true := by simpa using h0
        go_wp2
        go_ret
        exact ⟨ret_int (by rw [deg, hD.out, degB_hit h0]), (Below.refl _ _).alloc (Nat.le_refl _) _⟩
set_option maxHeartbeats 400000 in
theorem l01Deg_any (f : Nat → Nat) (w : World) :
    Calls Try.prog 73 #[.agg (bcells 64 f)] w fun e w' => e = .returned (.int .i64 (deg f)) ∧ Below w.heap.size w w' := by
  go_enter Try.func73, Try.ntmps73
  go_wp2_with fail
  go_loop [3] (fun i => ∃ k : Nat, k ≤ 64 ∧ degB f 64 = degB f k ∧ i = .int .i64 ((k : Int) - 1)) (fun i => (intOf i + 1).toNat)
  case atStart => exact ⟨64, by omega, rfl, by rfl⟩
  case round =>
    obtain ⟨k, hk, hd, rfl⟩ := hrel
    have hD := Lib.hid hd; clear hd
    rcases k with _ | k
    · go_wp2
      go_ret
      exact ⟨ret_int (by rw [deg, hD.out]; rfl), (Below.refl _ _).alloc (Nat.le_refl _) _⟩
    · have hc := (Blk.new w 64 23 f).cell (i := k) (by omega)
      have e1 : ((k + 1 : Nat) : Int) - 1 = (k : Int) := by omega
      rw [e1]
      by_cases h0 : f k = 0
      · have hb : ((f k : Int) == 0) = true := by simp [h0]
        go_wp2
        go_round
        case rel => exact ⟨k, by omega, by rw [hD.out, degB_step h0], by go_num⟩
        case measure => simp [intOf]
      · have hb : ((f k : Int) == 0) = false := by simpa using h0
        go_wp2
        go_ret
        exact ⟨ret_int (by rw [deg, hD.out, degB_hit h0]), (Below.refl _ _).alloc (Nat.le_refl _) _⟩
end Go.Proofs.Ytbjpkmbhbpcbgaa
end
section
namespace Go.Proofs.Ytbjpkmbhbpcbgaa
open Go.RowKit
set_option linter.unusedVariables false
theorem degB_spec (f : Nat → Nat) : ∀ k, (degB f k = -1 ∧ ∀ j, j < k → f j = 0) ∨ ∃ d, d < k ∧ degB f k = (d : Int) ∧ f d ≠ 0 ∧ ∀ j, d < j → j < k → f j = 0
  | 0 => .inl ⟨rfl, fun j hj => by omega⟩
  | k + 1 => by
    by_cases h : f k = 0
    · rw [degB_step h]
      rcases degB_spec f k with ⟨e, hz⟩ | ⟨d, hd, e, hne, hz⟩
      · refine .inl ⟨e, fun j hj => ?_⟩
        by_cases hj2 : j = k
        · rw [hj2]; exact h
        · exact hz j (by omega)
      · refine .inr ⟨d, by omega, e, hne, fun j h1 h2 => ?_⟩
        by_cases hj2 : j = k
        · rw [hj2]; exact h
        · exact hz j h1 (by omega)
    · exact .inr ⟨k, by omega, degB_hit h, h, fun j h1 h2 => by omega⟩
theorem deg_spec (f : Nat → Nat) : (deg f = -1 ∧ ∀ j, j < 64 → f j = 0) ∨ ∃ d : Nat, d < 64 ∧ deg f = (d : Int) ∧ f d ≠ 0 ∧ ∀ j : Nat, d < j → j < 64 → f j = 0 := degB_spec f 64
set_option maxHeartbeats 400000 in
theorem l01In_any (n l h : Int) (w : World) : Calls Try.prog 74 #[.int .i64 n, .int .i64 l, .int .i64 h] w fun e w' => e = .returned (.bool (decide (l ≤ n ∧ n ≤ h))) ∧ w = w' := by
  by_cases h1 : l ≤ n
  · by_cases h2 : n ≤ h
    · go_enter Try.func74, Try.ntmps74
      go_wp2
      go_ret
      exact ⟨ret_bool (by simp [h1, h2]), rfl⟩
    · go_enter Try.func74, Try.ntmps74
      go_wp2
      go_ret
      exact ⟨ret_bool (by simp [h2]), rfl⟩
  · go_enter Try.func74, Try.ntmps74
    go_wp2
    go_ret
    exact ⟨ret_bool (by simp; omega), rfl⟩
theorem l01In_yes (n l h : Int) (h1 : l ≤ n ∧ n ≤ h) (w : World) : Calls Try.prog 74 #[.int .i64 n, .int .i64 l, .int .i64 h] w fun e w' => e = .returned (.bool true) ∧ w = w' :=
  (l01In_any n l h w).mono fun _ _ ⟨a, b⟩ => ⟨by rw [a, decide_eq_true h1], b⟩
theorem l01In_no (n l h : Int) (h1 : ¬ (l ≤ n ∧ n ≤ h)) (w : World) : Calls Try.prog 74 #[.int .i64 n, .int .i64 l, .int .i64 h] w fun e w' => e = .returned (.bool false) ∧ w = w' :=
  (l01In_any n l h w).mono fun _ _ ⟨a, b⟩ => ⟨by rw [a, decide_eq_false h1], b⟩
end Go.Proofs.Ytbjpkmbhbpcbgaa
end
section
namespace Go.Proofs.Ytbjpkmbhbpcbgaa
open Go.RowKit
set_option linter.unusedVariables false
/-- digit i of n at base p -/
def dgt (p n i : Nat) : Nat := n / p ^ i % p
def ofN (p : Nat) (n : Nat) : Nat → Nat := fun i => dgt p n i
end Go.Proofs.Ytbjpkmbhbpcbgaa
end
section
namespace Go.Proofs.Ytbjpkmbhbpcbgaa
open Go.RowKit
set_option linter.unusedVariables false
theorem small_nat_mul {a b p : Nat} (hp : p ≤ 7) (ha : a < p) (hb : b < p) : (a : Int) * (b : Int) ≤ 36 ∧ 0 ≤ (a : Int) * (b : Int) := by
  refine ⟨?_, Int.mul_nonneg (by omega) (by omega)⟩
  have : a * b ≤ 6 * 6 := Nat.mul_le_mul (by omega) (by omega)
  have h : ((a * b : Nat) : Int) ≤ 36 := by omega
  rwa [Int.natCast_mul] at h
end Go.Proofs.Ytbjpkmbhbpcbgaa
end
section
namespace Go.Proofs.Ytbjpkmbhbpcbgaa
/-- the coefficient at k of the product, after the rows below i -/
def cv (p : Nat) (f g : Nat → Nat) : Nat → Nat → Nat
  | 0, _ => 0
  | i + 1, k => (cv p f g i k + (if i ≤ k then f i * g (k - i) else 0)) % p
theorem cv_zero (p : Nat) (f g : Nat → Nat) (k : Nat) : cv p f g 0 k = 0 := rfl
theorem cv_succ (p : Nat) (f g : Nat → Nat) (i k : Nat) : cv p f g (i + 1) k = (cv p f g i k + (if i ≤ k then f i * g (k - i) else 0)) % p := rfl
theorem cv_lt (p : Nat) (f g : Nat → Nat) (hp : 0 < p) (i k : Nat) : cv p f g i k < p := by
  cases i with
  | zero => exact hp
  | succ i => exact Nat.mod_lt _ hp
theorem cv_same {p : Nat} {f g : Nat → Nat} (hp : 0 < p) {i k : Nat} (h : i ≤ k → f i * g (k - i) = 0) : cv p f g (i + 1) k = cv p f g i k := by
  rw [cv_succ]
  have : (if i ≤ k then f i * g (k - i) else 0) = 0 := by
    by_cases hik : i ≤ k
    · rw [if_pos hik, h hik]
    · rw [if_neg hik]
  rw [this, Nat.add_zero, Nat.mod_eq_of_lt (cv_lt p f g hp i k)]
theorem cv_hit {p : Nat} {f g : Nat → Nat} (i j : Nat) : cv p f g (i + 1) (i + j) = (cv p f g i (i + j) + f i * g j) % p := by
  rw [cv_succ, if_pos (by omega), show i + j - i = j by omega]
/-- the state inside row i, behind j cells -/
def cvr (p : Nat) (f g : Nat → Nat) (i j : Nat) : Nat → Nat := fun k => if i ≤ k ∧ k < i + j then cv p f g (i + 1) k else cv p f g i k
theorem cvr_zero (p : Nat) (f g : Nat → Nat) (i k : Nat) : cvr p f g i 0 k = cv p f g i k := by
  unfold cvr; rw [if_neg (by omega)]
theorem cvr_at (p : Nat) (f g : Nat → Nat) (i j : Nat) : cvr p f g i j (i + j) = cv p f g i (i + j) := by
  unfold cvr; rw [if_neg (by omega)]
theorem cvr_next (p : Nat) (f g : Nat → Nat) (i j : Nat) : ∀ k, upd (cvr p f g i j) (i + j) (cv p f g (i + 1) (i + j)) k = cvr p f g i (j + 1) k := by
  intro k
  unfold upd cvr
  by_cases h : k = i + j
  · subst h; rw [if_pos rfl, if_pos (by omega)]
  · rw [if_neg h]
    by_cases h2 : i ≤ k ∧ k < i + j
    · rw [if_pos h2, if_pos (by omega)]
    · rw [if_neg h2, if_neg (by omega)]
theorem cvr_full {p : Nat} {f g : Nat → Nat} (hp : 0 < p) {i m : Nat} (hg : ∀ j, m ≤ j → g j = 0) (k : Nat) : cvr p f g i m k = cv p f g (i + 1) k := by
  unfold cvr
  by_cases h : i ≤ k ∧ k < i + m
  · rw [if_pos h]
  · rw [if_neg h]
    symm
    apply cv_same hp
    intro hik
    rw [hg (k - i) (by omega), Nat.mul_zero]
theorem cv_skip {p : Nat} {f g : Nat → Nat} (hp : 0 < p) {i : Nat} (hf : f i = 0) (k : Nat) : cv p f g (i + 1) k = cv p f g i k :=
  cv_same hp (fun _ => by rw [hf, Nat.zero_mul])
theorem cv_stop {p : Nat} {f g : Nat → Nat} (hp : 0 < p) {n : Nat} (hf : ∀ i, n ≤ i → f i = 0) (k : Nat) : ∀ d, cv p f g (n + d) k = cv p f g n k
  | 0 => rfl
  | d + 1 => by
    rw [show n + (d + 1) = (n + d) + 1 by omega, cv_skip hp (hf _ (by omega)), cv_stop hp hf k d]
/-- the product -/
def prd (p : Nat) (f g : Nat → Nat) : Nat → Nat := fun k => cv p (cut f) (cut g) 64 k
theorem cut_zero (f : Nat → Nat) {i : Nat} (h : 64 ≤ i) : cut f i = 0 := by unfold cut; rw [if_neg (by omega)]
theorem cut_in (f : Nat → Nat) {i : Nat} (h : i < 64) : cut f i = f i := by unfold cut; rw [if_pos h]
theorem prd_rows {p : Nat} {f g : Nat → Nat} (hp : 0 < p) {n : Nat} (hn : n ≤ 64) (hf : ∀ i, n ≤ i → i < 64 → f i = 0) (k : Nat) : prd p f g k = cv p (cut f) (cut g) n k := by
  have := cv_stop (f := cut f) (g := cut g) hp (n := n) (fun i hi => by
    by_cases h : i < 64
    · rw [cut_in f h]; exact hf i hi h
    · exact cut_zero f (by omega)) k (64 - n)
  rw [show n + (64 - n) = 64 by omega] at this
  exact this
end Go.Proofs.Ytbjpkmbhbpcbgaa
end
section
namespace Go.Proofs.Ytbjpkmbhbpcbgaa
open Go.RowKit
set_option linter.unusedVariables false
attribute [local irreducible] deg
theorem Try.size118 : (Try.prog.info? 118).map (·.size) = some 128 := by kernel_rfl
theorem zero128 : bcells 128 (fun _ => 0) = Try.zeroCells118 := by simp only [bcells, bl]; kernel_rfl
set_option maxRecDepth 100000 in
set_option maxHeartbeats 3200000 in
theorem wideProduct_any (p : Nat) (f g : Nat → Nat) (w : World) (hp1 : 2 ≤ p) (hp2 : p ≤ 7) (hf : ∀ i, i < 64 → f i < p) (hg : ∀ i, i < 64 → g i < p) :
    Calls Try.prog 151 #[.int .i64 (p : Int), .agg (bcells 64 f), .agg (bcells 64 g)] w fun e w' => e = .returned (.agg (bcells 128 (prd p f g))) ∧ Below w.heap.size w w' := by
  obtain ⟨n, hn, hdn, hfz⟩ : ∃ n : Nat, n ≤ 64 ∧ deg f + 1 = (n : Int) ∧ ∀ i, n ≤ i → i < 64 → f i = 0 := by
    rcases deg_spec f with ⟨e, hz⟩ | ⟨d, hd, e, hne, hz⟩
    · exact ⟨0, by omega, by rw [e]; rfl, fun i _ h => hz i h⟩
    · exact ⟨d + 1, by omega, by rw [e]; push_cast; rfl, fun i h1 h2 => hz i (by omega) h2⟩
  obtain ⟨m, hm, hdm, hgz⟩ : ∃ m : Nat, m ≤ 64 ∧ deg g + 1 = (m : Int) ∧ ∀ i, m ≤ i → i < 64 → g i = 0 := by
    rcases deg_spec g with ⟨e, hz⟩ | ⟨d, hd, e, hne, hz⟩
    · exact ⟨0, by omega, by rw [e]; rfl, fun i _ h => hz i h⟩
    · exact ⟨d + 1, by omega, by rw [e]; push_cast; rfl, fun i h1 h2 => hz i (by omega) h2⟩
  have hdgb1 : 0 ≤ deg g + 1 := by omega
  have hdgb2 : deg g + 1 ≤ 64 := by omega
  have hdfb1 : 0 ≤ deg f + 1 := by omega
  have hdfb2 : deg f + 1 ≤ 64 := by omega
  have HF := Lib.hid hf; clear hf
  have HG := Lib.hid hg; clear hg
  have HFZ := Lib.hid hfz; clear hfz
  have HGZ := Lib.hid hgz; clear hgz
  go_enter Try.func151, Try.ntmps151
  have HN := Lib.hid hdn; have HM := Lib.hid hdm; clear hdn hdm
  go_upto_region 2 with (fail)
  rw [← zero128]
  obtain ⟨wo, hwo⟩ : ∃ wo : World, wo = (((w.alloc (.cells (bcells 64 f) 23)).alloc (.cells (bcells 64 g) 23)).alloc (.cells (bcells 128 fun _ => 0) 118)).alloc (.cells (bcells 128 fun _ => 0) 118) := ⟨_, rfl⟩
  have b0 : Blk wo w.heap.size 64 23 f := by subst hwo; exact (((Blk.new w _ _ _).alloc _).alloc _).alloc _
  have b1 : Blk wo (w.heap.size + 1) 64 23 g := by subst hwo; have := ((Blk.new (w.alloc (.cells (bcells 64 f) 23)) 64 23 g).alloc (.cells (bcells 128 fun _ => 0) 118)).alloc (.cells (bcells 128 fun _ => 0) 118); simpa using this
  have b2 : Blk wo (w.heap.size + 1 + 1) 128 118 (fun _ => 0) := by subst hwo; have := (Blk.new ((w.alloc (.cells (bcells 64 f) 23)).alloc (.cells (bcells 64 g) 23)) 128 118 (fun _ => 0)).alloc (.cells (bcells 128 fun _ => 0) 118); simpa using this
  have b3 : Blk wo (w.heap.size + 1 + 1 + 1) 128 118 (fun _ => 0) := by subst hwo; have := (Blk.new (((w.alloc (.cells (bcells 64 f) 23)).alloc (.cells (bcells 64 g) 23)).alloc (.cells (bcells 128 fun _ => 0) 118)) 128 118 (fun _ => 0)); simpa using this
  have hb : Below w.heap.size w wo := by subst hwo; exact ((((Below.refl _ _).alloc (Nat.le_refl _) _).alloc (by simp) _).alloc (by simp; omega) _).alloc (by simp; omega) _
  rw [← hwo]
  clear hwo
  have ha : Below wo.heap.size wo wo := Below.refl _ _
  go_wp2_with (first | refine wpList_load_blk rfl 23 _ rfl _ rfl 64 23 _ (b1.below (by assumption) b1.lt) 5 Try.underlying23 Try.size23 ?_ | refine wpList_load_blk rfl 23 _ rfl _ rfl 64 23 _ (b0.below (by assumption) b0.lt) 5 Try.underlying23 Try.size23 ?_ | (go_at_call 78; refine (acc (degree_any _ _) (by assumption)).mono ?_; rintro e w1 ⟨rfl, h1, ha⟩))
  have hgm : deg g = (m : Int) - 1 := by have := HM.out; omega
  rw [HN.out, hgm]
  clear hgm hdgb1 hdgb2 hdfb1 hdfb2
  replace hb := hb.trans (ha.mono hb.size)
  replace b0 := b0.below ha b0.lt
  replace b1 := b1.below ha b1.lt
  replace b2 := b2.below ha b2.lt
  replace b3 := b3.below ha b3.lt
  clear ha h1
  go_loopw [16] (fun c wr => ∃ i : Nat, i ≤ n ∧ c = .int .i64 (i : Int) ∧ Below w.heap.size w wr ∧ Blk wr w.heap.size 64 23 f ∧ Blk wr (w.heap.size + 1) 64 23 g ∧ Blk wr (w.heap.size + 1 + 1) 128 118 (fun _ => 0) ∧ Blk wr (w.heap.size + 1 + 1 + 1) 128 118 (cv p (cut f) (cut g) i)) (fun c _ => n - (intOf c).toNat)
  case atStart => exact ⟨0, by omega, rfl, hb, b0, b1, b2, b3.congr (fun k _ => by rw [cv_zero])⟩
  case round =>
    clear hb b0 b1 b2 b3
    obtain ⟨i, hi, rfl, hb, b0, b1, b2, b3⟩ := hrel
    by_cases hlt : i < n
    · go_wp2_with fail
      obtain ⟨wi, rfl⟩ : ∃ v : World, v = wr := ⟨_, rfl⟩
      have b3' := b3.congr (fun k _ => (cvr_zero p (cut f) (cut g) i k).symm)
      clear b3
      go_loopw [21] (fun c wr => ∃ j : Nat, j ≤ m ∧ c = .int .i64 (j : Int) ∧ Below w.heap.size w wr ∧ Blk wr w.heap.size 64 23 f ∧ Blk wr (w.heap.size + 1) 64 23 g ∧ Blk wr (w.heap.size + 1 + 1) 128 118 (fun _ => 0) ∧ Blk wr (w.heap.size + 1 + 1 + 1) 128 118 (cvr p (cut f) (cut g) i j)) (fun c _ => m - (intOf c).toNat)
      case atStart => exact ⟨0, by omega, rfl, hb, b0, b1, b2, b3'⟩
      case round =>
        clear hb b0 b1 b2 b3'
        obtain ⟨j, hj, rfl, hb, b0, b1, b2, b3⟩ := hrel
        by_cases hltj : j < m
        · have c0 := b0.cell (i := i) (by omega)
          have c1 := b1.cell (i := j) (by omega)
          have c3 : wr.cell? ⟨w.heap.size + 1 + 1 + 1, i + j, none⟩ = some (.int .u8 (cv p (cut f) (cut g) i (i + j) : Int)) := by rw [b3.cell (by omega), cvr_at]
          have z3 := b3.frozen (i + j)
          have hij : ((i : Int) + (j : Int)).toNat = i + j := by omega
          have v1 : f i < p := HF.out i (by omega)
          have v2 : g j < p := HG.out j (by omega)
          have v3 := cv_lt p (cut f) (cut g) (by omega) i (i + j)
          obtain ⟨m1, m2⟩ := small_nat_mul hp2 v1 v2
          have HE := Lib.hid (show (cv p (cut f) (cut g) (i + 1) (i + j) : Int) = ((cv p (cut f) (cut g) i (i + j) : Int) + (f i : Int) * (g j : Int)) % (p : Int) by rw [cv_hit, cut_in f (by omega), cut_in g (by omega)]; push_cast; rfl)
          go_wp2_with fail
          go_region
          go_wp2_with fail
          go_roundw
          case rel =>
            refine ⟨j + 1, by omega, by go_num, (hb.setCell (by simp; omega) _).drew, (b0.setOther (by simp <;> omega)).drew, (b1.setOther (by simp <;> omega)).drew, (b2.setOther (by simp <;> omega)).drew, ?_⟩
            exact ((b3.set (v := cv p (cut f) (cut g) (i + 1) (i + j)) HE.out.symm).congr (fun k _ => cvr_next p (cut f) (cut g) i j k)).drew
          case measure => simp [intOf] <;> omega
        · have e : j = m := by omega
          subst e
          go_wp2_with fail
          go_roundw
          case rel =>
            refine ⟨i + 1, by omega, by go_num, hb, b0, b1, b2, b3.congr (fun k _ => cvr_full (by omega) (fun q hq => ?_) k)⟩
            by_cases h64 : q < 64
            · rw [cut_in g h64]; exact HGZ.out q hq h64
            · exact cut_zero g (by omega)
          case measure => simp [intOf] <;> omega
    · have e : i = n := by omega
      subst e
      go_wp2_with (first | refine wpList_load_blk rfl 118 _ rfl _ rfl 128 118 _ (b3) 5 Try.underlying118 Try.size118 ?_ | refine wpList_store_blk rfl 118 _ _ rfl _ 128 (_) rfl rfl 118 _ (b2) Try.size118 ?_)
      refine bodyPost_ret (results_blk rfl _ _ _ 128 118 5 _ rfl (b2.row _) Try.underlying118 Try.size118) rfl ⟨?_, below_setRow hb (by omega) _⟩
      rw [bcells_congr (fun k _ => prd_rows (by omega) hn HFZ.out k)]
end Go.Proofs.Ytbjpkmbhbpcbgaa
end
section
namespace Go.Proofs.Ytbjpkmbhbpcbgaa
open Go.RowKit
def setL (L : Nat → Bool) (i : Nat) : Nat → Bool := fun j => if j = i then true else L j
def updV (v : Nat → Value) (i : Nat) (y : Value) : Nat → Value := fun j => if j = i then y else v j
/-- the frame a0 with the value v i laid into the slot of operation i, for each i -/
def frL (a0 : Act) : List Oper → Nat → (Nat → Value) → Act
  | [], _, _ => a0
  | o :: os, k, v => frL (a0.put o.dst (v k)) os (k + 1) v
def fr (a0 : Act) (ops : Array Oper) (v : Nat → Value) : Act := frL a0 ops.toList 0 v

/-- all later edges lead back; no slot is written twice -/
def edgesOk (ops : Array Oper) : Bool := (List.range ops.size).all fun i => (ops[i]?.map fun o => o.after.all fun e => !Region.binds .any e || decide (e.on < i)).getD true
def dstsOkL : List Oper → Bool
  | [] => true
  | o :: os => (match o.dst with | none => true | some d => os.all fun q => q.dst != some d) && dstsOkL os
theorem put_comm {a : Act} {d e : Option Tmp} {x y : Value} (h : d = none ∨ d ≠ e) : (a.put d x).put e y = (a.put e y).put d x := by
  cases d with
  | none => cases e <;> rfl
  | some d =>
    cases e with
    | none => rfl
    | some e =>
      have hne : d ≠ e := by
        rcases h with h | h
        · cases h
        · exact fun h' => h (by rw [h'])
      simp only [Act.put]
      congr 1
      apply Array.ext_getElem?
      intro j
      simp only [Array.getElem?_setIfInBounds, Array.size_setIfInBounds]
      by_cases h1 : e = j <;> by_cases h2 : d = j <;> simp_all
theorem put_twice {a : Act} {d : Option Tmp} {x y : Value} : (a.put d x).put d y = a.put d y := by
  cases d with
  | none => rfl
  | some d => simp [Act.put]
theorem frL_congr : ∀ (os : List Oper) (a0 : Act) (k : Nat) (v v' : Nat → Value), (∀ j, k ≤ j → v j = v' j) → frL a0 os k v = frL a0 os k v'
  | [], _, _, _, _, _ => rfl
  | o :: os, a0, k, v, v', h => by
    simp only [frL]
    rw [h k (Nat.le_refl _)]
    exact frL_congr os _ (k + 1) v v' fun j hj => h j (by omega)
theorem frL_put : ∀ (os : List Oper) (a0 : Act) (k : Nat) (v : Nat → Value) (d : Option Tmp) (y : Value), (d = none ∨ os.all (fun q => q.dst != d) = true) → (frL a0 os k v).put d y = frL (a0.put d y) os k v
  | [], _, _, _, _, _, _ => rfl
  | o :: os, a0, k, v, d, y, h => by
    simp only [frL]
    have h' : d = none ∨ os.all (fun q => q.dst != d) = true := by
      rcases h with h | h
      · exact .inl h
      · simp only [List.all_cons, Bool.and_eq_true] at h; exact .inr h.2
    rw [frL_put os _ (k + 1) v d y h']
    congr 1
    rcases h with h | h
    · subst h; rfl
    · simp only [List.all_cons, Bool.and_eq_true] at h
      have : o.dst ≠ d := by simpa using h.1
      exact put_comm (.inr this)
theorem frL_step : ∀ (os : List Oper) (a0 : Act) (k : Nat) (v : Nat → Value) (i : Nat) (o : Oper) (y : Value), dstsOkL os = true → os[i]? = some o → (frL a0 os k v).put o.dst y = frL a0 os k (updV v (k + i) y)
  | [], _, _, _, _, _, _, _, h => by simp at h
  | p :: os, a0, k, v, 0, o, y, hd, h => by
    simp only [List.getElem?_cons_zero, Option.some.injEq] at h
    subst h
    simp only [dstsOkL, Bool.and_eq_true] at hd
    have h' : p.dst = none ∨ os.all (fun q => q.dst != p.dst) = true := by
      cases hp : p.dst with
      | none => exact .inl rfl
      | some d => right; have := hd.1; rw [hp] at this; exact this
    simp only [frL, Nat.add_zero]
    rw [frL_put os _ (k + 1) v p.dst y h', put_twice]
    have : updV v k y k = y := by simp [updV]
    rw [this]
    exact frL_congr os _ (k + 1) _ _ fun j hj => by simp [updV, show j ≠ k by omega]
  | p :: os, a0, k, v, i + 1, o, y, hd, h => by
    simp only [dstsOkL, Bool.and_eq_true] at hd
    simp only [List.getElem?_cons_succ] at h
    simp only [frL]
    rw [frL_step os _ (k + 1) v i o y hd.2 h]
    have e1 : updV v (k + (i + 1)) y k = v k := by simp [updV]
    have e2 : k + 1 + i = k + (i + 1) := by omega
    rw [e1, e2]
theorem put_self {a : Act} {d : Option Tmp} : (a.put d ((d.map fun t => a.tmps.getD t undef).getD undef)) = a := by
  cases d with
  | none => rfl
  | some d =>
    simp only [Act.put, Option.map_some, Option.getD_some]
    cases a with
    | mk t ds =>
      congr 1
      apply Array.ext_getElem?
      intro j
      simp only [Array.getElem?_setIfInBounds]
      by_cases h : d = j
      · subst h
        by_cases hs : d < t.size <;> simp [hs]
      · simp [h]
theorem frL_start : ∀ (os : List Oper) (a0 : Act) (k : Nat) (v : Nat → Value), (∀ i o, os[i]? = some o → v (k + i) = ((o.dst.map fun t => a0.tmps.getD t undef).getD undef)) → frL a0 os k v = a0
  | [], _, _, _, _ => rfl
  | o :: os, a0, k, v, h => by
    simp only [frL]
    have h0 := h 0 o rfl
    rw [Nat.add_zero] at h0
    rw [h0, put_self]
    exact frL_start os a0 (k + 1) v fun i p hp => by
      have := h (i + 1) p (by simpa using hp)
      rw [show k + 1 + i = k + (i + 1) by omega]
      exact this
section
variable {P : Program} {ops : Array Oper} {Q : Exit → Act → World → Prop}
/-- what is asked of operation i -/
def StepOk (P : Program) (ops : Array Oper) (Q : Exit → Act → World → Prop) (a0 : Act) (Ψ : (Nat → Bool) → (Nat → Value) → World → Prop) (i : Nat) (o : Oper) : Prop :=
  ∀ (L : Nat → Bool) (v : Nat → Value) (w : World), (∀ e, e ∈ o.after → Region.binds .any e = true → L e.on = true) →
    (∀ j p, ops[j]? = some p → L j = true → ∀ e, e ∈ p.after → Region.binds .any e = true → e.on ≠ i) → Ψ L v w →
    ∀ K : Act → World → Prop, (∀ a' y w', a' = (fr a0 ops v).put o.dst y → Ψ (setL L i) (updV v i y) w' → K a' w') →
      if Region.wanted o (yielded ops (fr a0 ops v).tmps) = true then Oper.wp P o (fr a0 ops v) w K Q else K ((fr a0 ops v).put o.dst undef) w

theorem wpAny_inv {a0 : Act} {Ψ : (Nat → Bool) → (Nat → Value) → World → Prop} (hd : dstsOkL ops.toList = true) (he : edgesOk ops = true)
    (hstep : ∀ i o, ops[i]? = some o → StepOk P ops Q a0 Ψ i o)
    (hend : ∀ L v w, (∀ i, i < ops.size → L i = true) → Ψ L v w → Q .normal (fr a0 ops v) w) :
    ∀ (fuel : Nat) (listed : Array Bool) (v : Nat → Value) (w : World), listed.size = ops.size → (listed.toList.filter (!·)).length = fuel → Ψ (fun j => listed.getD j false) v w →
      (∀ j p, ops[j]? = some p → listed.getD j false = true → ∀ e, e ∈ p.after → Region.binds .any e = true → listed.getD e.on false = true) →
      wpAny P .any ops Q fuel listed (fr a0 ops v) w := by
  have hall : ∀ listed : Array Bool, listed.size = ops.size → Region.ready .any ops listed = [] → ∀ i, i < ops.size → listed.getD i false = true := by
    intro listed hs hr i
    induction i using Nat.strongRecOn with
    | _ i ih =>
      intro hi
      cases hb : listed.getD i false with
      | true => rfl
      | false =>
        exfalso
        have hmem : i ∈ Region.ready .any ops listed := by
          unfold Region.ready
          simp only [List.mem_filter, List.mem_range, hi, true_and, Bool.and_eq_true]
          have ho : ops[i]? = some ops[i] := Array.getElem?_eq_getElem hi
          constructor
          · have : listed.getD i true = false := by
              have h2 : i < listed.size := by omega
              simpa [Array.getD, h2] using hb
            simp [this]
          · rw [ho]
            simp only [Option.map_some, Option.getD_some, Array.all_eq_true_iff_forall_mem]
            intro e hem
            have hE := he
            unfold edgesOk at hE
            rw [List.all_eq_true] at hE
            have := hE i (by simpa using hi)
            rw [ho] at this
            simp only [Option.map_some, Option.getD_some, Array.all_eq_true_iff_forall_mem] at this
            have h3 := this e hem
            cases hbd : Region.binds .any e with
            | false => simp
            | true =>
              simp only [hbd, Bool.not_true, Bool.false_or, decide_eq_true_eq] at h3
              simp [ih e.on h3 (by omega)]
        rw [hr] at hmem
        cases hmem
  intro fuel
  induction fuel with
  | zero =>
    intro listed v w hs hc hI _
    have hl : ∀ i, i < ops.size → listed.getD i false = true := by
      intro i hi
      have h2 : i < listed.size := by omega
      cases hb : listed[i] with
      | true => simp [Array.getD, h2, hb]
      | false =>
        exfalso
        have : false ∈ listed.toList.filter (!·) := by
          rw [List.mem_filter]
          exact ⟨by rw [← hb]; simp, rfl⟩
        rw [List.length_eq_zero_iff.1 hc] at this
        cases this
    refine ⟨?_, hend _ v w hl hI⟩
    unfold Region.ready
    rw [List.filter_eq_nil_iff]
    intro i hi
    have hi' : i < ops.size := by simpa using hi
    have h2 : i < listed.size := by omega
    have := hl i hi'
    have h4 : listed.getD i true = true := by simpa [Array.getD, h2] using this
    simp [h4]
  | succ fuel ih =>
    intro listed v w hs hc hI hcl
    refine ⟨fun hr => hend _ v w (hall listed hs hr) hI, ?_⟩
    intro i hi
    unfold Region.ready at hi
    simp only [List.mem_filter, List.mem_range, Bool.and_eq_true] at hi
    obtain ⟨hin, hnl, haf⟩ := hi
    have ho : ops[i]? = some ops[i] := Array.getElem?_eq_getElem hin
    rw [ho] at haf
    simp only [Option.map_some, Option.getD_some, Array.all_eq_true_iff_forall_mem] at haf
    have h2 : i < listed.size := by omega
    have hfalse : listed[i] = false := by
      have : listed.getD i true = false := by simpa using hnl
      simpa [Array.getD, h2] using this
    refine wpOp_step ho fun K' hK => ?_
    refine hstep i _ ho _ v w ?_ ?_ hI K' ?_
    · intro e hem hb
      have := haf e hem
      simpa [hb] using this
    · intro j p hp hj e hem hb he'
      have := hcl j p hp hj e hem hb
      rw [he'] at this
      simp [Array.getD, h2, hfalse] at this
    · intro a' y w' ha' hΨ
      subst ha'
      refine hK _ _ ?_
      have hst : (fr a0 ops v).put ops[i].dst y = fr a0 ops (updV v i y) := by
        have := frL_step ops.toList a0 0 v i ops[i] y hd (by simp [hin])
        rw [Nat.zero_add] at this
        exact this
      rw [hst]
      have e : (fun j => (listed.setIfInBounds i true).getD j false) = setL (fun j => listed.getD j false) i := by
        funext j
        unfold setL
        by_cases h : j = i
        · subst h; simp [Array.getD, h2]
        · have h' : ¬ i = j := fun e => h e.symm
          simp only [h, if_false, Array.getD, Array.size_setIfInBounds]
          by_cases h3 : j < listed.size
          · simp [h3, h']
          · simp [h3]
      refine ih _ _ _ (by simpa using hs) ?_ ?_ ?_
      · have : ∀ (l : List Bool) (i : Nat) (h : i < l.length), l[i] = false → ((l.set i true).filter (!·)).length + 1 = (l.filter (!·)).length := by
          intro l
          induction l with
          | nil => intro i h; simp at h
          | cons b l ihl =>
            intro i h hf
            cases i with
            | zero => simp at hf; subst hf; simp
            | succ i =>
              simp only [List.set_cons_succ]
              have := ihl i (by simpa using h) (by simpa using hf)
              cases b <;> simp <;> omega
        have := this listed.toList i (by simpa using h2) (by simpa using hfalse)
        rw [Array.toList_setIfInBounds]
        omega
      · rw [e]
        exact hΨ
      · intro j p hp hj e2 hem hb
        have ej := congrFun e j
        have ee := congrFun e e2.on
        skip
        rw [ej] at hj
        rw [ee]
        unfold setL at hj ⊢
        by_cases h1 : e2.on = i
        · simp [h1]
        · simp only [h1, if_false]
          by_cases h2 : j = i
          · subst h2
            rw [ho] at hp
            simp only [Option.some.injEq] at hp
            subst hp
            have := haf e2 hem
            simpa [hb] using this
          · simp only [h2, if_false] at hj
            exact hcl j p hp hj e2 hem hb

theorem wp_region_psi {id : Nat} {a0 : Act} {w : World} (hm : P.follows .mixedOrders = true) (hd : dstsOkL ops.toList = true) (he : edgesOk ops = true)
    (Ψ : (Nat → Bool) → (Nat → Value) → World → Prop) (h0 : ∀ v, Ψ (fun _ => false) v w.drew)
    (hstep : ∀ i o, ops[i]? = some o → StepOk P ops Q a0 Ψ i o)
    (hend : ∀ L v w, (∀ i, i < ops.size → L i = true) → Ψ L v w → Q .normal (fr a0 ops v) w) : (Code.region id ops true).wp P Q a0 w := by
  refine wp_region_any hm ?_
  have hfr : fr a0 ops (fun i => ((ops[i]?.bind (·.dst)).map fun t => a0.tmps.getD t undef).getD undef) = a0 := by
    refine frL_start _ _ _ _ fun i o ho => ?_
    have ho' : ops[i]? = some o := by simpa using ho
    simp [ho']
  have key := wpAny_inv (P := P) (Q := Q) hd he hstep hend ops.size (Array.replicate ops.size false) (fun i => ((ops[i]?.bind (·.dst)).map fun t => a0.tmps.getD t undef).getD undef) w.drew (by simp) (by simp) (by
    have e : (fun j => (Array.replicate ops.size false).getD j false) = fun _ => false := by
      funext j; simp [Array.getD]
    rw [e]; exact h0 _) (by
    intro j p _ hj
    simp [Array.getD] at hj)
  rw [hfr] at key
  exact key

/-- what is asked of operation i, no guard before it; F: the frame, written out -/
def StepU (P : Program) (ops : Array Oper) (Q : Exit → Act → World → Prop) (F : (Nat → Value) → Act) (Ψ : (Nat → Bool) → (Nat → Value) → World → Prop) (i : Nat) (o : Oper) : Prop :=
  ∀ (L : Nat → Bool) (v : Nat → Value) (w : World), (∀ e, e ∈ o.after → Region.binds .any e = true → L e.on = true) →
    (∀ j p, ops[j]? = some p → L j = true → ∀ e, e ∈ p.after → Region.binds .any e = true → e.on ≠ i) → Ψ L v w →
    ∀ K : Act → World → Prop, (∀ a' y w', a' = (F v).put o.dst y → Ψ (setL L i) (updV v i y) w' → K a' w') → Oper.wp P o (F v) w K Q
inductive Steps (P : Program) (ops : Array Oper) (Q : Exit → Act → World → Prop) (F : (Nat → Value) → Act) (Ψ : (Nat → Bool) → (Nat → Value) → World → Prop) : List Oper → Nat → Prop
  | nil (k : Nat) : Steps P ops Q F Ψ [] k
  | cons {o : Oper} {os : List Oper} {k : Nat} (hg : o.guard = none) (h : StepU P ops Q F Ψ k o) (hs : Steps P ops Q F Ψ os (k + 1)) : Steps P ops Q F Ψ (o :: os) k
theorem steps_of {F : (Nat → Value) → Act} {Ψ : (Nat → Bool) → (Nat → Value) → World → Prop} : ∀ (os : List Oper) (k : Nat), Steps P ops Q F Ψ os k → ∀ i o, os[i]? = some o → o.guard = none ∧ StepU P ops Q F Ψ (k + i) o
  | [], _, _, _, _, h => by simp at h
  | p :: os, k, hs, 0, o, h => by
    simp only [List.getElem?_cons_zero, Option.some.injEq] at h
    subst h
    cases hs with
    | cons hg h _ => exact ⟨hg, h⟩
  | p :: os, k, hs, i + 1, o, h => by
    cases hs with
    | cons _ _ hs =>
      have := steps_of os (k + 1) hs i o (by simpa using h)
      rwa [show k + 1 + i = k + (i + 1) by omega] at this
theorem wp_region_steps {os : List Oper} {id : Nat} {a0 : Act} {w : World} (hm : P.follows .mixedOrders = true) (hd : dstsOkL os = true) (he : edgesOk os.toArray = true)
    {F : (Nat → Value) → Act} (hF : ∀ v, frL a0 os 0 v = F v)
    (Ψ : (Nat → Bool) → (Nat → Value) → World → Prop) (h0 : ∀ v, Ψ (fun _ => false) v w.drew)
    (hstep : Steps P os.toArray Q F Ψ os 0)
    (hend : ∀ L v w, (∀ i, i < os.length → L i = true) → Ψ L v w → Q .normal (F v) w) : (Code.region id os.toArray true).wp P Q a0 w := by
  refine wp_region_psi hm (by simpa using hd) he Ψ h0 (fun i o ho => ?_) (fun L v w hL hΨ => ?_)
  · obtain ⟨hg, hs⟩ := steps_of _ _ hstep i o (by simpa using ho)
    rw [Nat.zero_add] at hs
    intro L v w h1 h2 h3 K hK
    have hw : Region.wanted o (yielded os.toArray (fr a0 os.toArray v).tmps) = true := by simp [Region.wanted, hg]
    rw [if_pos hw]
    have hf : fr a0 os.toArray v = F v := hF v
    rw [hf] at hK ⊢
    exact hs L v w h1 h2 h3 K hK
  · have hf : fr a0 os.toArray v = F v := hF v
    rw [hf]
    exact hend L v w (by simpa using hL) hΨ
end
end Go.Proofs.Ytbjpkmbhbpcbgaa
end
section
namespace Go.Proofs.Ytbjpkmbhbpcbgaa
open Go.RowKit
set_option linter.unusedVariables false
set_option linter.unusedSimpArgs false
attribute [local irreducible] deg
theorem Blk.pre {w : World} {b n m : Nat} {t : TypeId} {f : Nat → Nat} (h : Blk w b n t f) (hm : m ≤ n) : w.rangeAt b 0 (bl m f) := by
  intro j v hv
  have hj : j < m := by
    have := (List.getElem?_eq_some_iff.1 hv).1
    rwa [bl_length] at this
  have e : (bl m f)[j]? = some (.int .u8 (f j : Int)) := by have := bcells_get (f := f) hj; simpa using this
  rw [e] at hv
  injection hv with hv
  subst hv
  rw [Nat.zero_add]
  exact h.cell (by omega)
set_option maxRecDepth 100000 in
set_option maxHeartbeats 1600000 in
theorem product_any (p : Nat) (f g : Nat → Nat) (w : World) (hp1 : 2 ≤ p) (hp2 : p ≤ 7) (hf : ∀ i, i < 64 → f i < p) (hg : ∀ i, i < 64 → g i < p) :
    Calls Try.prog 80 #[.int .i64 (p : Int), .agg (bcells 64 f), .agg (bcells 64 g)] w fun e w' => e = .returned (.agg (bcells 64 (prd p f g))) ∧ Below w.heap.size w w' := by
  go_enter Try.func80, Try.ntmps80
  go_upto_region 1 with (fail)
  obtain ⟨wo, hwo⟩ : ∃ wo : World, wo = (((w.alloc (.cells (bcells 64 f) 23)).alloc (.cells (bcells 64 g) 23)).alloc (.cells (bcells 64 fun _ => 0) 23)) := ⟨_, rfl⟩
  have b0 : Blk wo (w.heap.size) 64 23 f := by subst hwo; have := (((Blk.new w 64 23 f).alloc (.cells (bcells 64 g) 23)).alloc (.cells (bcells 64 fun _ => 0) 23)); simpa using this
  have b1 : Blk wo (w.heap.size + 1) 64 23 g := by subst hwo; have := ((Blk.new (w.alloc (.cells (bcells 64 f) 23)) 64 23 g).alloc (.cells (bcells 64 fun _ => 0) 23)); simpa using this
  have b2 : Blk wo (w.heap.size + 1 + 1) 64 23 (fun _ => 0) := by subst hwo; have := (Blk.new ((w.alloc (.cells (bcells 64 f) 23)).alloc (.cells (bcells 64 g) 23)) 64 23 (fun _ => 0)); simpa using this
  have hb : Below w.heap.size w wo := by subst hwo; exact ((((Below.refl _ _).alloc (Nat.le_refl _) _).alloc (by simp) _).alloc (by simp; omega) _)
  rw [← zero64, ← hwo]
  clear hwo
  go_upto_region 2 with (first | refine wpList_load_blk rfl 23 _ rfl _ rfl 64 23 _ (b0) 5 Try.underlying23 Try.size23 ?_ | refine wpList_load_blk rfl 23 _ rfl _ rfl 64 23 _ (b1) 5 Try.underlying23 Try.size23 ?_ | (go_at_call 151; refine (wideProduct_any p f g _ hp1 hp2 hf hg).mono ?_; rintro e w1 ⟨rfl, h1⟩) | (refine wpList_store_new rfl 118 _ _ rfl _ 118 128 (prd p f g) rfl rfl (by rw [← zero128, bcells_size]) Try.size118 ?_))
  have hq := (Blk.new w1 128 118 (prd p f g)).pre (m := 64) (by omega)
  replace b2 := (b2.below h1 b2.lt).alloc (.cells (bcells 128 (prd p f g)) 118)
  replace hb := hb.trans ((h1.trans ((below_alloc' w1 (.cells (bcells 128 (prd p f g)) 118)).mono h1.size)).mono hb.size)
  have hat := fun (W : World) (a : Option Addr) => run_arrayAt (P := Try.prog) (w := W) 23 5 64 a 64 128 Try.underlying23 (by omega)
  go_wp2_with (first | (refine wpList_load_mid rfl 23 _ rfl _ 0 rfl _ _ hq Try.underlying23 rfl (by rw [bl_length]; exact Try.size23) ?_) | refine wpList_store_blk rfl 23 _ _ rfl _ 64 (_) rfl rfl 23 _ (b2) Try.size23 ?_)
  refine bodyPost_ret (results_blk rfl _ _ _ 64 23 5 _ rfl (b2.row _) Try.underlying23 Try.size23) rfl ⟨rfl, below_setRow hb (by omega) _⟩
theorem deg_bounds (f : Nat → Nat) : -1 ≤ deg f ∧ deg f ≤ 63 := by
  rcases deg_spec f with ⟨e, _⟩ | ⟨d, hd, e, _⟩ <;> omega
theorem prd_zero_left {p : Nat} {f g : Nat → Nat} (hp : 0 < p) (h : ∀ i, i < 64 → f i = 0) (k : Nat) : prd p f g k = 0 := by
  rw [prd_rows hp (n := 0) (by omega) (fun i _ hi => h i hi), cv_zero]
theorem prd_zero_right {p : Nat} {f g : Nat → Nat} (hp : 0 < p) (h : ∀ i, i < 64 → g i = 0) (k : Nat) : prd p f g k = 0 := by
  have : ∀ n, cv p (cut f) (cut g) n k = 0 := by
    intro n
    induction n with
    | zero => rfl
    | succ n ih =>
      have hz : ∀ j, cut g j = 0 := fun j => by
        by_cases hj : j < 64
        · rw [cut_in g hj]; exact h j hj
        · exact cut_zero g (by omega)
      rw [cv_same hp (fun _ => by rw [hz, Nat.mul_zero]), ih]
  exact this 64
theorem deg_neg {f : Nat → Nat} (h : deg f < 0) : ∀ i, i < 64 → f i = 0 := by
  rcases deg_spec f with ⟨_, hz⟩ | ⟨d, hd, e, _⟩
  · exact hz
  · omega
def tmV (p : Nat) (f g : Nat → Nat) : (Nat → Nat) × Bool := if deg f + deg g ≤ 63 then (prd p f g, true) else (fun _ => 0, false)
set_option maxRecDepth 100000 in
set_option maxHeartbeats 3200000 in
theorem l01Times_any (p : Nat) (f g : Nat → Nat) (w : World) (hp1 : 2 ≤ p) (hp2 : p ≤ 7) (hf : ∀ i, i < 64 → f i < p) (hg : ∀ i, i < 64 → g i < p) :
    Calls Try.prog 76 #[.int .i64 (p : Int), .agg (bcells 64 f), .agg (bcells 64 g)] w fun e w' => e = .returned (.tuple #[.agg (bcells 64 (tmV p f g).1), .bool (tmV p f g).2]) ∧ Below w.heap.size w w' := by
  obtain ⟨df1, df2⟩ := deg_bounds f
  obtain ⟨dg1, dg2⟩ := deg_bounds g
  have HF := Lib.hid hf; clear hf
  have HG := Lib.hid hg; clear hg
  go_enter Try.func76, Try.ntmps76
  go_upto_region 1 with (fail)
  obtain ⟨wo, hwo⟩ : ∃ wo : World, wo = (((w.alloc (.cells (bcells 64 f) 23)).alloc (.cells (bcells 64 g) 23)).alloc (.cells (bcells 64 fun _ => 0) 23)) := ⟨_, rfl⟩
  have b0 : Blk wo (w.heap.size) 64 23 f := by subst hwo; have := (((Blk.new w 64 23 f).alloc (.cells (bcells 64 g) 23)).alloc (.cells (bcells 64 fun _ => 0) 23)); simpa using this
  have b1 : Blk wo (w.heap.size + 1) 64 23 g := by subst hwo; have := ((Blk.new (w.alloc (.cells (bcells 64 f) 23)) 64 23 g).alloc (.cells (bcells 64 fun _ => 0) 23)); simpa using this
  have b2 : Blk wo (w.heap.size + 1 + 1) 64 23 (fun _ => 0) := by subst hwo; have := (Blk.new ((w.alloc (.cells (bcells 64 f) 23)).alloc (.cells (bcells 64 g) 23)) 64 23 (fun _ => 0)); simpa using this
  have hb : Below w.heap.size w wo := by subst hwo; exact ((((Below.refl _ _).alloc (Nat.le_refl _) _).alloc (by simp) _).alloc (by simp; omega) _)
  rw [← zero64, ← hwo]
  clear hwo
  refine wp_region_steps Try.mixed (by kernel_rfl) (by kernel_rfl) (fun v => by (simp only [frL, Act.put, List.setIfInBounds_toArray, List.set_cons_zero, List.set_cons_succ, Nat.reduceAdd, Nat.zero_add]; exact rfl))
    (fun L v w1 => Below wo.heap.size wo w1 ∧ (L 0 = true → v 0 = (.agg (bcells 64 (f)))) ∧ (L 1 = true → v 1 = (.int .i64 (deg f))) ∧ (L 2 = true → v 2 = (.agg (bcells 64 (g)))) ∧ (L 3 = true → v 3 = (.int .i64 (deg g))) ∧ (L 4 = true → v 4 = (.agg (bcells 64 (fun _ => 0)))) ∧ (L 5 = true → AF (v 5) w1 wo.heap.size 64 23) ∧ (L 6 = true → v 6 = (.int .i64 (deg f))) ∧ (L 7 = true → v 7 = (.int .i64 (deg g))) ∧ (L 8 = true → PF (v 5) w1 wo.heap.size 64 23 (fun _ => 0))) ?_ ?_ ?_
  · intro v
    exact ⟨(Below.refl _ _).drew, (fun h => by cases h), (fun h => by cases h), (fun h => by cases h), (fun h => by cases h), (fun h => by cases h), (fun h => by cases h), (fun h => by cases h), (fun h => by cases h), (fun h => by cases h)⟩
  · refine (.cons rfl ?_ (.cons rfl ?_ (.cons rfl ?_ (.cons rfl ?_ (.cons rfl ?_ (.cons rfl ?_ (.cons rfl ?_ (.cons rfl ?_ (.cons rfl ?_ (.nil _))))))))))
    · intro L v w1 hd hn ⟨hS1, h0, h1, h2, h3, h4, h5, h6, h7, h8⟩ K hK
      refine wp_load_blk 23 _ rfl _ rfl 64 23 _ (b0.below hS1 b0.lt) _ Try.underlying23 Try.size23 ?_
      exact hK _ _ _ rfl ⟨hS1, fun _ => rfl, h1, h2, h3, h4, h5, h6, h7, h8⟩
    · intro L v w1 hd hn ⟨hS1, h0, h1, h2, h3, h4, h5, h6, h7, h8⟩ K hK
      have e0 := h0 (hd ⟨0, .data⟩ (by simp) rfl)
      go_wp2_with (go_at_call 73; refine (l01Deg_any _ _).mono ?_; rintro e w1y ⟨rfl, hy⟩)
      exact hK _ (.int .i64 (deg f)) _ (by simp only [Act.put, List.setIfInBounds_toArray, List.set_cons_zero, List.set_cons_succ, e0]) ⟨hS1.trans (hy.mono hS1.size), h0, fun _ => rfl, h2, h3, h4, fun h => (h5 h).below hy, h6, h7, fun h => (h8 h).below hy⟩
    · intro L v w1 hd hn ⟨hS1, h0, h1, h2, h3, h4, h5, h6, h7, h8⟩ K hK
      refine wp_load_blk 23 _ rfl _ rfl 64 23 _ (b1.below hS1 b1.lt) _ Try.underlying23 Try.size23 ?_
      exact hK _ _ _ rfl ⟨hS1, h0, h1, fun _ => rfl, h3, h4, h5, h6, h7, h8⟩
    · intro L v w1 hd hn ⟨hS1, h0, h1, h2, h3, h4, h5, h6, h7, h8⟩ K hK
      have e2 := h2 (hd ⟨2, .data⟩ (by simp) rfl)
      go_wp2_with (go_at_call 73; refine (l01Deg_any _ _).mono ?_; rintro e w1y ⟨rfl, hy⟩)
      exact hK _ (.int .i64 (deg g)) _ (by simp only [Act.put, List.setIfInBounds_toArray, List.set_cons_zero, List.set_cons_succ, e2]) ⟨hS1.trans (hy.mono hS1.size), h0, h1, h2, fun _ => rfl, h4, fun h => (h5 h).below hy, h6, h7, fun h => (h8 h).below hy⟩
    · intro L v w1 hd hn ⟨hS1, h0, h1, h2, h3, h4, h5, h6, h7, h8⟩ K hK
      go_wp2_with fail
      rw [← zero64]
      exact hK _ (.agg (bcells 64 (fun _ => 0))) _ (by simp only [Act.put, List.setIfInBounds_toArray, List.set_cons_zero, List.set_cons_succ ]) ⟨hS1, h0, h1, h2, h3, fun _ => rfl, h5, h6, h7, h8⟩
    · intro L v w1 hd hn ⟨hS1, h0, h1, h2, h3, h4, h5, h6, h7, h8⟩ K hK
      go_wp2_with fail
      rw [← zero64]
      exact hK _ (.pointer (some ⟨w1.heap.size, 0, none⟩)) _ (by simp only [Act.put, List.setIfInBounds_toArray, List.set_cons_zero, List.set_cons_succ ]) ⟨hS1.alloc hS1.size _, h0, h1, h2, h3, h4, fun _ => (PF.new w1 64 23 _ hS1.size).af, h6, h7, fun h => absurd rfl (hn 8 _ rfl h ⟨5, .data⟩ (by simp) rfl)⟩
    · intro L v w1 hd hn ⟨hS1, h0, h1, h2, h3, h4, h5, h6, h7, h8⟩ K hK
      have e1 := h1 (hd ⟨1, .data⟩ (by simp) rfl)
      go_wp2_with fail
      exact hK _ (.int .i64 (deg f)) _ (by simp only [Act.put, List.setIfInBounds_toArray, List.set_cons_zero, List.set_cons_succ, e1]) ⟨hS1, h0, h1, h2, h3, h4, h5, fun _ => rfl, h7, h8⟩
    · intro L v w1 hd hn ⟨hS1, h0, h1, h2, h3, h4, h5, h6, h7, h8⟩ K hK
      have e3 := h3 (hd ⟨3, .data⟩ (by simp) rfl)
      go_wp2_with fail
      exact hK _ (.int .i64 (deg g)) _ (by simp only [Act.put, List.setIfInBounds_toArray, List.set_cons_zero, List.set_cons_succ, e3]) ⟨hS1, h0, h1, h2, h3, h4, h5, h6, fun _ => rfl, h8⟩
    · intro L v w1 hd hn ⟨hS1, h0, h1, h2, h3, h4, h5, h6, h7, h8⟩ K hK
      have e4 := h4 (hd ⟨4, .data⟩ (by simp) rfl)
      obtain ⟨gz, b, ea, hN, hk⟩ := (h5 (hd ⟨5, .data⟩ (by simp) rfl)).out
      refine wp_store_blk 23 _ _ rfl b 64 (fun _ => 0) ea e4 23 gz hk Try.size23 ?_
      exact hK _ undef _ rfl ⟨below_row hS1 hN _, h0, h1, h2, h3, h4, fun h => (h5 h).row hk, h6, h7, fun _ => by rw [show updV v 8 undef 5 = v 5 from rfl, ea]; exact PF.row hk hN _⟩
  · intro L v w1 hL ⟨hS1, h0, h1, h2, h3, h4, h5, h6, h7, h8⟩
    have e0 := h0 (hL 0 (by decide))
    have e1 := h1 (hL 1 (by decide))
    have e2 := h2 (hL 2 (by decide))
    have e3 := h3 (hL 3 (by decide))
    have e4 := h4 (hL 4 (by decide))
    have e6 := h6 (hL 6 (by decide))
    have e7 := h7 (hL 7 (by decide))
    obtain ⟨b5, e5, hN5, hb5⟩ := (h8 (hL 8 (by decide))).out
    clear hL h0 h1 h2 h3 h4 h5 h6 h7 h8
    simp only [Exit.then, e0, e1, e2, e3, e4, e6, e7, e5]
    clear e0 e1 e2 e3 e4 e6 e7 e5
    have hlt2 := b2.lt
    replace b0 := b0.below hS1 b0.lt
    replace b1 := b1.below hS1 b1.lt
    replace b2 := b2.below hS1 b2.lt
    have hB5 : w.heap.size + 1 + 1 + 1 ≤ b5 := by omega
    clear hlt2
    replace hb := hb.trans (hS1.mono hb.size)
    by_cases hlim : deg f + deg g ≤ 63
    · have HV := Lib.hid (show tmV p f g = (prd p f g, true) from if_pos hlim)
      by_cases hf0 : deg f < 0
      · have HZ : ∀ k, k < 64 → (0 : Nat) = prd p f g k := fun k _ => (prd_zero_left (by omega) (deg_neg hf0) k).symm
        go_wp2_with (first | refine wpList_load_blk rfl 23 _ rfl _ rfl 64 23 _ (hb5) 5 Try.underlying23 Try.size23 ?_ | refine wpList_store_blk rfl 23 _ _ rfl _ 64 (_) rfl rfl 23 _ (b2) Try.size23 ?_)
        refine bodyPost_ret (results_bt rfl _ _ _ 64 23 5 _ rfl (b2.row _) Try.underlying23 Try.size23) rfl ⟨by rw [HV.out, ← bcells_congr HZ]; rfl, below_setRow hb (by omega) _⟩
      · by_cases hg0 : deg g < 0
        · have HZ : ∀ k, k < 64 → (0 : Nat) = prd p f g k := fun k _ => (prd_zero_right (by omega) (deg_neg hg0) k).symm
          go_wp2_with (first | refine wpList_load_blk rfl 23 _ rfl _ rfl 64 23 _ (hb5) 5 Try.underlying23 Try.size23 ?_ | refine wpList_store_blk rfl 23 _ _ rfl _ 64 (_) rfl rfl 23 _ (b2) Try.size23 ?_)
          refine bodyPost_ret (results_bt rfl _ _ _ 64 23 5 _ rfl (b2.row _) Try.underlying23 Try.size23) rfl ⟨by rw [HV.out, ← bcells_congr HZ]; rfl, below_setRow hb (by omega) _⟩
        · obtain ⟨n, hn⟩ := Int.eq_ofNat_of_zero_le (show 0 ≤ deg f by omega)
          obtain ⟨m, hm⟩ := Int.eq_ofNat_of_zero_le (show 0 ≤ deg g by omega)
          have HFZ : Hid (∀ i, n + 1 ≤ i → i < 64 → f i = 0) := by
            rcases deg_spec f with ⟨e, hz⟩ | ⟨d, hd, e, hne, hz⟩
            · exact fun i _ h => hz i h
            · exact fun i h1 h2 => hz i (by omega) h2
          have HGZ : Hid (∀ i, m + 1 ≤ i → i < 64 → g i = 0) := by
            rcases deg_spec g with ⟨e, hz⟩ | ⟨d, hd, e, hne, hz⟩
            · exact fun i _ h => hz i h
            · exact fun i h1 h2 => hz i (by omega) h2
          have hnm : n + m ≤ 63 := by omega
          rw [hn, hm]
          clear df1 df2 dg1 dg2 hlim hf0 hg0 hn hm
          go_wp2_with fail
          go_loopw [11] (fun c wr => ∃ i : Nat, i ≤ n + 1 ∧ c = .int .i64 (i : Int) ∧ Below w.heap.size w wr ∧ Blk wr w.heap.size 64 23 f ∧ Blk wr (w.heap.size + 1) 64 23 g ∧ Blk wr (w.heap.size + 1 + 1) 64 23 (fun _ => 0) ∧ Blk wr b5 64 23 (cv p (cut f) (cut g) i)) (fun c _ => n + 1 - (intOf c).toNat)
          case atStart => exact ⟨0, by omega, rfl, hb, b0, b1, b2, hb5.congr (fun k _ => by rw [cv_zero])⟩
          case round =>
            clear hb b0 b1 b2 hb5
            obtain ⟨i, hi, rfl, hb, b0, b1, b2, b3⟩ := hrel
            by_cases hlt : i ≤ n
            · go_wp2_with fail
              obtain ⟨wi, rfl⟩ : ∃ v : World, v = wr := ⟨_, rfl⟩
              have b3' := b3.congr (fun k _ => (cvr_zero p (cut f) (cut g) i k).symm)
              clear b3
              go_loopw [12] (fun c wr => ∃ j : Nat, j ≤ m + 1 ∧ (f i = 0 → j = 0) ∧ c = .int .i64 (j : Int) ∧ Below w.heap.size w wr ∧ Blk wr w.heap.size 64 23 f ∧ Blk wr (w.heap.size + 1) 64 23 g ∧ Blk wr (w.heap.size + 1 + 1) 64 23 (fun _ => 0) ∧ Blk wr b5 64 23 (cvr p (cut f) (cut g) i j)) (fun c _ => m + 1 - (intOf c).toNat)
              case atStart => exact ⟨0, by omega, fun _ => rfl, rfl, hb, b0, b1, b2, b3'⟩
              case round =>
                clear hb b0 b1 b2 b3'
                obtain ⟨j, hj, hfj, rfl, hb, b0, b1, b2, b3⟩ := hrel
                have HJ := Lib.hid hfj; clear hfj
                by_cases hltj : j ≤ m
                · have c0 := b0.cell (i := i) (by omega)
                  by_cases hfi : f i = 0
                  · have hne : ((f i : Int) != 0) = false := by simp [hfi]
                    have HFI := Lib.hid hfi; clear hfi
                    go_wp2_with fail
                    go_roundw
                    case rel =>
                      have hj0 := HJ.out HFI.out
                      subst hj0
                      exact ⟨i + 1, by omega, by go_num, hb, b0, b1, b2, b3.congr (fun k _ => by rw [cvr_zero, cv_skip (by omega) (by rw [cut_in f (by omega)]; exact HFI.out)])⟩
                    case measure => simp [intOf] <;> omega
                  · have hne : ((f i : Int) != 0) = true := by simpa using hfi
                    have HFI := Lib.hid hfi; clear hfi
                    have c1 := b1.cell (i := j) (by omega)
                    have c3 : wr.cell? ⟨b5, i + j, none⟩ = some (.int .u8 (cv p (cut f) (cut g) i (i + j) : Int)) := by rw [b3.cell (by omega), cvr_at]
                    have z3 := b3.frozen (i + j)
                    have hij : ((i : Int) + (j : Int)).toNat = i + j := by omega
                    have v1 : f i < p := HF.out i (by omega)
                    have v2 : g j < p := HG.out j (by omega)
                    have v3 := cv_lt p (cut f) (cut g) (by omega) i (i + j)
                    obtain ⟨m1, m2⟩ := small_nat_mul hp2 v1 v2
                    have m4 : 0 ≤ ((cv p (cut f) (cut g) i (i + j) : Int) + (f i : Int) * (g j : Int)) % (p : Int) := Int.emod_nonneg _ (by omega)
                    have m5 : ((cv p (cut f) (cut g) i (i + j) : Int) + (f i : Int) * (g j : Int)) % (p : Int) < (p : Int) := Int.emod_lt_of_pos _ (by omega)
                    have HE := Lib.hid (show (cv p (cut f) (cut g) (i + 1) (i + j) : Int) = ((cv p (cut f) (cut g) i (i + j) : Int) + (f i : Int) * (g j : Int)) % (p : Int) by rw [cv_hit, cut_in f (by omega), cut_in g (by omega)]; push_cast; rfl)
                    go_wp2_with fail
                    go_region
                    go_wp2_with fail
                    go_roundw
                    case rel =>
                      refine ⟨j + 1, by omega, fun h => absurd h HFI.out, by go_num, (hb.setCell (by simp <;> omega) _).drew, (b0.setOther (by simp <;> omega)).drew, (b1.setOther (by simp <;> omega)).drew, (b2.setOther (by simp <;> omega)).drew, ?_⟩
                      exact ((b3.set (v := cv p (cut f) (cut g) (i + 1) (i + j)) HE.out.symm).congr (fun k _ => cvr_next p (cut f) (cut g) i j k)).drew
                    case measure => simp [intOf] <;> omega
                · have e : j = m + 1 := by omega
                  subst e
                  go_wp2_with fail
                  go_roundw
                  case rel =>
                    refine ⟨i + 1, by omega, by go_num, hb, b0, b1, b2, b3.congr (fun k _ => cvr_full (by omega) (fun q hq => ?_) k)⟩
                    by_cases h64 : q < 64
                    · rw [cut_in g h64]; exact HGZ.out q hq h64
                    · exact cut_zero g (by omega)
                  case measure => simp [intOf] <;> omega
            · have e : i = n + 1 := by omega
              subst e
              go_wp2_with (first | refine wpList_load_blk rfl 23 _ rfl _ rfl 64 23 _ (b3) 5 Try.underlying23 Try.size23 ?_ | refine wpList_store_blk rfl 23 _ _ rfl _ 64 (_) rfl rfl 23 _ (b2) Try.size23 ?_)
              refine bodyPost_ret (results_bt rfl _ _ _ 64 23 5 _ rfl (b2.row _) Try.underlying23 Try.size23) rfl ⟨?_, below_setRow hb (by omega) _⟩
              rw [HV.out, bcells_congr (fun k _ => (prd_rows (by omega) (by omega) HFZ.out k).symm)]
              rfl
    · have hlim2 : 63 < deg f + deg g := by omega
      have HV := Lib.hid (show tmV p f g = (fun _ => 0, false) from if_neg hlim)
      clear hlim
      have hf0 : 0 ≤ deg f := by omega
      have hg0 : 0 ≤ deg g := by omega
      go_wp2_with (first | refine wpList_load_blk rfl 23 _ rfl _ rfl 64 23 _ (hb5) 5 Try.underlying23 Try.size23 ?_ | refine wpList_store_blk rfl 23 _ _ rfl _ 64 (_) rfl rfl 23 _ (b2) Try.size23 ?_)
      refine bodyPost_ret (results_bt rfl _ _ _ 64 23 5 _ rfl (b2.row _) Try.underlying23 Try.size23) rfl ⟨by rw [HV.out]; rfl, below_setRow hb (by omega) _⟩
end Go.Proofs.Ytbjpkmbhbpcbgaa
end
section
namespace Go.Proofs.Ytbjpkmbhbpcbgaa
/-- one step of the division at n: c times b, moved by n - m, is taken away -/
def stp (p inv m : Nat) (b : Nat → Nat) (n : Nat) (a : Nat → Nat) : Nat → Nat :=
  fun k => if n - m ≤ k ∧ k ≤ n then (a k + (p - a n * inv % p) * b (k - (n - m))) % p else a k
/-- behind the steps at 127, .., 128 - i -/
def dS (p inv m : Nat) (b a : Nat → Nat) : Nat → Nat → Nat
  | 0 => a
  | i + 1 => stp p inv m b (127 - i) (dS p inv m b a i)
/-- the quotient's digit at k, from the step at k + m -/
def qd (p inv m : Nat) (b a : Nat → Nat) (k : Nat) : Nat := dS p inv m b a (127 - (k + m)) (k + m) * inv % p
/-- the quotient behind i steps -/
def qS (p inv m : Nat) (b a : Nat → Nat) (i : Nat) : Nat → Nat := fun k => if 128 - i ≤ k + m ∧ k + m ≤ 127 then qd p inv m b a k else 0
/-- quotient and rest of a (up to 127) by b, m its degree, inv the inverse of its leading coefficient -/
def quoW (p inv m : Nat) (b a : Nat → Nat) : Nat → Nat := qS p inv m b a (128 - m)
def resW (p inv m : Nat) (b a : Nat → Nat) : Nat → Nat := dS p inv m b a (128 - m)
/-- the number whose product with c is 1 -/
def invN (p c : Nat) : Nat := ((List.range 7).find? fun k => k * c % p == 1).getD 0
end Go.Proofs.Ytbjpkmbhbpcbgaa
end
section
namespace Go.Proofs.Ytbjpkmbhbpcbgaa
attribute [local irreducible] deg invN
/-- quotient and rest of a by b, other than 0 -/
def quoP (p : Nat) (a b : Nat → Nat) : Nat → Nat := quoW p (invN p (b (deg b).toNat)) (deg b).toNat b (cut a)
def resP (p : Nat) (a b : Nat → Nat) : Nat → Nat := resW p (invN p (b (deg b).toNat)) (deg b).toNat b (cut a)
theorem prd_lt {p : Nat} {f g : Nat → Nat} (hp : 0 < p) (k : Nat) : prd p f g k < p := cv_lt p _ _ hp _ _
def oneP : Nat → Nat := fun k => if k = 0 then 1 else 0
end Go.Proofs.Ytbjpkmbhbpcbgaa
end
section
namespace Go.Proofs.Ytbjpkmbhbpcbgaa
open Go Go.RowKit
section
variable {P : Program} {Q : Exit → Act → World → Prop}
theorem wp_region_psi0 {ops : Array Oper} {id : Nat} {a0 : Act} {w : World} (hm : P.follows .mixedOrders = true) (hd : dstsOkL ops.toList = true) (he : edgesOk ops = true)
    (Ψ : (Nat → Bool) → (Nat → Value) → World → Prop) (h0 : ∀ v, (∀ i, v i = ((ops[i]?.bind (·.dst)).map fun t => a0.tmps.getD t undef).getD undef) → Ψ (fun _ => false) v w.drew)
    (hstep : ∀ i o, ops[i]? = some o → StepOk P ops Q a0 Ψ i o)
    (hend : ∀ L v w, (∀ i, i < ops.size → L i = true) → Ψ L v w → Q .normal (fr a0 ops v) w) : (Code.region id ops true).wp P Q a0 w := by
  refine wp_region_any hm ?_
  have hfr : fr a0 ops (fun i => ((ops[i]?.bind (·.dst)).map fun t => a0.tmps.getD t undef).getD undef) = a0 := by
    refine frL_start _ _ _ _ fun i o ho => ?_
    have ho' : ops[i]? = some o := by simpa using ho
    simp [ho']
  have key := wpAny_inv (P := P) (Q := Q) hd he hstep hend ops.size (Array.replicate ops.size false) (fun i => ((ops[i]?.bind (·.dst)).map fun t => a0.tmps.getD t undef).getD undef) w.drew (by simp) (by simp) (by
    have e : (fun j => (Array.replicate ops.size false).getD j false) = fun _ => false := by
      funext j; simp [Array.getD]
    rw [e]; exact h0 _ (fun _ => rfl)) (by
    intro j p _ hj
    simp [Array.getD] at hj)
  rw [hfr] at key
  exact key
theorem wp_region_steps0 {os : List Oper} {id : Nat} {a0 : Act} {w : World} (hm : P.follows .mixedOrders = true) (hd : dstsOkL os = true) (he : edgesOk os.toArray = true)
    {F : (Nat → Value) → Act} (hF : ∀ v, frL a0 os 0 v = F v)
    (Ψ : (Nat → Bool) → (Nat → Value) → World → Prop) (h0 : ∀ v, (∀ i, v i = ((os[i]?.bind (·.dst)).map fun t => a0.tmps.getD t undef).getD undef) → Ψ (fun _ => false) v w.drew)
    (hstep : Steps P os.toArray Q F Ψ os 0)
    (hend : ∀ L v w, (∀ i, i < os.length → L i = true) → Ψ L v w → Q .normal (F v) w) : (Code.region id os.toArray true).wp P Q a0 w := by
  refine wp_region_psi0 hm (by simpa using hd) he Ψ (fun v hv => h0 v (by simpa using hv)) (fun i o ho => ?_) (fun L v w hL hΨ => ?_)
  · obtain ⟨hg, hs⟩ := steps_of _ _ hstep i o (by simpa using ho)
    rw [Nat.zero_add] at hs
    intro L v w h1 h2 h3 K hK
    have hw : Region.wanted o (yielded os.toArray (fr a0 os.toArray v).tmps) = true := by simp [Region.wanted, hg]
    rw [if_pos hw]
    have hf : fr a0 os.toArray v = F v := hF v
    rw [hf] at hK ⊢
    exact hs L v w h1 h2 h3 K hK
  · have hf : fr a0 os.toArray v = F v := hF v
    rw [hf]
    exact hend L v w (by simpa using hL) hΨ
end
end Go.Proofs.Ytbjpkmbhbpcbgaa
end
section
namespace Go.Proofs.Ytbjpkmbhbpcbgaa
open Go.RowKit
set_option linter.unusedVariables false
set_option linter.unusedSimpArgs false
attribute [local irreducible] deg invN dS qS stp
/-- the first scope within a code -/
def scopeIn : Code → Option Code
  | .seq a b => match scopeIn a with
    | some c => some c
    | none => scopeIn b
  | .scope c => some c
  | _ => none
/-- what stands behind a label of the first scope -/
def behind (fn : Func) (l : Nat) : Code := (findLabel ((fn.body.bind scopeIn).getD .skip) l).getD .skip
end Go.Proofs.Ytbjpkmbhbpcbgaa
end
section
namespace Go.Proofs.Ytbjpkmbhbpcbgaa
open Go.RowKit
set_option linter.unusedVariables false
/-- three polynomials, one behind the other -/
def c3 (r u v : Nat → Nat) : Nat → Nat := fun k => if k < 64 then r k else if k < 128 then u (k - 64) else v (k - 128)
theorem built_one : Try.prog.built 23 [(0, .int .u8 1)] = some (bcells 64 oneP) := by
  unfold bcells bl; kernel_rfl
end Go.Proofs.Ytbjpkmbhbpcbgaa
end
section
namespace Go.Proofs.Ytbjpkmbhbpcbgaa
open Go.RowKit
set_option linter.unusedVariables false
set_option linter.unusedSimpArgs false
attribute [local irreducible] deg invN dS qS stp quoP resP
theorem one64 : bcells 64 oneP = #[.int .u8 1, .int .u8 0, .int .u8 0, .int .u8 0, .int .u8 0, .int .u8 0, .int .u8 0, .int .u8 0, .int .u8 0, .int .u8 0, .int .u8 0, .int .u8 0, .int .u8 0, .int .u8 0, .int .u8 0, .int .u8 0, .int .u8 0, .int .u8 0, .int .u8 0, .int .u8 0, .int .u8 0, .int .u8 0, .int .u8 0, .int .u8 0, .int .u8 0, .int .u8 0, .int .u8 0, .int .u8 0, .int .u8 0, .int .u8 0, .int .u8 0, .int .u8 0, .int .u8 0, .int .u8 0, .int .u8 0, .int .u8 0, .int .u8 0, .int .u8 0, .int .u8 0, .int .u8 0, .int .u8 0, .int .u8 0, .int .u8 0, .int .u8 0, .int .u8 0, .int .u8 0, .int .u8 0, .int .u8 0, .int .u8 0, .int .u8 0, .int .u8 0, .int .u8 0, .int .u8 0, .int .u8 0, .int .u8 0, .int .u8 0, .int .u8 0, .int .u8 0, .int .u8 0, .int .u8 0, .int .u8 0, .int .u8 0, .int .u8 0, .int .u8 0] := by simp only [bcells, bl, oneP]; kernel_rfl
set_option maxRecDepth 100000 in
theorem l01One_any (w : World) : Calls Try.prog 75 #[] w fun e w' => e = .returned (.agg (bcells 64 oneP)) ∧ Below w.heap.size w w' := by
  go_enter Try.func75, Try.ntmps75
  go_upto_region 1 with (fail)
  rw [← zero64]
  have b0 := Blk.new w 64 23 (fun _ => 0)
  go_wp2_with (first | (refine wpList_store_blk rfl 23 _ _ rfl _ 64 oneP rfl (by rw [one64]; rfl) 23 _ b0 Try.size23 ?_))
  refine bodyPost_ret (results_blk rfl _ _ _ 64 23 5 _ rfl (b0.row _) Try.underlying23 Try.size23) rfl ⟨rfl, below_row (below_alloc' _ _) (Nat.le_refl _) _⟩
end Go.Proofs.Ytbjpkmbhbpcbgaa
end
section
namespace Go.Proofs.Ytbjpkmbhbpcbgaa
open Go Go.RowKit
section
variable {P : Program}
theorem wp_load_any {o : Oper} {a : Act} {w : World} {K : Act → World → Prop} {Q : Exit → Act → World → Prop} (ty : TypeId) (x : Operand) (ho : o.op = .load ty x)
    (b : Nat) (hx : a.eval x = .pointer (some ⟨b, 0, none⟩)) (n : Nat) (t : TypeId) (f : Nat → Nat) (hb : Blk w b n t f) (d : TypeDesc)
    (hu : P.underlying ty = some d) (hd : (match d with | .struct _ | .array _ _ => true | _ => false) = true) (hi : (P.info? ty).map (·.size) = some n) (h : K (a.put o.dst (.agg (bcells n f))) w) : o.wp P a w K Q := by
  have hb' : w.heap[b]? = some (.cells (bcells n f) t (0, 0)) := by unfold Blk at hb; exact hb
  exact wp_load_row ty x ho b hx t _ (0, 0) d hb' hu hd (by rw [bcells_size]; exact hi) h
theorem wpList_load_any {ops : Array Oper} {rest : List Oper} {o : Oper} {a : Act} {w : World} {Q : Exit → Act → World → Prop} (hgd : o.guard = none) (ty : TypeId) (x : Operand) (ho : o.op = .load ty x)
    (b : Nat) (hx : a.eval x = .pointer (some ⟨b, 0, none⟩)) (n : Nat) (t : TypeId) (f : Nat → Nat) (hb : Blk w b n t f) (d : TypeDesc)
    (hu : P.underlying ty = some d) (hd : (match d with | .struct _ | .array _ _ => true | _ => false) = true) (hi : (P.info? ty).map (·.size) = some n)
    (h : wpList P ops Q rest (a.put o.dst (.agg (bcells n f))) w) : wpList P ops Q (o :: rest) a w := by
  have hb' : w.heap[b]? = some (.cells (bcells n f) t (0, 0)) := by unfold Blk at hb; exact hb
  exact wpList_load_row hgd ty x ho b hx t _ (0, 0) d hb' hu hd (by rw [bcells_size]; exact hi) h
theorem wp_build_of {o : Oper} {a : Act} {w : World} {K : Act → World → Prop} {Q : Exit → Act → World → Prop} (t : TypeId) (parts : Array (Nat × Operand)) (ho : o.op = .build t parts)
    (cells : Array Value) (hc : P.built t (parts.map fun (i, x) => (i, a.eval x)).toList = some cells) (h : K (a.put o.dst (.agg cells)) w) : o.wp P a w K Q := by
  refine wp_build t parts ho (by rw [hc]; rfl) ?_
  rw [hc]; exact h
theorem wpList_build_of {ops : Array Oper} {rest : List Oper} {o : Oper} {a : Act} {w : World} {Q : Exit → Act → World → Prop} (hg : o.guard = none) (t : TypeId) (parts : Array (Nat × Operand)) (ho : o.op = .build t parts)
    (cells : Array Value) (hc : P.built t (parts.map fun (i, x) => (i, a.eval x)).toList = some cells) (h : wpList P ops Q rest (a.put o.dst (.agg cells)) w) : wpList P ops Q (o :: rest) a w :=
  wpList_plain hg fun _ hK => wp_build_of t parts ho cells hc (hK _ _ h)
end
end Go.Proofs.Ytbjpkmbhbpcbgaa
end
section
namespace Go.Proofs.Ytbjpkmbhbpcbgaa
attribute [local irreducible] deg invN
/-- the sum of t below n -/
def cs : Nat → (Nat → Int) → Int
  | 0, _ => 0
  | n + 1, t => cs n t + t n
end Go.Proofs.Ytbjpkmbhbpcbgaa
end
section
namespace Go.Proofs.Ytbjpkmbhbpcbgaa
/-- sums and products as in the whole numbers -/
class Rg (R : Type) extends Add R, Mul R, Neg R where
  o : R
  e : R
  acomm : ∀ a b : R, a + b = b + a
  aassoc : ∀ a b c : R, a + b + c = a + (b + c)
  oadd : ∀ a : R, o + a = a
  nadd : ∀ a : R, -a + a = o
  mcomm : ∀ a b : R, a * b = b * a
  massoc : ∀ a b c : R, a * b * c = a * (b * c)
  emul : ∀ a : R, e * a = a
  madd : ∀ a b c : R, a * (b + c) = a * b + a * c
namespace Rg
variable {R : Type} [Rg R]
/-- a^n -/
def pw (a : R) : Nat → R
  | 0 => e
  | n + 1 => a * pw a n
/-- k times a -/
def nm : Nat → R → R
  | 0, _ => o
  | k + 1, a => nm k a + a
/-- the sum of c(i) x^i y^(n - i), for the n + 1 numbers of a list -/
def hm (x y : R) : List Nat → R
  | [] => o
  | c :: cs => nm c (pw y cs.length) + x * hm x y cs
def pas : Nat → List Nat → List Nat
  | q, [] => [q]
  | q, c :: cs => (q + c) :: pas c cs
def row : Nat → List Nat
  | 0 => [1]
  | n + 1 => pas 0 (row n)
end Rg
end Go.Proofs.Ytbjpkmbhbpcbgaa
set_option linter.unusedVariables false
set_option linter.unusedVariables false
set_option linter.unusedVariables false
namespace Go.Proofs.Ytbjpkmbhbpcbgaa
attribute [local irreducible] deg invN quoP resP
/-- the numbers of the monic polynomials of the degree n -/
def monL (p n : Nat) : List Nat := List.range' (p ^ n) (p ^ n)
/-- how often m divides a, and what is left -/
def dvo (p : Nat) (m : Nat → Nat) : Nat → (Nat → Nat) → Nat × (Nat → Nat)
  | 0, a => (0, a)
  | f + 1, a => if deg (resP p a m) < 0 then ((dvo p m f (quoP p a m)).1 + 1, (dvo p m f (quoP p a m)).2) else (0, a)
end Go.Proofs.Ytbjpkmbhbpcbgaa
set_option linter.unusedVariables false
namespace Go.Proofs.Ytbjpkmbhbpcbgaa
attribute [local irreducible] deg invN quoP resP
/-- all of a list, divided out one after the other: what is told, and what is left -/
def foR (p : Nat) : List Nat → (Nat → Nat) → List (Nat × Nat) × (Nat → Nat)
  | [], a => ([], a)
  | N :: ms, a => ((if 0 < (dvo p (ofN p N) 64 a).1 then [(N, (dvo p (ofN p N) 64 a).1)] else []) ++ (foR p ms (dvo p (ofN p N) 64 a).2).1, (foR p ms (dvo p (ofN p N) 64 a).2).2)
/-- degree by degree -/
def run (p : Nat) : Nat → Nat → (Nat → Nat) → List (Nat × Nat)
  | 0, _, _ => []
  | f + 1, n, a => if deg a ≤ 0 then [] else (foR p (monL p n) a).1 ++ run p f (n + 1) (foR p (monL p n) a).2
end Go.Proofs.Ytbjpkmbhbpcbgaa
set_option linter.unusedVariables false
set_option linter.unusedVariables false
set_option linter.unusedVariables false
set_option linter.unusedVariables false
namespace Go.Proofs.Ytbjpkmbhbpcbgaa
attribute [local irreducible] deg invN quoP resP
theorem addK_lt {p : Nat} {f g : Nat → Nat} {c : Int} (hp : 0 < p) (k : Nat) : addK p f g c k < p := by
  unfold addK
  have h1 : 0 ≤ ((f k : Int) + c * (g k : Int)) % (p : Int) := Int.emod_nonneg _ (by omega)
  have h2 := Int.emod_lt_of_pos ((f k : Int) + c * (g k : Int)) (b := (p : Int)) (by omega)
  omega
end Go.Proofs.Ytbjpkmbhbpcbgaa
end
section
namespace Go.Proofs.Ytbjpkmbhbpcbgaa
open Go Go.RowKit Go.ChangeMaps
open Go.Maps (Keyed)
/-- block b is a map with the entries L, keys of type k -/
def MapG (P : Program) (k : TypeId) (w : World) (b : Nat) (L : List (Value × Value)) : Prop :=
  ∃ es clock, w.heap[b]? = some (.map es clock) ∧ es.toList.map (fun e => (e.key, e.val)) = L ∧ ∀ e ∈ es.toList, ∃ l, keyOf P k e.key = some l
theorem MapG.lt {P : Program} {k : TypeId} {w : World} {b : Nat} {L : List (Value × Value)} (h : MapG P k w b L) : b < w.heap.size := by
  obtain ⟨es, clock, hb, _⟩ := h
  exact (Array.getElem?_eq_some_iff.1 hb).1
theorem MapG.new (P : Program) (k : TypeId) (w : World) : MapG P k (w.alloc (.map #[] 0)) w.heap.size [] := ⟨#[], 0, (MapKept.heap_alloc w _).1, rfl, by simp⟩
theorem MapG.of {P : Program} {k : TypeId} {w w' : World} {b : Nat} {L : List (Value × Value)} (h : MapG P k w b L) (e : w'.heap[b]? = w.heap[b]?) : MapG P k w' b L := by
  obtain ⟨es, clock, hb, r⟩ := h
  exact ⟨es, clock, e.trans hb, r⟩
theorem MapG.alloc {P : Program} {k : TypeId} {w : World} {b : Nat} {L : List (Value × Value)} (h : MapG P k w b L) (o : Obj) : MapG P k (w.alloc o) b L := h.of (Below.heap_alloc _ _ _ h.lt)
theorem MapG.drew {P : Program} {k : TypeId} {w : World} {b : Nat} {L : List (Value × Value)} (h : MapG P k w b L) : MapG P k w.drew b L := h
theorem MapG.below {P : Program} {k : TypeId} {w w' : World} {B b : Nat} {L : List (Value × Value)} (h : MapG P k w b L) (hb : Below B w w') (e : b < B) : MapG P k w' b L := h.of (hb.block b e)
theorem MapG.setOther {P : Program} {k : TypeId} {w : World} {b : Nat} {L : List (Value × Value)} (h : MapG P k w b L) {a : Addr} {v : Value} (e : b ≠ a.block) : MapG P k (w.setCell a v) b L := h.of (heap_setCell_other _ _ _ _ e)
theorem MapG.rowOther {P : Program} {k : TypeId} {w : World} {b : Nat} {L : List (Value × Value)} (h : MapG P k w b L) {j : Nat} {cs : Array Value} (e : b ≠ j) : MapG P k (w.setRow j cs) b L := h.of (setRow_other _ _ _ _ e)
/-- block b is one cell that holds v -/
def One (w : World) (b : Nat) (t : TypeId) (v : Value) : Prop := w.heap[b]? = some (.cells #[v] t (0, 0))
theorem One.new (w : World) (t : TypeId) (v : Value) : One (w.alloc (.cells #[v] t)) w.heap.size t v := heap_alloc_last w _
theorem One.lt {w : World} {b : Nat} {t : TypeId} {v : Value} (h : One w b t v) : b < w.heap.size := by
  unfold One at h
  exact (Array.getElem?_eq_some_iff.1 h).1
theorem One.cell {w : World} {b : Nat} {t : TypeId} {v : Value} (h : One w b t v) : w.cell? ⟨b, 0, none⟩ = some v := by
  rw [cell_of_row _ _ _ _ _ _ h]; rfl
theorem One.frozen {w : World} {b : Nat} {t : TypeId} {v : Value} (h : One w b t v) (i : Nat) : w.frozen? ⟨b, i, none⟩ = false := frozen_of_row _ _ _ _ _ h
theorem One.of {w w' : World} {b : Nat} {t : TypeId} {v : Value} (h : One w b t v) (e : w'.heap[b]? = w.heap[b]?) : One w' b t v := by unfold One at *; rw [e]; exact h
theorem One.alloc {w : World} {b : Nat} {t : TypeId} {v : Value} (h : One w b t v) (o : Obj) : One (w.alloc o) b t v := h.of (Below.heap_alloc _ _ _ h.lt)
theorem One.drew {w : World} {b : Nat} {t : TypeId} {v : Value} (h : One w b t v) : One w.drew b t v := h
theorem One.below {w w' : World} {B b : Nat} {t : TypeId} {v : Value} (h : One w b t v) (hb : Below B w w') (e : b < B) : One w' b t v := h.of (hb.block b e)
theorem One.setOther {w : World} {b : Nat} {t : TypeId} {v x : Value} (h : One w b t v) {a : Addr} (e : b ≠ a.block) : One (w.setCell a x) b t v := h.of (heap_setCell_other _ _ _ _ e)
theorem One.rowOther {w : World} {b : Nat} {t : TypeId} {v : Value} (h : One w b t v) {j : Nat} {cs : Array Value} (e : b ≠ j) : One (w.setRow j cs) b t v := h.of (setRow_other _ _ _ _ e)
theorem One.grown {w w' : World} {b j : Nat} {t : TypeId} {v : Value} (h : One w b t v) (hg : w.grownBy w' (some j)) (e : b ≠ j) : One w' b t v := h.of (hg.block b h.lt (fun x => e (by cases x; rfl)))
theorem wp_load_one {P : Program} {o : Oper} {a : Act} {w : World} {K : Act → World → Prop} {Q : Exit → Act → World → Prop} (ty : TypeId) (x : Operand) (ho : o.op = .load ty x)
    (b : Nat) (hx : a.eval x = .pointer (some ⟨b, 0, none⟩)) (t : TypeId) (v : Value) (hb : One w b t v) (d : TypeDesc)
    (hu : P.underlying ty = some d) (hd : (match d with | .struct _ | .array _ _ => true | _ => false) = false) (h : K (a.put o.dst v) w) : o.wp P a w K Q := by
  have hc := hb.cell
  have hagg : (isAgg ty).run P w = .ok false w := by
    unfold isAgg
    rw [Sem.run_bind, run_underlying hu w]
    cases d <;> simp_all
  unfold Oper.wp execOp
  simp only [ho, hx, Instr.loadAt, Instr.sureAddr, Sem.run_bind, Sem.run_pure, Result.andThen_ok, loadVar, hagg, Bool.false_eq_true, if_false, Sem.run_ite, run_load, hc]
  exact h
theorem wpList_load_one {P : Program} {ops : Array Oper} {rest : List Oper} {o : Oper} {a : Act} {w : World} {Q : Exit → Act → World → Prop} (hgd : o.guard = none) (ty : TypeId) (x : Operand) (ho : o.op = .load ty x)
    (b : Nat) (hx : a.eval x = .pointer (some ⟨b, 0, none⟩)) (t : TypeId) (v : Value) (hb : One w b t v) (d : TypeDesc)
    (hu : P.underlying ty = some d) (hd : (match d with | .struct _ | .array _ _ => true | _ => false) = false) (h : wpList P ops Q rest (a.put o.dst v) w) : wpList P ops Q (o :: rest) a w :=
  wpList_plain hgd fun _ hK => wp_load_one ty x ho b hx t v hb d hu hd (hK _ _ h)
/-- a new key -/
theorem MapG.put {P : Program} {k e t : TypeId} (K : Keyed P k) (ht : P.underlying t = some (.map k e)) {w : World} {b : Nat} {L : List (Value × Value)} (h : MapG P k w b L) {key val : Value} {kl : Lit} (hkey : keyOf P k key = some kl) (hn : ∀ q ∈ L, q.1 ≠ key) :
    ∃ w', (Instr.mapUpdate t (.map (some b)) key val).run P w = .ok () w' ∧ MapG P k w' b (L ++ [(key, val)]) ∧ w.grownBy w' (some b) := by
  obtain ⟨es, clock, hb, rfl, hr⟩ := h
  rcases K.find w hkey es.toList hr with ⟨h1, h2⟩ | ⟨j, e0, h1, h2, h3⟩
  · refine ⟨setBlock w b (.map (es.push ⟨key, val, clock⟩) (clock + 1)), ?_, ⟨_, _, heap_setBlock_same hb _, by simp, ?_⟩, ⟨rfl, rfl, rfl, by simp [setBlock], fun i _ hi => heap_setBlock_other hb _ (fun e => hi (by rw [e]))⟩⟩
    · simp [Instr.mapUpdate, run_underlying ht, MapKept.run_getObj_map hb, K.check w false hkey, h1, MapKept.run_setObj_map _ hb, Result.andThen, setBlock]
    · intro x hx
      simp only [Array.toList_push, List.mem_append, List.mem_singleton] at hx
      rcases hx with hx | rfl
      · exact hr x hx
      · exact ⟨_, hkey⟩
  · exact absurd h3 (hn (e0.key, e0.val) (List.mem_map.2 ⟨e0, List.mem_of_getElem? h2, rfl⟩))
/-- what a store into the map leaves of another block -/
theorem Blk.grown {w w' : World} {b n j : Nat} {t : TypeId} {f : Nat → Nat} (h : Blk w b n t f) (hg : w.grownBy w' (some j)) (e : b ≠ j) : Blk w' b n t f := by
  have hl := h.lt
  unfold Blk at *; rw [hg.block b hl (fun x => e (by cases x; rfl))]; exact h
attribute [irreducible] MapG One
end Go.Proofs.Ytbjpkmbhbpcbgaa
end
section
namespace Go.Proofs.Ytbjpkmbhbpcbgaa
theorem pow_big {p k : Nat} (h1 : 1 ≤ p) (h2 : p ≤ 7) (hk : k ≤ 20) : 1 ≤ p ^ k ∧ p ^ k ≤ 79792266297612001 := by
  have a1 : p ^ k ≤ 7 ^ k := Nat.pow_le_pow_left h2 k
  have a2 : 7 ^ k ≤ 7 ^ 20 := Nat.pow_le_pow_right (by omega) hk
  have a3 : 1 ≤ p ^ k := Nat.pow_pos (by omega)
  have a4 : 7 ^ 20 = 79792266297612001 := by decide
  omega
end Go.Proofs.Ytbjpkmbhbpcbgaa
namespace Go.Proofs.Ytbjpkmbhbpcbgaa
open Go.RowKit
set_option linter.unusedVariables false
set_option linter.unusedSimpArgs false
theorem norm_any (p n : Nat) (w : World) (hp1 : 2 ≤ p) (hp2 : p ≤ 7) (hn : n ≤ 20) :
    Calls Try.prog 91 #[.int .i64 (p : Int), .int .i64 (n : Int)] w fun e w' => e = .returned (.int .i64 ((p ^ n : Nat) : Int)) ∧ w = w' := by
  go_enter Try.func91, Try.ntmps91
  go_wp2_with fail
  go_loopw [5, 7] (fun x i wr => ∃ k X : Nat, k ≤ n ∧ X = p ^ k ∧ x = .int .i64 (X : Int) ∧ i = .int .i64 (k : Int) ∧ wr = w) (fun _ i _ => n - (intOf i).toNat)
  case atStart => exact ⟨0, 1, by omega, rfl, rfl, rfl, rfl⟩
  case round =>
    obtain ⟨k, X, hk, hX, rfl, rfl, rfl⟩ := hrel
    obtain ⟨x1, x2⟩ := pow_big (p := p) (k := k) (by omega) hp2 (by omega)
    rw [← hX] at x1 x2
    by_cases hlt : k < n
    · obtain ⟨y1, y2⟩ := pow_big (p := p) (k := k + 1) (by omega) hp2 (by omega)
      rw [Nat.pow_succ, ← hX] at y1 y2
      have HX := Lib.hid hX; clear hX
      have z1 : ((X * p : Nat) : Int) ≤ 79792266297612001 := by omega
      have z2 : 1 ≤ ((X * p : Nat) : Int) := by omega
      rw [Int.natCast_mul] at z1 z2
      clear y1 y2
      go_wp2_with fail
      go_roundw
      case rel => exact ⟨k + 1, X * p, by omega, by rw [Nat.pow_succ, ← HX.out], by go_num, by go_num, trivial⟩
      case measure => simp [intOf]; omega
    · have e : k = n := by omega
      subst e
      have HX := Lib.hid hX; clear hX
      go_wp2_with fail
      go_ret
      exact ⟨ret_int (congrArg (fun x : Nat => (x : Int)) HX.out), rfl⟩
end Go.Proofs.Ytbjpkmbhbpcbgaa
namespace Go.Proofs.Ytbjpkmbhbpcbgaa
open Go Go.RowKit
set_option linter.unusedVariables false
/-- v is a slice of the rows cs, each of so many cells, in a block from base on (or nil) -/
def SlL (w : World) (base : Nat) (e : TypeId) (size : Nat) (v : Value) (cs : List (List Value)) : Prop := base ≤ w.heap.size ∧ (∀ c ∈ cs, c.length = size) ∧ w.ownsRow base e size v cs.length cs.flatten
theorem SlL.lt {w : World} {base : Nat} {e : TypeId} {size : Nat} {v : Value} {cs : List (List Value)} (h : SlL w base e size v cs) : base ≤ w.heap.size := h.1
theorem SlL.nil {w : World} {base : Nat} (e : TypeId) (size : Nat) (h : base ≤ w.heap.size) : SlL w base e size (.slice none 0 0) [] := ⟨h, by simp, World.ownsRow_nil _ _ _ _⟩
theorem SlL.grown {w w' : World} {base : Nat} {e : TypeId} {size : Nat} {v : Value} {cs : List (List Value)} {row : Option Nat} (h : SlL w base e size v cs) (hg : w.grownBy w' row) (hr : ∀ r, row = some r → r < base) : SlL w' base e size v cs :=
  ⟨Nat.le_trans h.1 hg.size, h.2.1, h.2.2.kept hg (by
    cases hv : v.ownBlock with
    | none => exact .inl rfl
    | some k =>
      right
      intro he
      have h1 := (h.2.2.lt k hv).1
      have h2 := hr k he.symm
      omega)⟩
theorem SlL.alloc {w : World} {base : Nat} {e : TypeId} {size : Nat} {v : Value} {cs : List (List Value)} (h : SlL w base e size v cs) (o : Obj) : SlL (w.alloc o) base e size v cs := h.grown (World.grownBy_alloc w o none) (fun r e => by cases e)
theorem SlL.drew {w : World} {base : Nat} {e : TypeId} {size : Nat} {v : Value} {cs : List (List Value)} (h : SlL w base e size v cs) : SlL w.drew base e size v cs := h
theorem SlL.below {w w' : World} {base : Nat} {e : TypeId} {size : Nat} {v : Value} {cs : List (List Value)} (h : SlL w base e size v cs) (hb : Below w.heap.size w w') (_ : base ≤ w.heap.size) : SlL w' base e size v cs :=
  h.grown (row := none) ⟨hb.os, hb.tape, hb.output, hb.size, fun k hk _ => hb.block k hk⟩ (fun r e => by cases e)
theorem SlL.rowOther {w : World} {base : Nat} {e : TypeId} {size : Nat} {v : Value} {cs : List (List Value)} (h : SlL w base e size v cs) {k : Nat} {xs : Array Value} (hk : k < base) : SlL (w.setRow k xs) base e size v cs :=
  h.grown (row := some k) ⟨rfl, rfl, rfl, by simp [World.setRow], fun j _ hj => setRow_other _ _ _ _ (fun e => hj (by rw [e]))⟩ (fun r e => by cases e; exact hk)
theorem SlL.setOther {w : World} {base : Nat} {e : TypeId} {size : Nat} {v x : Value} {cs : List (List Value)} (h : SlL w base e size v cs) {a : Addr} (ha : a.block < base) : SlL (w.setCell a x) base e size v cs :=
  ⟨by simpa using h.1, h.2.1, ownsRow_setCell_below h.2.2 ha x⟩
theorem SlL.own {w : World} {base : Nat} {e : TypeId} {size : Nat} {v : Value} {cs : List (List Value)} (h : SlL w base e size v cs) : ∀ r, v.ownBlock = some r → base ≤ r := fun r hr => (h.2.2.lt r hr).1
theorem SlL.shape {w : World} {base : Nat} {e : TypeId} {size : Nat} {v : Value} {cs : List (List Value)} (h : SlL w base e size v cs) : (v = .slice none 0 0 ∧ cs = []) ∨ ∃ g cap, v = .slice (some ⟨g, 0, none⟩) cs.length cap := by
  obtain ⟨_, _, _, h | ⟨g, cap, cur, rfl, _⟩⟩ := h
  · exact .inl ⟨h.1, List.eq_nil_of_length_eq_zero h.2⟩
  · exact .inr ⟨g, cap, rfl⟩
theorem flat_at : ∀ (cs : List (List Value)) (size i : Nat) (c : List Value) (j : Nat) (u : Value), (∀ c ∈ cs, c.length = size) → cs[i]? = some c → c[j]? = some u → cs.flatten[i * size + j]? = some u
  | [], _, _, _, _, _, _, h, _ => by simp at h
  | g :: cs, size, 0, c, j, u, _, h, hj => by
    simp only [List.getElem?_cons_zero, Option.some.injEq] at h
    subst h
    rw [List.flatten_cons, Nat.zero_mul, Nat.zero_add, List.getElem?_append_left (List.getElem?_eq_some_iff.1 hj).1]
    exact hj
  | g :: cs, size, i + 1, c, j, u, hs, h, hj => by
    have hg : g.length = size := hs g (by simp)
    have e1 : (i + 1) * size = i * size + size := Nat.succ_mul i size
    rw [List.flatten_cons, List.getElem?_append_right (by rw [hg]; omega), hg]
    have := flat_at cs size i c j u (fun c hc => hs c (by simp [hc])) (by simpa using h) hj
    rw [show (i + 1) * size + j - size = i * size + j by omega]
    exact this
/-- the cells of one element -/
theorem SlL.range {w : World} {base : Nat} {e : TypeId} {size g n cap : Nat} {cs : List (List Value)} (h : SlL w base e size (.slice (some ⟨g, 0, none⟩) n cap) cs) {i : Nat} {c : List Value} (hi : cs[i]? = some c) : w.rangeAt g (i * size) c := by
  intro j u hu
  obtain ⟨_, hs, hl, h | ⟨g', cap', cur, hv, hg, hh, h1, h2, h3, h4⟩⟩ := h
  · cases h.1
  · injection hv with e1 e2 e3
    injection e1 with e1
    injection e1 with e1
    subst e1
    rw [cell_of_row _ _ _ _ _ _ hh]
    have hc : cs.flatten[i * size + j]? = some u := flat_at cs size i c j u hs hi hu
    rw [← h4] at hc
    have hlt : i * size + j < cs.length * size := by
      have := (List.getElem?_eq_some_iff.1 hc).1
      rw [List.length_take] at this
      omega
    rw [List.getElem?_take_of_lt hlt] at hc
    rw [← Array.getElem?_toList]
    exact hc
theorem One.row {w : World} {b : Nat} {t : TypeId} {v : Value} (h : One w b t v) (u : Value) : One (w.setRow b #[u]) b t u := by
  unfold One at *
  exact setRow_heap _ _ _ _ _ _ h
theorem SlL.one {w : World} {base : Nat} {e : TypeId} {size : Nat} {v : Value} {cs : List (List Value)} (h : SlL w base e size v cs) : v.oneCell' = true := by
  rcases h.shape with ⟨rfl, _⟩ | ⟨g, cap, rfl⟩ <;> rfl
theorem SlL.base {w : World} {base base' : Nat} {e : TypeId} {size : Nat} {v : Value} {cs : List (List Value)} (h : SlL w base e size v cs) (hb : base' ≤ base) : SlL w base' e size v cs := ⟨Nat.le_trans hb h.1, h.2.1, by
  obtain ⟨_, _, hl, h | ⟨g, cap, cur, hv, hg', r⟩⟩ := h
  · exact ⟨hl, .inl h⟩
  · exact ⟨hl, .inr ⟨g, cap, cur, hv, Nat.le_trans hb hg', r⟩⟩⟩
/-- .. whose block lies below top -/
def SlT (w : World) (base top : Nat) (e : TypeId) (size : Nat) (v : Value) (cs : List (List Value)) : Prop := SlL w base e size v cs ∧ ∀ r, v.ownBlock = some r → r < top
theorem SlL.top {w : World} {base : Nat} {e : TypeId} {size : Nat} {v : Value} {cs : List (List Value)} (h : SlL w base e size v cs) : SlT w base w.heap.size e size v cs := ⟨h, fun r hr => (h.2.2.lt r hr).2⟩
theorem SlT.lt {w : World} {base top : Nat} {e : TypeId} {size : Nat} {v : Value} {cs : List (List Value)} (h : SlT w base top e size v cs) : base ≤ w.heap.size := h.1.1
theorem SlT.alloc {w : World} {base top : Nat} {e : TypeId} {size : Nat} {v : Value} {cs : List (List Value)} (h : SlT w base top e size v cs) (o : Obj) : SlT (w.alloc o) base top e size v cs := ⟨h.1.alloc o, h.2⟩
theorem SlT.drew {w : World} {base top : Nat} {e : TypeId} {size : Nat} {v : Value} {cs : List (List Value)} (h : SlT w base top e size v cs) : SlT w.drew base top e size v cs := h
theorem SlT.below {w w' : World} {base top : Nat} {e : TypeId} {size : Nat} {v : Value} {cs : List (List Value)} (h : SlT w base top e size v cs) (hb : Below w.heap.size w w') (hl : base ≤ w.heap.size) : SlT w' base top e size v cs := ⟨h.1.below hb hl, h.2⟩
theorem SlT.rowOther {w : World} {base top : Nat} {e : TypeId} {size : Nat} {v : Value} {cs : List (List Value)} (h : SlT w base top e size v cs) {k : Nat} {xs : Array Value} (hk : k < base ∨ top ≤ k) : SlT (w.setRow k xs) base top e size v cs :=
  ⟨⟨by simpa [World.setRow] using h.1.1, h.1.2.1, h.1.2.2.kept (row := some k) ⟨rfl, rfl, rfl, by simp [World.setRow], fun j _ hj => setRow_other _ _ _ _ (fun e => hj (by rw [e]))⟩ (by
    cases hv : v.ownBlock with
    | none => exact .inl rfl
    | some j =>
      right
      intro he
      cases he
      have h1 := (h.1.2.2.lt k hv).1
      have h2 := h.2 k hv
      omega)⟩, h.2⟩
theorem SlT.setOther {w : World} {base top : Nat} {e : TypeId} {size : Nat} {v x : Value} {cs : List (List Value)} (h : SlT w base top e size v cs) {a : Addr} (ha : a.block < base ∨ top ≤ a.block) : SlT (w.setCell a x) base top e size v cs :=
  ⟨⟨by simpa using h.1.1, h.1.2.1, h.1.2.2.kept (row := some a.block) ⟨((Below.refl 0 w).setCell (Nat.zero_le _) x).os, ((Below.refl 0 w).setCell (Nat.zero_le _) x).tape, ((Below.refl 0 w).setCell (Nat.zero_le _) x).output, by simp, fun j _ hj => Below.heap_setCell _ _ _ _ (fun e => hj (by rw [e]))⟩ (by
    cases hv : v.ownBlock with
    | none => exact .inl rfl
    | some j =>
      right
      intro he
      have he2 : j = a.block := by injection he
      subst he2
      have h1 := (h.1.2.2.lt a.block hv).1
      have h2 := h.2 a.block hv
      omega)⟩, h.2⟩
theorem SlL.some {w : World} {base : Nat} {e : TypeId} {size n cap : Nat} {ad : Option Addr} {cs : List (List Value)} (h : SlL w base e size (.slice ad n cap) cs) (hn : 0 < cs.length) : ∃ g, ad = some ⟨g, 0, none⟩ := by
  rcases h.shape with ⟨_, h2⟩ | ⟨g, cap', h1⟩
  · rw [h2] at hn; simp at hn
  · injection h1 with h1; exact ⟨g, h1⟩
/-- block b is the row cs -/
def Row (w : World) (b : Nat) (t : TypeId) (cs : Array Value) : Prop := w.heap[b]? = some (.cells cs t (0, 0))
theorem Row.new (w : World) (t : TypeId) (cs : Array Value) : Row (w.alloc (.cells cs t)) w.heap.size t cs := heap_alloc_last w _
theorem Row.lt {w : World} {b : Nat} {t : TypeId} {cs : Array Value} (h : Row w b t cs) : b < w.heap.size := by
  unfold Row at h
  exact (Array.getElem?_eq_some_iff.1 h).1
theorem Row.of {w w' : World} {b : Nat} {t : TypeId} {cs : Array Value} (h : Row w b t cs) (e : w'.heap[b]? = w.heap[b]?) : Row w' b t cs := by unfold Row at *; rw [e]; exact h
theorem Row.alloc {w : World} {b : Nat} {t : TypeId} {cs : Array Value} (h : Row w b t cs) (o : Obj) : Row (w.alloc o) b t cs := h.of (Below.heap_alloc _ _ _ h.lt)
theorem Row.drew {w : World} {b : Nat} {t : TypeId} {cs : Array Value} (h : Row w b t cs) : Row w.drew b t cs := h
theorem Row.below {w w' : World} {B b : Nat} {t : TypeId} {cs : Array Value} (h : Row w b t cs) (hb : Below B w w') (e : b < B) : Row w' b t cs := h.of (hb.block b e)
theorem Row.rowOther {w : World} {b : Nat} {t : TypeId} {cs : Array Value} (h : Row w b t cs) {j : Nat} {xs : Array Value} (e : b ≠ j) : Row (w.setRow j xs) b t cs := h.of (setRow_other _ _ _ _ e)
theorem Row.setOther {w : World} {b : Nat} {t : TypeId} {cs : Array Value} {x : Value} (h : Row w b t cs) {a : Addr} (e : b ≠ a.block) : Row (w.setCell a x) b t cs := h.of (heap_setCell_other _ _ _ _ e)
theorem Row.row {w : World} {b : Nat} {t : TypeId} {cs : Array Value} (h : Row w b t cs) (xs : Array Value) : Row (w.setRow b xs) b t xs := by
  unfold Row at *
  exact setRow_heap _ _ _ _ _ _ h
theorem Row.cell {w : World} {b : Nat} {t : TypeId} {cs : Array Value} (h : Row w b t cs) {i : Nat} {v : Value} (hi : cs[i]? = some v) : w.cell? ⟨b, i, none⟩ = some v := by
  rw [cell_of_row _ _ _ _ _ _ h]; exact hi
theorem Row.frozen {w : World} {b : Nat} {t : TypeId} {cs : Array Value} (h : Row w b t cs) (i : Nat) : w.frozen? ⟨b, i, none⟩ = false := frozen_of_row _ _ _ _ _ h
theorem Row.set {w : World} {b i : Nat} {t : TypeId} {cs : Array Value} {x : Value} (h : Row w b t cs) : Row (w.setCell ⟨b, i, none⟩ x) b t (cs.setIfInBounds i x) := by
  unfold Row at *
  rw [heap_setCell_same _ _ _ _ _ _ h]
theorem Row.range {w : World} {b : Nat} {t : TypeId} {c : List Value} (h : Row w b t c.toArray) : w.rangeAt b 0 c := by
  intro j v hv
  rw [Nat.zero_add, cell_of_row _ _ _ _ _ _ h]
  simpa using hv
attribute [irreducible] Row
attribute [irreducible] SlL
end Go.Proofs.Ytbjpkmbhbpcbgaa
namespace Go.Proofs.Ytbjpkmbhbpcbgaa
open Go Go.RowKit
set_option linter.unusedVariables false
/-- what is no cells from B on lies as it lay -/
def KF (B : Nat) (W W' : World) : Prop := KeepsFrom B W W'
theorem KF.refl (B : Nat) (W : World) : KF B W W := KeepsFrom.refl B W
theorem KF.lt {B : Nat} {W W' : World} (h : KF B W W') : W.heap.size ≤ W'.heap.size := h.size
theorem KF.below {B : Nat} {W W1 W2 : World} (h : KF B W W1) (hb : Below W1.heap.size W1 W2) (_ : W.heap.size ≤ W1.heap.size) : KF B W W2 :=
  KeepsFrom.trans h ⟨hb.size, fun k _ _ hk _ => (hb.block k (Array.getElem?_eq_some_iff.1 hk).1).trans hk⟩
theorem KF.alloc {B : Nat} {W W1 : World} (h : KF B W W1) (o : Obj) : KF B W (W1.alloc o) := h.below (below_alloc' _ _) h.size
theorem KF.drew {B : Nat} {W W1 : World} (h : KF B W W1) : KF B W W1.drew := ⟨h.size, h.same⟩
theorem KF.rowOther {B : Nat} {W W1 : World} (h : KF B W W1) {k : Nat} {cs : Array Value} (e : k < B ∨ W.heap.size ≤ k) : KF B W (W1.setRow k cs) :=
  ⟨by simpa [World.setRow] using h.size, fun j o hB hj ho => by
    have hlt := (Array.getElem?_eq_some_iff.1 hj).1
    rw [setRow_other _ _ _ _ (by omega)]
    exact h.same j o hB hj ho⟩
theorem KF.grown {B : Nat} {W W1 W2 : World} {row : Option Nat} (h : KF B W W1) (hg : W1.grownBy W2 row) (hr : ∀ r, row = some r → ∃ cur t f, W1.heap[r]? = some (.cells cur t f)) : KF B W W2 :=
  KeepsFrom.trans h ⟨hg.size, fun k o _ hk ho => (hg.block k (Array.getElem?_eq_some_iff.1 hk).1 (fun e => by
    obtain ⟨cur, t, f, hc⟩ := hr k e.symm
    rw [hk] at hc; cases hc; cases ho)).trans hk⟩
/-- the block for deferred calls -/
def DF (W : World) (D : Nat) : Prop := W.heap[D]? = some (.deferred (some []))
theorem DF.lt {W : World} {D : Nat} (h : DF W D) : D < W.heap.size := (Array.getElem?_eq_some_iff.1 h).1
theorem DF.of {W W' : World} {D : Nat} (h : DF W D) (e : W'.heap[D]? = W.heap[D]?) : DF W' D := by unfold DF at *; rw [e]; exact h
theorem DF.below {W W' : World} {B D : Nat} (h : DF W D) (hb : Below B W W') (e : D < B) : DF W' D := h.of (hb.block D e)
theorem DF.alloc {W : World} {D : Nat} (h : DF W D) (o : Obj) : DF (W.alloc o) D := h.below (below_alloc' _ _) h.lt
theorem DF.drew {W : World} {D : Nat} (h : DF W D) : DF W.drew D := h
theorem DF.rowOther {W : World} {D k : Nat} {cs : Array Value} (h : DF W D) (e : D ≠ k) : DF (W.setRow k cs) D := h.of (setRow_other _ _ _ _ e)
theorem DF.grown {W W1 : World} {D : Nat} {row : Option Nat} (h : DF W D) (hg : W.grownBy W1 row) (hr : ∀ r, row = some r → ∃ cur t f, W.heap[r]? = some (.cells cur t f)) : DF W1 D :=
  h.of (hg.block D h.lt (fun e => by
    obtain ⟨cur, t, f, hc⟩ := hr D e.symm
    unfold DF at h
    rw [h] at hc; cases hc))
end Go.Proofs.Ytbjpkmbhbpcbgaa
namespace Go.Proofs.Ytbjpkmbhbpcbgaa
open Go Go.RowKit Go.Shelf
set_option linter.unusedVariables false
set_option linter.unusedSimpArgs false
attribute [local go_sem] Oper.semAt_some
/-- the captured cells stay -/
def KpM (bp bn : Nat) (W W' : World) : Prop := W'.heap[bp]? = W.heap[bp]? ∧ W'.heap[bn]? = W.heap[bn]?
theorem KpM.refl (bp bn : Nat) (W : World) : KpM bp bn W W := ⟨rfl, rfl⟩
theorem KpM.trans {bp bn : Nat} {A B C : World} (h : KpM bp bn A B) (k : KpM bp bn B C) : KpM bp bn A C := ⟨k.1.trans h.1, k.2.trans h.2⟩
theorem KpM.put {bp bn : Nat} {w : World} (h0 : bp < w.heap.size) (h1 : bn < w.heap.size) (W : World) (l : Nat) (o o' : Obj) (hl : w.heap.size ≤ l) (_ : W.heap[l]? = some o) (_ : o.isCells = false) (_ : o.isWalk = false) : KpM bp bn W (W.putObj l o') :=
  ⟨World.putObj_heap_other (by omega), World.putObj_heap_other (by omega)⟩
theorem One.same {w w' : World} {b : Nat} {t : TypeId} {v : Value} (h : One w b t v) (h' : One w' b t v) : w'.heap[b]? = w.heap[b]? := by unfold One at *; rw [h, h']
end Go.Proofs.Ytbjpkmbhbpcbgaa
end
section
namespace Go.Proofs.Ytbjpkmbhbpcbgaa
open Go.RowKit
set_option linter.unusedVariables false
attribute [local irreducible] deg invN quoP resP
/-- the polynomial T -/
def TP : Nat → Nat := fun k => if k = 1 then 1 else 0
theorem TP_lt {p : Nat} (hp : 2 ≤ p) (k : Nat) : TP k < p := by unfold TP; split <;> omega
end Go.Proofs.Ytbjpkmbhbpcbgaa
namespace Go.Proofs.Ytbjpkmbhbpcbgaa
open Go Go.RowKit
set_option linter.unusedVariables false
set_option linter.unusedSimpArgs false
attribute [local irreducible] deg invN dS qS stp quoP resP oneP ofN dvo run monL TP
/-- the cells of a factor -/
def facC (f : Nat → Nat) (k : Nat) : List Value := bl 64 f ++ [.int .i64 (k : Int)]
theorem built_T : Try.prog.built 23 [(0, .int .u8 0), (1, .int .u8 1)] = some (bcells 64 TP) := by unfold bcells bl; kernel_rfl
def facRows (p : Nat) (L : List (Nat × Nat)) : List (List Value) := L.map fun x => facC (ofN p x.1) x.2
/-- the heap has at least n blocks -/
def SzG (n : Nat) (W : World) : Prop := n ≤ W.heap.size
theorem SzG.lt {n : Nat} {W : World} (h : SzG n W) : n ≤ W.heap.size := h
theorem SzG.below {n B : Nat} {W W' : World} (h : SzG n W) (hb : Below B W W') (_ : n ≤ W.heap.size) : SzG n W' := Nat.le_trans h hb.size
theorem SzG.alloc {n : Nat} {W : World} (h : SzG n W) (o : Obj) : SzG n (W.alloc o) := h.below (below_alloc' _ _) h
theorem SzG.drew {n : Nat} {W : World} (h : SzG n W) : SzG n W.drew := h
theorem SzG.rowOther {n k : Nat} {W : World} {cs : Array Value} (h : SzG n W) (_ : 0 ≤ k) : SzG n (W.setRow k cs) := by unfold SzG at *; simpa [World.setRow] using h
theorem SzG.setOther {n : Nat} {W : World} {a : Addr} {v : Value} (h : SzG n W) (_ : 0 ≤ a.block) : SzG n (W.setCell a v) := by unfold SzG at *; simpa using h
end Go.Proofs.Ytbjpkmbhbpcbgaa
namespace Go.Proofs.Ytbjpkmbhbpcbgaa
open Go Go.RowKit
set_option linter.unusedVariables false
set_option linter.unusedSimpArgs false
attribute [local irreducible] deg invN dS qS stp quoP resP oneP ofN dvo run monL TP
def FV (p : Nat) (n0 : Nat) (x : Nat × Nat) (l : List (Nat × Nat)) (y : Value) (w : World) : Prop := SlL w n0 124 65 y (facRows p (x :: l))
theorem FV.below {p n0 : Nat} {x : Nat × Nat} {l : List (Nat × Nat)} {y : Value} {w w' : World} (h : FV p n0 x l y w) (hb : Below w.heap.size w w') : FV p n0 x l y w' := SlL.below h hb h.lt
end Go.Proofs.Ytbjpkmbhbpcbgaa
namespace Go.Proofs.Ytbjpkmbhbpcbgaa
open Go Go.RowKit
set_option linter.unusedVariables false
set_option linter.unusedSimpArgs false
attribute [local irreducible] deg invN dS qS stp quoP resP oneP ofN dvo run addK monL TP
set_option maxRecDepth 100000 in
theorem l01T_any (w : World) : Calls Try.prog 152 #[] w fun e w' => e = .returned (.agg (bcells 64 TP)) ∧ Below w.heap.size w w' := by
  go_enter Try.func152, Try.ntmps152
  go_upto_region 1 with (fail)
  rw [← zero64]
  have b0 := Blk.new w 64 23 (fun _ => 0)
  go_wp2_with (first | (refine wpList_build_of rfl 23 _ rfl (bcells 64 TP) (by rw [Array.toList_map]; exact built_T) ?_) | (refine wpList_store_blk rfl 23 _ _ rfl _ 64 TP rfl rfl 23 _ b0 Try.size23 ?_))
  refine bodyPost_ret (results_blk rfl _ _ _ 64 23 5 _ rfl (b0.row _) Try.underlying23 Try.size23) rfl ⟨rfl, below_row (below_alloc' _ _) (Nat.le_refl _) _⟩
end Go.Proofs.Ytbjpkmbhbpcbgaa
end
section
set_option linter.unusedVariables false
namespace Go.Proofs.Ytbjpkmbhbpcbgaa
open Rg
/-- T^q in the place of T -/
def strP (q : Nat) (x : Nat → Nat) : Nat → Nat := fun k => if k % q = 0 then x (k / q) else 0
theorem strP_lt {p q : Nat} {x : Nat → Nat} (hp : 0 < p) (hq : 1 ≤ q) (hx : ∀ k, k < 64 → x k < p) (k : Nat) (hk : k < 64) : strP q x k < p := by
  unfold strP
  split
  · exact hx _ (Nat.lt_of_le_of_lt (Nat.div_le_self _ _) hk)
  · exact hp
end Go.Proofs.Ytbjpkmbhbpcbgaa
end
section
namespace Go.Proofs.Ytbjpkmbhbpcbgaa
open Go Go.RowKit
set_option linter.unusedVariables false
set_option linter.unusedSimpArgs false
/-- the cells below j of the stretched polynomial -/
def spS (q : Nat) (x : Nat → Nat) (j : Nat) : Nat → Nat := fun k => if k % q = 0 ∧ k / q < j then x (k / q) else 0
theorem spS_z (q : Nat) (x : Nat → Nat) : spS q x 0 = fun _ => 0 := by funext k; unfold spS; rw [if_neg (fun h => Nat.not_lt_zero _ h.2)]
theorem spS_s {q j : Nat} {x : Nat → Nat} (hq : 1 ≤ q) (k : Nat) : (if k = j * q then x j else spS q x j k) = spS q x (j + 1) k := by
  unfold spS
  by_cases h : k = j * q
  · subst h
    have e1 : j * q % q = 0 := Nat.mul_mod_left j q
    have e2 : j * q / q = j := Nat.mul_div_cancel j (by omega)
    rw [if_pos rfl, e1, e2, if_pos ⟨rfl, by omega⟩]
  · rw [if_neg h]
    by_cases h1 : k % q = 0
    · have e := Nat.div_add_mod k q
      have : k / q ≠ j := by
        intro h2; rw [h2, h1, Nat.add_zero, Nat.mul_comm] at e; omega
      by_cases h3 : k / q < j
      · rw [if_pos ⟨h1, h3⟩, if_pos ⟨h1, by omega⟩]
      · rw [if_neg (fun h => h3 h.2), if_neg (fun h => by have := h.2; omega)]
    · rw [if_neg (fun h => h1 h.1), if_neg (fun h => h1 h.1)]
theorem spS_end {q n : Nat} {x : Nat → Nat} (h : deg x < (n : Int)) : ∀ k, k < 64 → spS q x n k = strP q x k := by
  intro k hk
  unfold spS strP
  by_cases h1 : k % q = 0
  · rw [if_pos h1]
    by_cases h2 : k / q < n
    · rw [if_pos ⟨h1, h2⟩]
    · rw [if_neg (fun h => h2 h.2)]
      have h3 : k / q < 64 := Nat.lt_of_le_of_lt (Nat.div_le_self _ _) hk
      rcases deg_spec x with ⟨_, h5⟩ | ⟨d, hd, h4, _, h5⟩
      · exact (h5 _ h3).symm
      · exact (h5 _ (by omega) h3).symm
  · rw [if_neg (fun h => h1 h.1), if_neg h1]
attribute [local irreducible] deg invN dS qS stp quoP resP oneP addK TP strP
set_option maxRecDepth 100000 in
set_option maxHeartbeats 1600000 in
theorem stretched_any (q : Nat) (f : Nat → Nat) (w : World) (hq : 1 ≤ q) (hq2 : q ≤ 1000000) (hf : ∀ k, k < 64 → f k < 256) (hd : deg f * (q : Int) ≤ 63) :
    Calls Try.prog 190 #[.agg (bcells 64 f), .int .i64 (q : Int)] w fun e w' => e = .returned (.agg (bcells 64 (strP q f))) ∧ Below w.heap.size w w' := by
  obtain ⟨gb1, gb2⟩ := deg_bounds f
  obtain ⟨NN, hNN⟩ : ∃ NN : Nat, deg f = (NN : Int) - 1 := ⟨(deg f + 1).toNat, by omega⟩
  have HD := Lib.hid hNN
  have hN6 : NN ≤ 64 := by omega
  have HQ := Lib.hid (show ∀ j, j < NN → j * q ≤ 63 from fun j hj => by
    rw [hNN] at hd
    have h1 : (j : Int) * (q : Int) ≤ ((NN : Int) - 1) * (q : Int) := Int.mul_le_mul_of_nonneg_right (by omega) (by omega)
    have h2 : (j : Int) * (q : Int) ≤ 63 := by omega
    exact_mod_cast h2)
  have HV := Lib.hid (bcells_congr (spS_end (q := q) (x := f) (n := NN) (by omega)))
  have HSS := Lib.hid (fun j k => spS_s (q := q) (j := j) (x := f) hq k)
  have HZ := Lib.hid (spS_z q f)
  clear hNN hd
  go_enter Try.func190, Try.ntmps190
  go_upto_region 1 with (fail)
  rw [← zero64]
  obtain ⟨W1, hwo⟩ : ∃ v : World, v = ((w.alloc (.cells (bcells 64 (f)) 23)).alloc (.cells (bcells 64 fun _ => 0) 23)) := ⟨_, rfl⟩
  have B0 : Blk W1 (w.heap.size) 64 23 (f) := by subst hwo; have := ((Blk.new w 64 23 (f)).alloc (.cells (bcells 64 fun _ => 0) 23)); simpa using this
  have B1 : Blk W1 (w.heap.size + 1) 64 23 (fun _ => 0) := by subst hwo; have := (Blk.new (w.alloc (.cells (bcells 64 (f)) 23)) 64 23 (fun _ => 0)); simpa using this
  have hb : Below w.heap.size w W1 := by subst hwo; exact (((Below.refl _ _).alloc (Nat.le_refl _) _).alloc (by simp) _)
  rw [← hwo]
  clear hwo
  go_upto_region 2 with (first | rw [← zero64])
  have lt_B0 := B0.lt
  have lt_B1 := B1.lt
  have lhb := hb.size
  have qB0 : Blk (W1.alloc (.cells (bcells 64 fun _ => 0) 23)) (w.heap.size) 64 23 (f) := (B0.alloc (.cells (bcells 64 fun _ => 0) 23))
  have qB1 : Blk (W1.alloc (.cells (bcells 64 fun _ => 0) 23)) (w.heap.size + 1) 64 23 (fun _ => 0) := (B1.alloc (.cells (bcells 64 fun _ => 0) 23))
  have qB2 : Blk (W1.alloc (.cells (bcells 64 fun _ => 0) 23)) (W1.heap.size) 64 23 (fun _ => 0) := (Blk.new W1 64 23 (fun _ => 0))
  have qhb : Below w.heap.size w (W1.alloc (.cells (bcells 64 fun _ => 0) 23)) := (hb.alloc (by have := hb.size; simp; omega) (.cells (bcells 64 fun _ => 0) 23))
  obtain ⟨W2, hwo⟩ : ∃ v : World, v = (W1.alloc (.cells (bcells 64 fun _ => 0) 23)) := ⟨_, rfl⟩
  rw [← hwo] at qB0 qB1 qB2 qhb ⊢
  clear hwo
  clear B0 B1 hb
  have B0 := qB0
  have B1 := qB1
  have B2 := qB2
  have hb := qhb
  clear qB0 qB1 qB2 qhb
  obtain ⟨N1, hNN⟩ : ∃ n : Nat, n = W1.heap.size := ⟨_, rfl⟩
  rw [← hNN] at lt_B0 lt_B1 lhb B2 ⊢
  clear hNN
  have zN1_0 := lt_B0
  have zN1_1 := lt_B1
  have zN1 := lhb
  clear lt_B0 lt_B1 lhb
  try simp only [Act.put, List.setIfInBounds_toArray, List.set_cons_zero, List.set_cons_succ]
  go_upto_region 99 with (first | (refine wpList_load_any rfl 23 (.tmp 2) rfl _ rfl 64 23 _ (B0) _ Try.underlying23 rfl Try.size23 ?_) | (go_at_call 78; refine (degree_any f _).mono ?_; rintro e W3 ⟨rfl, hW3⟩; replace B0 := B0.below hW3 B0.lt; replace B1 := B1.below hW3 B1.lt; replace B2 := B2.below hW3 B2.lt; replace hb := (hb).trans (hW3.mono (hb).size); rw [HD.out]))
  have hcnt : ((NN : Int) - 1 + 1) = (NN : Int) := by omega
  go_loopw [10] (fun i wr => ∃ j : Nat, i = .int .i64 (j : Int) ∧ j ≤ NN ∧ Below w.heap.size w wr ∧ Blk wr (w.heap.size) 64 23 f ∧ Blk wr (w.heap.size + 1) 64 23 (fun _ => 0) ∧ Blk wr (N1) 64 23 (spS q f j)) (fun i _ => NN - (intOf i).toNat)
  case atStart => exact ⟨0, rfl, Nat.zero_le _, hb, B0, B1, by rw [HZ.out]; exact B2⟩
  case round =>
    clear hb B0 B1 B2
    obtain ⟨j, rfl, hjn, hb, B0, B1, B2⟩ := hrel
    by_cases hj : j < NN
    · have hji : (j : Int) < (NN : Int) - 1 + 1 := by omega
      have hj6 : j < 64 := by omega
      have hjq := HQ.out j hj
      obtain ⟨J, hJ⟩ : ∃ J, J = j * q := ⟨_, rfl⟩
      have hJi : (j : Int) * (q : Int) = (J : Int) := by rw [hJ]; push_cast; rfl
      have hJ6 : J < 64 := by omega
      have hC6 := hf j hj6
      have HSJ := Lib.hid (show ∀ k, (if k = J then f j else spS q f j k) = spS q f (j + 1) k from fun k => by rw [hJ]; exact HSS.out j k)
      clear hjq
      go_upto_region 5 with (fail)
      have cc := B0.cell (i := j) hj6
      have c5 := B2.cell (i := J) hJ6
      have zz := B2.frozen J
      clear hJ
      have hwr : ∀ x : Int, x = (J : Int) → 0 ≤ x ∧ x < 64 := fun x e => by omega
      go_upto_region 6 with (first | rw [hJi])
      clear cc c5 zz hwr
      have lt_B0 := B0.lt
      have lt_B1 := B1.lt
      have lt_B2 := B2.lt
      have qB0 : Blk (wr.setCell ⟨N1, J, none⟩ (.int .u8 ((f j : Int)))) (w.heap.size) 64 23 (f) := (B0.setOther (by show (w.heap.size) ≠ (N1); omega))
      have qB1 : Blk (wr.setCell ⟨N1, J, none⟩ (.int .u8 ((f j : Int)))) (w.heap.size + 1) 64 23 (fun _ => 0) := (B1.setOther (by show (w.heap.size + 1) ≠ (N1); omega))
      have qB2 : Blk (wr.setCell ⟨N1, J, none⟩ (.int .u8 ((f j : Int)))) (N1) 64 23 (spS q f (j + 1)) := ((B2.set (v := f j) (rfl)).congr (fun k _ => HSJ.out k))
      have qhb : Below w.heap.size w (wr.setCell ⟨N1, J, none⟩ (.int .u8 ((f j : Int)))) := (hb.setCell (by show w.heap.size ≤ (N1); omega) _)
      obtain ⟨W4, hwo⟩ : ∃ v : World, v = (wr.setCell ⟨N1, J, none⟩ (.int .u8 ((f j : Int)))) := ⟨_, rfl⟩
      rw [← hwo] at qB0 qB1 qB2 qhb ⊢
      clear hwo
      clear B0 B1 B2 hb
      have B0 := qB0
      have B1 := qB1
      have B2 := qB2
      have hb := qhb
      clear qB0 qB1 qB2 qhb
      try simp only [Act.put, List.setIfInBounds_toArray, List.set_cons_zero, List.set_cons_succ]
      go_wp2_with fail
      go_roundw
      case rel => exact ⟨j + 1, by go_num, by omega, hb, B0, B1, B2⟩
      case measure => simp [intOf] <;> omega
    · have hji : ¬ (j : Int) < (NN : Int) - 1 + 1 := by omega
      obtain rfl : j = NN := by omega
      go_upto_region 7 with (fail)
      have lt_B0 := B0.lt
      have lt_B1 := B1.lt
      have lt_B2 := B2.lt
      go_wp2_with (first | rw [← zero64] | (refine wpList_load_any rfl 23 (.tmp 5) rfl _ rfl 64 23 _ (B2) _ Try.underlying23 rfl Try.size23 ?_) | (refine wpList_store_blk rfl 23 (.tmp 4) (.tmp 21) rfl _ 64 (spS q f j) rfl rfl 23 _ (B1) Try.size23 ?_; try simp only [Act.put]))
      have qB0 : Blk (wr.setRow (w.heap.size + 1) (bcells 64 (spS q f j))) (w.heap.size) 64 23 (f) := (B0.rowOther (by omega))
      have qB1 : Blk (wr.setRow (w.heap.size + 1) (bcells 64 (spS q f j))) (w.heap.size + 1) 64 23 (spS q f j) := (B1.row (spS q f j))
      have qB2 : Blk (wr.setRow (w.heap.size + 1) (bcells 64 (spS q f j))) (N1) 64 23 (spS q f j) := (B2.rowOther (by omega))
      have qhb : Below w.heap.size w (wr.setRow (w.heap.size + 1) (bcells 64 (spS q f j))) := (below_row hb (by omega) _)
      obtain ⟨W4, hwo⟩ : ∃ v : World, v = (wr.setRow (w.heap.size + 1) (bcells 64 (spS q f j))) := ⟨_, rfl⟩
      rw [← hwo] at qB0 qB1 qB2 qhb ⊢
      clear hwo
      clear B0 B1 B2 hb
      have B0 := qB0
      have B1 := qB1
      have B2 := qB2
      have hb := qhb
      clear qB0 qB1 qB2 qhb
      try simp only [Act.put, List.setIfInBounds_toArray, List.set_cons_zero, List.set_cons_succ]
      refine bodyPost_ret (results_blk rfl _ _ _ 64 23 5 _ rfl B1 Try.underlying23 Try.size23) rfl ⟨by rw [HV.out], hb⟩
end Go.Proofs.Ytbjpkmbhbpcbgaa
end
section
namespace Go.Proofs.Ytbjpkmbhbpcbgaa
open Go Go.RowKit
set_option linter.unusedVariables false
set_option linter.unusedSimpArgs false
attribute [local irreducible] deg resP oneP addK TP strP prd
theorem refuse_ok (x : Int) (h : x ≤ 63) (w : World) : Calls Try.prog 194 #[.int .i64 x] w fun e w' => e = .returned (.tuple #[]) ∧ w = w' := by
  have h1 : ¬ 63 < x := by omega
  go_enter Try.func194, Try.ntmps194
  go_wp2_with fail
  first | go_end0 | skip
  exact ⟨rfl, rfl⟩
theorem refuse_no (x : Int) (h : 63 < x) (w : World) : Calls Try.prog 194 #[.int .i64 x] w fun e w' => e = .panicked [{ v := .iface 138 (.int .i64 3), recovered := false }] ∧ w = w' := by
  go_enter Try.func194, Try.ntmps194
  go_wp2_with fail
  skip
  exact ⟨rfl, rfl, rfl⟩
theorem pow_b6 {p i : Nat} (h1 : 2 ≤ p) (h2 : p ≤ 7) (hi : i ≤ 6) : 1 ≤ p ^ i ∧ p ^ i ≤ 117649 := by
  have a : p ^ i ≤ 7 ^ i := Nat.pow_le_pow_left h2 i
  have b : 7 ^ i ≤ 7 ^ 6 := Nat.pow_le_pow_right (by omega) hi
  have c : 7 ^ 6 = 117649 := by decide
  have d : 0 < p ^ i := Nat.pow_pos (by omega)
  omega
/-- small enough to be raised -/
def smI (p i : Nat) : Prop := i ≤ 20 ∧ p ^ i ≤ 117649
theorem smI_6 {p i : Nat} (h1 : 2 ≤ p) (h2 : p ≤ 7) (hi : i ≤ 6) : smI p i := ⟨by omega, (pow_b6 h1 h2 hi).2⟩
theorem smI_le {p i j : Nat} (h1 : 2 ≤ p) (h : smI p i) (hj : j ≤ i) : smI p j := ⟨Nat.le_trans hj h.1, Nat.le_trans (Nat.pow_le_pow_right (by omega) hj) h.2⟩
set_option maxRecDepth 100000 in
set_option maxHeartbeats 1600000 in
theorem raised_ok (p i : Nat) (f : Nat → Nat) (w : World) (p2 : 2 ≤ p) (p7 : p ≤ 7) (hi : smI p i) (lf : ∀ k, k < 64 → f k < p) (hd : deg f * ((p ^ i : Nat) : Int) ≤ 63) :
    Calls Try.prog 176 #[.int .i64 (p : Int), .agg (bcells 64 f), .int .i64 (i : Int)] w fun e w' => e = .returned (.agg (bcells 64 (strP (p ^ i) f))) ∧ Below w.heap.size w w' := by
  have q1 : 1 ≤ p ^ i := Nat.pow_pos (by omega)
  have q2 := hi.2
  have hi20 := hi.1
  have HNO := Lib.hid (fun W => norm_any p i W p2 p7 hi20)
  obtain ⟨Q, hQ⟩ : ∃ Q, Q = p ^ i := ⟨_, rfl⟩
  rw [← hQ] at q1 q2 HNO hd
  have HST := Lib.hid (show ∀ W, Calls Try.prog 190 #[.agg (bcells 64 f), .int .i64 (Q : Int)] W fun e w' => e = .returned (.agg (bcells 64 (strP (p ^ i) f))) ∧ Below W.heap.size W w' from fun W => by
    rw [← hQ]; exact stretched_any Q f W q1 (by omega) (fun k hk => by have := lf k hk; omega) hd)
  obtain ⟨fb1, fb2⟩ := deg_bounds f
  have mb1 : -117649 ≤ deg f * (Q : Int) := by
    have h := Int.mul_le_mul_of_nonneg_right fb1 (show (0 : Int) ≤ (Q : Int) by omega)
    omega
  have mb2 : deg f * (Q : Int) ≤ 7411887 := by
    have h := Int.mul_le_mul_of_nonneg_right fb2 (show (0 : Int) ≤ (Q : Int) by omega)
    omega
  clear hQ
  go_enter Try.func176, Try.ntmps176
  go_upto_region 1 with (fail)
  rw [← zero64]
  obtain ⟨W1, hwo⟩ : ∃ v : World, v = ((w.alloc (.cells (bcells 64 (f)) 23)).alloc (.cells (bcells 64 fun _ => 0) 23)) := ⟨_, rfl⟩
  have B0 : Blk W1 (w.heap.size) 64 23 (f) := by subst hwo; have := ((Blk.new w 64 23 (f)).alloc (.cells (bcells 64 fun _ => 0) 23)); simpa using this
  have B1 : Blk W1 (w.heap.size + 1) 64 23 (fun _ => 0) := by subst hwo; have := (Blk.new (w.alloc (.cells (bcells 64 (f)) 23)) 64 23 (fun _ => 0)); simpa using this
  have hb : Below w.heap.size w W1 := by subst hwo; exact (((Below.refl _ _).alloc (Nat.le_refl _) _).alloc (by simp) _)
  rw [← hwo]
  clear hwo
  go_upto_region 2 with (first | (go_at_call 91; refine (HNO.out _).mono ?_; rintro e wS ⟨rfl, rfl⟩))
  go_upto_region 3 with (first | (refine wpList_load_any rfl 23 (.tmp 4) rfl _ rfl 64 23 _ (B0) _ Try.underlying23 rfl Try.size23 ?_) | (go_at_call 78; refine (degree_any f _).mono ?_; rintro e W2 ⟨rfl, hW2⟩; replace B0 := B0.below hW2 B0.lt; replace B1 := B1.below hW2 B1.lt; replace hb := (hb).trans (hW2.mono (hb).size)) | (go_at_call 194; refine (refuse_ok _ hd _).mono ?_; rintro e wS ⟨rfl, rfl⟩))
  have lt_B0 := B0.lt
  have lt_B1 := B1.lt
  go_wp2_with (first | rw [← zero64] | (refine wpList_load_any rfl 23 (.tmp 4) rfl _ rfl 64 23 _ (B0) _ Try.underlying23 rfl Try.size23 ?_) | (go_at_call 190; refine (HST.out _).mono ?_; rintro e W3 ⟨rfl, hW3⟩; replace B0 := B0.below hW3 B0.lt; replace B1 := B1.below hW3 B1.lt; replace hb := (hb).trans (hW3.mono (hb).size)) | (refine wpList_store_blk rfl 23 (.tmp 6) (.tmp 18) rfl _ 64 (strP (p ^ i) f) rfl rfl 23 _ (B1) Try.size23 ?_; try simp only [Act.put]))
  have qB0 : Blk (W3.setRow (w.heap.size + 1) (bcells 64 (strP (p ^ i) f))) (w.heap.size) 64 23 (f) := (B0.rowOther (by omega))
  have qB1 : Blk (W3.setRow (w.heap.size + 1) (bcells 64 (strP (p ^ i) f))) (w.heap.size + 1) 64 23 (strP (p ^ i) f) := (B1.row (strP (p ^ i) f))
  have qhb : Below w.heap.size w (W3.setRow (w.heap.size + 1) (bcells 64 (strP (p ^ i) f))) := (below_row hb (by omega) _)
  obtain ⟨W4, hwo⟩ : ∃ v : World, v = (W3.setRow (w.heap.size + 1) (bcells 64 (strP (p ^ i) f))) := ⟨_, rfl⟩
  rw [← hwo] at qB0 qB1 qhb ⊢
  clear hwo
  clear B0 B1 hb
  have B0 := qB0
  have B1 := qB1
  have hb := qhb
  clear qB0 qB1 qhb
  try simp only [Act.put, List.setIfInBounds_toArray, List.set_cons_zero, List.set_cons_succ]
  refine bodyPost_ret (results_blk rfl _ _ _ 64 23 5 _ rfl B1 Try.underlying23 Try.size23) rfl ⟨rfl, hb⟩
set_option maxRecDepth 100000 in
set_option maxHeartbeats 1600000 in
theorem raised_no (p i : Nat) (f : Nat → Nat) (w : World) (p2 : 2 ≤ p) (p7 : p ≤ 7) (hi : smI p i) (lf : ∀ k, k < 64 → f k < p) (hd : 63 < deg f * ((p ^ i : Nat) : Int)) :
    Calls Try.prog 176 #[.int .i64 (p : Int), .agg (bcells 64 f), .int .i64 (i : Int)] w fun e w' => e = .panicked [{ v := .iface 138 (.int .i64 3), recovered := false }] ∧ Below w.heap.size w w' := by
  have q1 : 1 ≤ p ^ i := Nat.pow_pos (by omega)
  have q2 := hi.2
  have hi20 := hi.1
  have HNO := Lib.hid (fun W => norm_any p i W p2 p7 hi20)
  obtain ⟨Q, hQ⟩ : ∃ Q, Q = p ^ i := ⟨_, rfl⟩
  rw [← hQ] at q1 q2 HNO hd
  obtain ⟨fb1, fb2⟩ := deg_bounds f
  have mb1 : -117649 ≤ deg f * (Q : Int) := by
    have h := Int.mul_le_mul_of_nonneg_right fb1 (show (0 : Int) ≤ (Q : Int) by omega)
    omega
  have mb2 : deg f * (Q : Int) ≤ 7411887 := by
    have h := Int.mul_le_mul_of_nonneg_right fb2 (show (0 : Int) ≤ (Q : Int) by omega)
    omega
  clear hQ
  go_enter Try.func176, Try.ntmps176
  go_upto_region 1 with (fail)
  rw [← zero64]
  obtain ⟨W1, hwo⟩ : ∃ v : World, v = ((w.alloc (.cells (bcells 64 (f)) 23)).alloc (.cells (bcells 64 fun _ => 0) 23)) := ⟨_, rfl⟩
  have B0 : Blk W1 (w.heap.size) 64 23 (f) := by subst hwo; have := ((Blk.new w 64 23 (f)).alloc (.cells (bcells 64 fun _ => 0) 23)); simpa using this
  have B1 : Blk W1 (w.heap.size + 1) 64 23 (fun _ => 0) := by subst hwo; have := (Blk.new (w.alloc (.cells (bcells 64 (f)) 23)) 64 23 (fun _ => 0)); simpa using this
  have hb : Below w.heap.size w W1 := by subst hwo; exact (((Below.refl _ _).alloc (Nat.le_refl _) _).alloc (by simp) _)
  rw [← hwo]
  clear hwo
  go_upto_region 2 with (first | (go_at_call 91; refine (HNO.out _).mono ?_; rintro e wS ⟨rfl, rfl⟩))
  go_wp2_with (first | (refine wpList_load_any rfl 23 (.tmp 4) rfl _ rfl 64 23 _ (B0) _ Try.underlying23 rfl Try.size23 ?_) | (go_at_call 78; refine (degree_any f _).mono ?_; rintro e W2 ⟨rfl, hW2⟩; replace B0 := B0.below hW2 B0.lt; replace B1 := B1.below hW2 B1.lt; replace hb := (hb).trans (hW2.mono (hb).size)) | (go_at_call 194; refine (refuse_no _ hd _).mono ?_; rintro e wS ⟨rfl, rfl⟩))
  exact ⟨rfl, rfl, hb⟩
/-- a power in the place of T, and whether it fits -/
def rsV (p : Nat) (a : Nat → Nat) (i : Nat) : (Nat → Nat) × Bool := if deg a * ((p ^ i : Nat) : Int) ≤ 63 then (strP (p ^ i) a, true) else (fun _ => 0, false)
theorem rsV_ok {p i : Nat} {a : Nat → Nat} (h : deg a * ((p ^ i : Nat) : Int) ≤ 63) : rsV p a i = (strP (p ^ i) a, true) := if_pos h
theorem rsV_no {p i : Nat} {a : Nat → Nat} (h : 63 < deg a * ((p ^ i : Nat) : Int)) : rsV p a i = (fun _ => 0, false) := if_neg (by omega)
theorem rsV_lt {p i : Nat} {a : Nat → Nat} (hp : 2 ≤ p) (ha : ∀ k, k < 64 → a k < p) : ∀ k, k < 64 → (rsV p a i).1 k < p := by
  intro k hk
  unfold rsV
  split
  · exact strP_lt (by omega) (Nat.pow_pos (by omega)) ha k hk
  · show 0 < p; omega
/-- a bracket, and whether it fits -/
def bkV (p i j : Nat) : (Nat → Nat) × Bool := (addK p (rsV p TP i).1 (rsV p TP j).1 (-1), (rsV p TP i).2 && (rsV p TP j).2)
theorem bkV_lt {p i j : Nat} (hp : 2 ≤ p) (k : Nat) : (bkV p i j).1 k < p := addK_lt (by omega) k
set_option maxRecDepth 100000 in
set_option maxHeartbeats 1600000 in
theorem apart_ok (p i j : Nat) (w : World) (p2 : 2 ≤ p) (p7 : p ≤ 7) (hi : smI p i) (hj : smI p j) (h1 : deg TP * ((p ^ i : Nat) : Int) ≤ 63) (h2 : deg TP * ((p ^ j : Nat) : Int) ≤ 63) :
    Calls Try.prog 131 #[.int .i64 (p : Int), .int .i64 (i : Int), .int .i64 (j : Int)] w fun e w' => e = .returned (.agg (bcells 64 ((bkV p i j).1))) ∧ Below w.heap.size w w' := by
  have lT : ∀ k, k < 64 → TP k < p := fun k _ => TP_lt p2 k
  have HR1 := Lib.hid (fun W => raised_ok p i TP W p2 p7 hi lT h1)
  have HR2 := Lib.hid (fun W => raised_ok p j TP W p2 p7 hj lT h2)
  have l1 : ∀ k, k < 64 → strP (p ^ i) TP k < p := strP_lt (by omega) (Nat.pow_pos (by omega)) lT
  have l2 : ∀ k, k < 64 → strP (p ^ j) TP k < p := strP_lt (by omega) (Nat.pow_pos (by omega)) lT
  have HDI := Lib.hid (show ∀ W, Calls Try.prog 124 #[.int .i64 (p : Int), .agg (bcells 64 (strP (p ^ i) TP)), .agg (bcells 64 (strP (p ^ j) TP))] W fun e w' => e = .returned (.agg (bcells 64 (bkV p i j).1)) ∧ Below W.heap.size W w' from fun W => by
    have e : bcells 64 (bkV p i j).1 = bcells 64 (fun x => (strP (p ^ i) TP x + p - strP (p ^ j) TP x) % p) := bcells_congr (fun x hx => by
      unfold bkV; rw [rsV_ok h1, rsV_ok h2]; exact addK_neg (by omega) l2 hx)
    rw [e]; exact difference_any p _ _ W p2 p7 l1 l2)
  have hi20 := hi.1
  have hj20 := hj.1
  clear h1 h2
  go_enter Try.func131, Try.ntmps131
  go_upto_region 1 with (fail)
  rw [← zero64]
  obtain ⟨W1, hwo⟩ : ∃ v : World, v = (w.alloc (.cells (bcells 64 fun _ => 0) 23)) := ⟨_, rfl⟩
  have B0 : Blk W1 (w.heap.size) 64 23 (fun _ => 0) := by subst hwo; have := (Blk.new w 64 23 (fun _ => 0)); simpa using this
  have hb : Below w.heap.size w W1 := by subst hwo; exact ((Below.refl _ _).alloc (Nat.le_refl _) _)
  rw [← hwo]
  clear hwo
  have lt_B0 := B0.lt
  go_upto_region 2 with (first | rw [← zero64] | (refine wpList_build_of rfl 23 _ rfl (bcells 64 TP) (by rw [Array.toList_map]; exact built_T) ?_) | (refine wpList_store_blk rfl 23 (.tmp 7) (.tmp 8) rfl _ 64 (TP) rfl rfl 23 _ ((Blk.new W1 64 23 (fun _ => 0))) Try.size23 ?_; try simp only [Act.put]))
  have lt_B0 := B0.lt
  have lhb := hb.size
  have qB0 : Blk ((W1.alloc (.cells (bcells 64 fun _ => 0) 23)).setRow (W1.heap.size) (bcells 64 (TP))) (w.heap.size) 64 23 (fun _ => 0) := ((B0.alloc (.cells (bcells 64 fun _ => 0) 23)).rowOther (by omega))
  have qB1 : Blk ((W1.alloc (.cells (bcells 64 fun _ => 0) 23)).setRow (W1.heap.size) (bcells 64 (TP))) (W1.heap.size) 64 23 (TP) := ((Blk.new W1 64 23 (fun _ => 0)).row (TP))
  have qhb : Below w.heap.size w ((W1.alloc (.cells (bcells 64 fun _ => 0) 23)).setRow (W1.heap.size) (bcells 64 (TP))) := (below_row (hb.alloc (by have := hb.size; simp; omega) (.cells (bcells 64 fun _ => 0) 23)) (by omega) _)
  obtain ⟨W2, hwo⟩ : ∃ v : World, v = ((W1.alloc (.cells (bcells 64 fun _ => 0) 23)).setRow (W1.heap.size) (bcells 64 (TP))) := ⟨_, rfl⟩
  rw [← hwo] at qB0 qB1 qhb ⊢
  clear hwo
  clear B0 hb
  have B0 := qB0
  have B1 := qB1
  have hb := qhb
  clear qB0 qB1 qhb
  obtain ⟨N1, hNN⟩ : ∃ n : Nat, n = W1.heap.size := ⟨_, rfl⟩
  rw [← hNN] at lt_B0 lhb B1 ⊢
  clear hNN
  have zN1_0 := lt_B0
  have zN1 := lhb
  clear lt_B0 lhb
  try simp only [Act.put, List.setIfInBounds_toArray, List.set_cons_zero, List.set_cons_succ]
  have lt_B0 : (w.heap.size) < W2.heap.size := B0.lt
  have lt_B1 : (N1) < W2.heap.size := B1.lt
  have hbase : w.heap.size ≤ W2.heap.size := hb.size
  refine wp_region_steps0 Try.mixed (by kernel_rfl) (by kernel_rfl) (fun v => by (simp only [frL, Act.put, List.setIfInBounds_toArray, List.set_cons_zero, List.set_cons_succ, Nat.reduceAdd, Nat.zero_add]; exact rfl))
    (fun L v W3 => Below w.heap.size w W3 ∧ W2.heap.size ≤ W3.heap.size ∧ (∃ g, Blk W3 (w.heap.size) 64 23 (g)) ∧ (L 10 = false → Blk W3 (w.heap.size) 64 23 (fun _ => 0)) ∧ (L 10 = true → Blk W3 (w.heap.size) 64 23 ((bkV p i j).1)) ∧ Blk W3 (N1) 64 23 (TP) ∧ (L 0 = true → v 0 = (.int .i64 (p : Int))) ∧ (L 1 = true → v 1 = (.int .i64 (p : Int))) ∧ (L 2 = true → v 2 = (.agg (bcells 64 (TP)))) ∧ (L 3 = true → v 3 = (.int .i64 (i : Int))) ∧ (L 4 = true → v 4 = (.agg (bcells 64 (strP (p ^ i) TP)))) ∧ (L 5 = true → v 5 = (.int .i64 (p : Int))) ∧ (L 6 = true → v 6 = (.agg (bcells 64 (TP)))) ∧ (L 7 = true → v 7 = (.int .i64 (j : Int))) ∧ (L 8 = true → v 8 = (.agg (bcells 64 (strP (p ^ j) TP)))) ∧ (L 9 = true → v 9 = (.agg (bcells 64 ((bkV p i j).1))))) ?_ ?_ ?_
  · intro v hv0
    exact ⟨hb.drew, Nat.le_refl _, ⟨_, B0.drew⟩, (fun _ => B0.drew), (fun h => by cases h), B1.drew, (fun h => by cases h), (fun h => by cases h), (fun h => by cases h), (fun h => by cases h), (fun h => by cases h), (fun h => by cases h), (fun h => by cases h), (fun h => by cases h), (fun h => by cases h), (fun h => by cases h)⟩
  · refine (.cons rfl ?_ (.cons rfl ?_ (.cons rfl ?_ (.cons rfl ?_ (.cons rfl ?_ (.cons rfl ?_ (.cons rfl ?_ (.cons rfl ?_ (.cons rfl ?_ (.cons rfl ?_ (.cons rfl ?_ (.nil _))))))))))))
    · intro L v W3 hd hn ⟨hB, hz, x0, q0, n0, s1, h0, h1, h2, h3, h4, h5, h6, h7, h8, h9⟩ K hK
      go_wp2_with fail
      exact hK _ (.int .i64 (p : Int)) _ (by simp only [Act.put, List.setIfInBounds_toArray, List.set_cons_zero, List.set_cons_succ ]) ⟨hB, hz, x0, q0, n0, s1, (fun _ => rfl), h1, h2, h3, h4, h5, h6, h7, h8, h9⟩
    · intro L v W3 hd hn ⟨hB, hz, x0, q0, n0, s1, h0, h1, h2, h3, h4, h5, h6, h7, h8, h9⟩ K hK
      go_wp2_with fail
      exact hK _ (.int .i64 (p : Int)) _ (by simp only [Act.put, List.setIfInBounds_toArray, List.set_cons_zero, List.set_cons_succ ]) ⟨hB, hz, x0, q0, n0, s1, h0, (fun _ => rfl), h2, h3, h4, h5, h6, h7, h8, h9⟩
    · intro L v W3 hd hn ⟨hB, hz, x0, q0, n0, s1, h0, h1, h2, h3, h4, h5, h6, h7, h8, h9⟩ K hK
      refine wp_load_any 23 _ rfl _ rfl 64 23 _ s1 _ Try.underlying23 rfl Try.size23 ?_
      exact hK _ _ _ rfl ⟨hB, hz, x0, q0, n0, s1, h0, h1, (fun _ => rfl), h3, h4, h5, h6, h7, h8, h9⟩
    · intro L v W3 hd hn ⟨hB, hz, x0, q0, n0, s1, h0, h1, h2, h3, h4, h5, h6, h7, h8, h9⟩ K hK
      go_wp2_with fail
      exact hK _ (.int .i64 (i : Int)) _ (by simp only [Act.put, List.setIfInBounds_toArray, List.set_cons_zero, List.set_cons_succ ]) ⟨hB, hz, x0, q0, n0, s1, h0, h1, h2, (fun _ => rfl), h4, h5, h6, h7, h8, h9⟩
    · intro L v W3 hd hn ⟨hB, hz, x0, q0, n0, s1, h0, h1, h2, h3, h4, h5, h6, h7, h8, h9⟩ K hK
      have e1 := h1 (hd ⟨1, .data⟩ (by simp) rfl)
      have e2 := h2 (hd ⟨2, .data⟩ (by simp) rfl)
      have e3 := h3 (hd ⟨3, .data⟩ (by simp) rfl)
      go_wp2_with (go_at_call 176; refine (HR1.out _).mono ?_; rintro e wy ⟨rfl, hy⟩)
      exact hK _ (.agg (bcells 64 (strP (p ^ i) TP))) _ (by simp only [Act.put, List.setIfInBounds_toArray, List.set_cons_zero, List.set_cons_succ, e1, e2, e3]) ⟨hB.trans (hy.mono hB.size), (Nat.le_trans hz hy.size), (let ⟨g, h⟩ := x0; ⟨g, (h).below hy (h).lt⟩), (fun h => (q0 h).below hy (q0 h).lt), (fun h => (n0 h).below hy (n0 h).lt), (s1).below hy (s1).lt, h0, h1, h2, h3, (fun _ => rfl), h5, h6, h7, h8, h9⟩
    · intro L v W3 hd hn ⟨hB, hz, x0, q0, n0, s1, h0, h1, h2, h3, h4, h5, h6, h7, h8, h9⟩ K hK
      go_wp2_with fail
      exact hK _ (.int .i64 (p : Int)) _ (by simp only [Act.put, List.setIfInBounds_toArray, List.set_cons_zero, List.set_cons_succ ]) ⟨hB, hz, x0, q0, n0, s1, h0, h1, h2, h3, h4, (fun _ => rfl), h6, h7, h8, h9⟩
    · intro L v W3 hd hn ⟨hB, hz, x0, q0, n0, s1, h0, h1, h2, h3, h4, h5, h6, h7, h8, h9⟩ K hK
      refine wp_load_any 23 _ rfl _ rfl 64 23 _ s1 _ Try.underlying23 rfl Try.size23 ?_
      exact hK _ _ _ rfl ⟨hB, hz, x0, q0, n0, s1, h0, h1, h2, h3, h4, h5, (fun _ => rfl), h7, h8, h9⟩
    · intro L v W3 hd hn ⟨hB, hz, x0, q0, n0, s1, h0, h1, h2, h3, h4, h5, h6, h7, h8, h9⟩ K hK
      go_wp2_with fail
      exact hK _ (.int .i64 (j : Int)) _ (by simp only [Act.put, List.setIfInBounds_toArray, List.set_cons_zero, List.set_cons_succ ]) ⟨hB, hz, x0, q0, n0, s1, h0, h1, h2, h3, h4, h5, h6, (fun _ => rfl), h8, h9⟩
    · intro L v W3 hd hn ⟨hB, hz, x0, q0, n0, s1, h0, h1, h2, h3, h4, h5, h6, h7, h8, h9⟩ K hK
      have e5 := h5 (hd ⟨5, .data⟩ (by simp) rfl)
      have e6 := h6 (hd ⟨6, .data⟩ (by simp) rfl)
      have e7 := h7 (hd ⟨7, .data⟩ (by simp) rfl)
      go_wp2_with (go_at_call 176; refine (HR2.out _).mono ?_; rintro e wy ⟨rfl, hy⟩)
      exact hK _ (.agg (bcells 64 (strP (p ^ j) TP))) _ (by simp only [Act.put, List.setIfInBounds_toArray, List.set_cons_zero, List.set_cons_succ, e5, e6, e7]) ⟨hB.trans (hy.mono hB.size), (Nat.le_trans hz hy.size), (let ⟨g, h⟩ := x0; ⟨g, (h).below hy (h).lt⟩), (fun h => (q0 h).below hy (q0 h).lt), (fun h => (n0 h).below hy (n0 h).lt), (s1).below hy (s1).lt, h0, h1, h2, h3, h4, h5, h6, h7, (fun _ => rfl), h9⟩
    · intro L v W3 hd hn ⟨hB, hz, x0, q0, n0, s1, h0, h1, h2, h3, h4, h5, h6, h7, h8, h9⟩ K hK
      have e0 := h0 (hd ⟨0, .data⟩ (by simp) rfl)
      have e4 := h4 (hd ⟨4, .data⟩ (by simp) rfl)
      have e8 := h8 (hd ⟨8, .data⟩ (by simp) rfl)
      go_wp2_with (go_at_call 124; refine (HDI.out _).mono ?_; rintro e wy ⟨rfl, hy⟩)
      exact hK _ (.agg (bcells 64 ((bkV p i j).1))) _ (by simp only [Act.put, List.setIfInBounds_toArray, List.set_cons_zero, List.set_cons_succ, e0, e4, e8]) ⟨hB.trans (hy.mono hB.size), (Nat.le_trans hz hy.size), (let ⟨g, h⟩ := x0; ⟨g, (h).below hy (h).lt⟩), (fun h => (q0 h).below hy (q0 h).lt), (fun h => (n0 h).below hy (n0 h).lt), (s1).below hy (s1).lt, h0, h1, h2, h3, h4, h5, h6, h7, h8, (fun _ => rfl)⟩
    · intro L v W3 hd hn ⟨hB, hz, x0, q0, n0, s1, h0, h1, h2, h3, h4, h5, h6, h7, h8, h9⟩ K hK
      have e9 := h9 (hd ⟨9, .data⟩ (by simp) rfl)
      obtain ⟨gz, hk⟩ := x0
      refine wp_store_blk 23 _ _ rfl _ 64 ((bkV p i j).1) rfl e9 23 gz hk Try.size23 ?_
      exact hK _ undef _ rfl ⟨below_row hB (by omega) _, (by simpa [World.setRow] using hz), ⟨_, hk.row _⟩, (fun h => absurd h (by simp [setL])), (fun _ => hk.row _), (s1).rowOther (by omega), h0, h1, h2, h3, h4, h5, h6, h7, h8, h9⟩
  · intro L v W3 hL ⟨hB, hz, x0, q0, n0, s1, h0, h1, h2, h3, h4, h5, h6, h7, h8, h9⟩
    have r0 := n0 (hL 10 (by decide))
    have e0 := h0 (hL 0 (by decide))
    have e1 := h1 (hL 1 (by decide))
    have e2 := h2 (hL 2 (by decide))
    have e3 := h3 (hL 3 (by decide))
    have e4 := h4 (hL 4 (by decide))
    have e5 := h5 (hL 5 (by decide))
    have e6 := h6 (hL 6 (by decide))
    have e7 := h7 (hL 7 (by decide))
    have e8 := h8 (hL 8 (by decide))
    have e9 := h9 (hL 9 (by decide))
    clear hL x0 q0 n0 h0 h1 h2 h3 h4 h5 h6 h7 h8 h9
    simp only [Exit.then, e0, e1, e2, e3, e4, e5, e6, e7, e8, e9]
    clear e0 e1 e2 e3 e4 e5 e6 e7 e8 e9
    clear B0
    have B0 := r0
    clear r0
    clear B1
    have B1 := s1
    clear s1
    clear hb
    have hb := hB
    clear hB
    clear hbase hz lt_B0 lt_B1
    go_wp2_with fail
    refine bodyPost_ret (results_blk rfl _ _ _ 64 23 5 _ rfl B0 Try.underlying23 Try.size23) rfl ⟨rfl, hb⟩
set_option maxRecDepth 100000 in
set_option maxHeartbeats 1600000 in
theorem apart_no1 (p i j : Nat) (w : World) (p2 : 2 ≤ p) (p7 : p ≤ 7) (hi : smI p i) (hj : smI p j) (h1 : 63 < deg TP * ((p ^ i : Nat) : Int)) :
    Calls Try.prog 131 #[.int .i64 (p : Int), .int .i64 (i : Int), .int .i64 (j : Int)] w fun e w' => e = .panicked [{ v := .iface 138 (.int .i64 3), recovered := false }] ∧ Below w.heap.size w w' := by
  have lT : ∀ k, k < 64 → TP k < p := fun k _ => TP_lt p2 k
  have HR1 := Lib.hid (fun W => raised_no p i TP W p2 p7 hi lT h1)
  have hi20 := hi.1
  have hj20 := hj.1
  clear h1
  go_enter Try.func131, Try.ntmps131
  go_upto_region 1 with (fail)
  rw [← zero64]
  obtain ⟨W1, hwo⟩ : ∃ v : World, v = (w.alloc (.cells (bcells 64 fun _ => 0) 23)) := ⟨_, rfl⟩
  have B0 : Blk W1 (w.heap.size) 64 23 (fun _ => 0) := by subst hwo; have := (Blk.new w 64 23 (fun _ => 0)); simpa using this
  have hb : Below w.heap.size w W1 := by subst hwo; exact ((Below.refl _ _).alloc (Nat.le_refl _) _)
  rw [← hwo]
  clear hwo
  have lt_B0 := B0.lt
  go_upto_region 2 with (first | rw [← zero64] | (refine wpList_build_of rfl 23 _ rfl (bcells 64 TP) (by rw [Array.toList_map]; exact built_T) ?_) | (refine wpList_store_blk rfl 23 (.tmp 7) (.tmp 8) rfl _ 64 (TP) rfl rfl 23 _ ((Blk.new W1 64 23 (fun _ => 0))) Try.size23 ?_; try simp only [Act.put]))
  have lt_B0 := B0.lt
  have lhb := hb.size
  have qB0 : Blk ((W1.alloc (.cells (bcells 64 fun _ => 0) 23)).setRow (W1.heap.size) (bcells 64 (TP))) (w.heap.size) 64 23 (fun _ => 0) := ((B0.alloc (.cells (bcells 64 fun _ => 0) 23)).rowOther (by omega))
  have qB1 : Blk ((W1.alloc (.cells (bcells 64 fun _ => 0) 23)).setRow (W1.heap.size) (bcells 64 (TP))) (W1.heap.size) 64 23 (TP) := ((Blk.new W1 64 23 (fun _ => 0)).row (TP))
  have qhb : Below w.heap.size w ((W1.alloc (.cells (bcells 64 fun _ => 0) 23)).setRow (W1.heap.size) (bcells 64 (TP))) := (below_row (hb.alloc (by have := hb.size; simp; omega) (.cells (bcells 64 fun _ => 0) 23)) (by omega) _)
  obtain ⟨W2, hwo⟩ : ∃ v : World, v = ((W1.alloc (.cells (bcells 64 fun _ => 0) 23)).setRow (W1.heap.size) (bcells 64 (TP))) := ⟨_, rfl⟩
  rw [← hwo] at qB0 qB1 qhb ⊢
  clear hwo
  clear B0 hb
  have B0 := qB0
  have B1 := qB1
  have hb := qhb
  clear qB0 qB1 qhb
  obtain ⟨N1, hNN⟩ : ∃ n : Nat, n = W1.heap.size := ⟨_, rfl⟩
  rw [← hNN] at lt_B0 lhb B1 ⊢
  clear hNN
  have zN1_0 := lt_B0
  have zN1 := lhb
  clear lt_B0 lhb
  try simp only [Act.put, List.setIfInBounds_toArray, List.set_cons_zero, List.set_cons_succ]
  have lt_B0 : (w.heap.size) < W2.heap.size := B0.lt
  have lt_B1 : (N1) < W2.heap.size := B1.lt
  have hbase : w.heap.size ≤ W2.heap.size := hb.size
  refine wp_region_steps0 Try.mixed (by kernel_rfl) (by kernel_rfl) (fun v => by (simp only [frL, Act.put, List.setIfInBounds_toArray, List.set_cons_zero, List.set_cons_succ, Nat.reduceAdd, Nat.zero_add]; exact rfl))
    (fun L v W3 => Below w.heap.size w W3 ∧ W2.heap.size ≤ W3.heap.size ∧ (∃ g, Blk W3 (w.heap.size) 64 23 (g)) ∧ (L 10 = false → Blk W3 (w.heap.size) 64 23 (fun _ => 0)) ∧ (L 10 = true → Blk W3 (w.heap.size) 64 23 ((bkV p i j).1)) ∧ Blk W3 (N1) 64 23 (TP) ∧ (L 0 = true → v 0 = (.int .i64 (p : Int))) ∧ (L 1 = true → v 1 = (.int .i64 (p : Int))) ∧ (L 2 = true → v 2 = (.agg (bcells 64 (TP)))) ∧ (L 3 = true → v 3 = (.int .i64 (i : Int))) ∧ (L 4 = true → False) ∧ (L 5 = true → v 5 = (.int .i64 (p : Int))) ∧ (L 6 = true → v 6 = (.agg (bcells 64 (TP)))) ∧ (L 7 = true → v 7 = (.int .i64 (j : Int))) ∧ (L 8 = true → v 8 = (.agg (bcells 64 (strP (p ^ j) TP)))) ∧ (L 9 = true → v 9 = (.agg (bcells 64 ((bkV p i j).1))))) ?_ ?_ ?_
  · intro v hv0
    exact ⟨hb.drew, Nat.le_refl _, ⟨_, B0.drew⟩, (fun _ => B0.drew), (fun h => by cases h), B1.drew, (fun h => by cases h), (fun h => by cases h), (fun h => by cases h), (fun h => by cases h), (fun h => by cases h), (fun h => by cases h), (fun h => by cases h), (fun h => by cases h), (fun h => by cases h), (fun h => by cases h)⟩
  · refine (.cons rfl ?_ (.cons rfl ?_ (.cons rfl ?_ (.cons rfl ?_ (.cons rfl ?_ (.cons rfl ?_ (.cons rfl ?_ (.cons rfl ?_ (.cons rfl ?_ (.cons rfl ?_ (.cons rfl ?_ (.nil _))))))))))))
    · intro L v W3 hd hn ⟨hB, hz, x0, q0, n0, s1, h0, h1, h2, h3, h4, h5, h6, h7, h8, h9⟩ K hK
      go_wp2_with fail
      exact hK _ (.int .i64 (p : Int)) _ (by simp only [Act.put, List.setIfInBounds_toArray, List.set_cons_zero, List.set_cons_succ ]) ⟨hB, hz, x0, q0, n0, s1, (fun _ => rfl), h1, h2, h3, h4, h5, h6, h7, h8, h9⟩
    · intro L v W3 hd hn ⟨hB, hz, x0, q0, n0, s1, h0, h1, h2, h3, h4, h5, h6, h7, h8, h9⟩ K hK
      go_wp2_with fail
      exact hK _ (.int .i64 (p : Int)) _ (by simp only [Act.put, List.setIfInBounds_toArray, List.set_cons_zero, List.set_cons_succ ]) ⟨hB, hz, x0, q0, n0, s1, h0, (fun _ => rfl), h2, h3, h4, h5, h6, h7, h8, h9⟩
    · intro L v W3 hd hn ⟨hB, hz, x0, q0, n0, s1, h0, h1, h2, h3, h4, h5, h6, h7, h8, h9⟩ K hK
      refine wp_load_any 23 _ rfl _ rfl 64 23 _ s1 _ Try.underlying23 rfl Try.size23 ?_
      exact hK _ _ _ rfl ⟨hB, hz, x0, q0, n0, s1, h0, h1, (fun _ => rfl), h3, h4, h5, h6, h7, h8, h9⟩
    · intro L v W3 hd hn ⟨hB, hz, x0, q0, n0, s1, h0, h1, h2, h3, h4, h5, h6, h7, h8, h9⟩ K hK
      go_wp2_with fail
      exact hK _ (.int .i64 (i : Int)) _ (by simp only [Act.put, List.setIfInBounds_toArray, List.set_cons_zero, List.set_cons_succ ]) ⟨hB, hz, x0, q0, n0, s1, h0, h1, h2, (fun _ => rfl), h4, h5, h6, h7, h8, h9⟩
    · intro L v W3 hd hn ⟨hB, hz, x0, q0, n0, s1, h0, h1, h2, h3, h4, h5, h6, h7, h8, h9⟩ K hK
      have e1 := h1 (hd ⟨1, .data⟩ (by simp) rfl)
      have e2 := h2 (hd ⟨2, .data⟩ (by simp) rfl)
      have e3 := h3 (hd ⟨3, .data⟩ (by simp) rfl)
      go_wp2_with (go_at_call 176; refine (HR1.out _).mono ?_; rintro e wy ⟨rfl, hy⟩)
      first | exact ⟨rfl, rfl, hB.trans (hy.mono hB.size)⟩ | (go_wp2_with fail; exact ⟨rfl, rfl, hB.trans (hy.mono hB.size)⟩)
    · intro L v W3 hd hn ⟨hB, hz, x0, q0, n0, s1, h0, h1, h2, h3, h4, h5, h6, h7, h8, h9⟩ K hK
      go_wp2_with fail
      exact hK _ (.int .i64 (p : Int)) _ (by simp only [Act.put, List.setIfInBounds_toArray, List.set_cons_zero, List.set_cons_succ ]) ⟨hB, hz, x0, q0, n0, s1, h0, h1, h2, h3, h4, (fun _ => rfl), h6, h7, h8, h9⟩
    · intro L v W3 hd hn ⟨hB, hz, x0, q0, n0, s1, h0, h1, h2, h3, h4, h5, h6, h7, h8, h9⟩ K hK
      refine wp_load_any 23 _ rfl _ rfl 64 23 _ s1 _ Try.underlying23 rfl Try.size23 ?_
      exact hK _ _ _ rfl ⟨hB, hz, x0, q0, n0, s1, h0, h1, h2, h3, h4, h5, (fun _ => rfl), h7, h8, h9⟩
    · intro L v W3 hd hn ⟨hB, hz, x0, q0, n0, s1, h0, h1, h2, h3, h4, h5, h6, h7, h8, h9⟩ K hK
      go_wp2_with fail
      exact hK _ (.int .i64 (j : Int)) _ (by simp only [Act.put, List.setIfInBounds_toArray, List.set_cons_zero, List.set_cons_succ ]) ⟨hB, hz, x0, q0, n0, s1, h0, h1, h2, h3, h4, h5, h6, (fun _ => rfl), h8, h9⟩
    · intro L v W3 hd hn ⟨hB, hz, x0, q0, n0, s1, h0, h1, h2, h3, h4, h5, h6, h7, h8, h9⟩ K hK
      exact (h4 (hd ⟨4, .chain⟩ (by simp) rfl)).elim
    · intro L v W3 hd hn ⟨hB, hz, x0, q0, n0, s1, h0, h1, h2, h3, h4, h5, h6, h7, h8, h9⟩ K hK
      exact (h4 (hd ⟨4, .data⟩ (by simp) rfl)).elim
    · intro L v W3 hd hn ⟨hB, hz, x0, q0, n0, s1, h0, h1, h2, h3, h4, h5, h6, h7, h8, h9⟩ K hK
      exact (h4 (hd ⟨4, .phase⟩ (by simp) rfl)).elim
  · intro L v W3 hL ⟨hB, hz, x0, q0, n0, s1, h0, h1, h2, h3, h4, h5, h6, h7, h8, h9⟩
    exact (h4 (hL 4 (by decide))).elim
set_option maxRecDepth 100000 in
set_option maxHeartbeats 1600000 in
theorem apart_no2 (p i j : Nat) (w : World) (p2 : 2 ≤ p) (p7 : p ≤ 7) (hi : smI p i) (hj : smI p j) (h1 : deg TP * ((p ^ i : Nat) : Int) ≤ 63) (h2 : 63 < deg TP * ((p ^ j : Nat) : Int)) :
    Calls Try.prog 131 #[.int .i64 (p : Int), .int .i64 (i : Int), .int .i64 (j : Int)] w fun e w' => e = .panicked [{ v := .iface 138 (.int .i64 3), recovered := false }] ∧ Below w.heap.size w w' := by
  have lT : ∀ k, k < 64 → TP k < p := fun k _ => TP_lt p2 k
  have HR1 := Lib.hid (fun W => raised_ok p i TP W p2 p7 hi lT h1)
  have HR2 := Lib.hid (fun W => raised_no p j TP W p2 p7 hj lT h2)
  have hi20 := hi.1
  have hj20 := hj.1
  clear h1 h2
  go_enter Try.func131, Try.ntmps131
  go_upto_region 1 with (fail)
  rw [← zero64]
  obtain ⟨W1, hwo⟩ : ∃ v : World, v = (w.alloc (.cells (bcells 64 fun _ => 0) 23)) := ⟨_, rfl⟩
  have B0 : Blk W1 (w.heap.size) 64 23 (fun _ => 0) := by subst hwo; have := (Blk.new w 64 23 (fun _ => 0)); simpa using this
  have hb : Below w.heap.size w W1 := by subst hwo; exact ((Below.refl _ _).alloc (Nat.le_refl _) _)
  rw [← hwo]
  clear hwo
  have lt_B0 := B0.lt
  go_upto_region 2 with (first | rw [← zero64] | (refine wpList_build_of rfl 23 _ rfl (bcells 64 TP) (by rw [Array.toList_map]; exact built_T) ?_) | (refine wpList_store_blk rfl 23 (.tmp 7) (.tmp 8) rfl _ 64 (TP) rfl rfl 23 _ ((Blk.new W1 64 23 (fun _ => 0))) Try.size23 ?_; try simp only [Act.put]))
  have lt_B0 := B0.lt
  have lhb := hb.size
  have qB0 : Blk ((W1.alloc (.cells (bcells 64 fun _ => 0) 23)).setRow (W1.heap.size) (bcells 64 (TP))) (w.heap.size) 64 23 (fun _ => 0) := ((B0.alloc (.cells (bcells 64 fun _ => 0) 23)).rowOther (by omega))
  have qB1 : Blk ((W1.alloc (.cells (bcells 64 fun _ => 0) 23)).setRow (W1.heap.size) (bcells 64 (TP))) (W1.heap.size) 64 23 (TP) := ((Blk.new W1 64 23 (fun _ => 0)).row (TP))
  have qhb : Below w.heap.size w ((W1.alloc (.cells (bcells 64 fun _ => 0) 23)).setRow (W1.heap.size) (bcells 64 (TP))) := (below_row (hb.alloc (by have := hb.size; simp; omega) (.cells (bcells 64 fun _ => 0) 23)) (by omega) _)
  obtain ⟨W2, hwo⟩ : ∃ v : World, v = ((W1.alloc (.cells (bcells 64 fun _ => 0) 23)).setRow (W1.heap.size) (bcells 64 (TP))) := ⟨_, rfl⟩
  rw [← hwo] at qB0 qB1 qhb ⊢
  clear hwo
  clear B0 hb
  have B0 := qB0
  have B1 := qB1
  have hb := qhb
  clear qB0 qB1 qhb
  obtain ⟨N1, hNN⟩ : ∃ n : Nat, n = W1.heap.size := ⟨_, rfl⟩
  rw [← hNN] at lt_B0 lhb B1 ⊢
  clear hNN
  have zN1_0 := lt_B0
  have zN1 := lhb
  clear lt_B0 lhb
  try simp only [Act.put, List.setIfInBounds_toArray, List.set_cons_zero, List.set_cons_succ]
  have lt_B0 : (w.heap.size) < W2.heap.size := B0.lt
  have lt_B1 : (N1) < W2.heap.size := B1.lt
  have hbase : w.heap.size ≤ W2.heap.size := hb.size
  refine wp_region_steps0 Try.mixed (by kernel_rfl) (by kernel_rfl) (fun v => by (simp only [frL, Act.put, List.setIfInBounds_toArray, List.set_cons_zero, List.set_cons_succ, Nat.reduceAdd, Nat.zero_add]; exact rfl))
    (fun L v W3 => Below w.heap.size w W3 ∧ W2.heap.size ≤ W3.heap.size ∧ (∃ g, Blk W3 (w.heap.size) 64 23 (g)) ∧ (L 10 = false → Blk W3 (w.heap.size) 64 23 (fun _ => 0)) ∧ (L 10 = true → Blk W3 (w.heap.size) 64 23 ((bkV p i j).1)) ∧ Blk W3 (N1) 64 23 (TP) ∧ (L 0 = true → v 0 = (.int .i64 (p : Int))) ∧ (L 1 = true → v 1 = (.int .i64 (p : Int))) ∧ (L 2 = true → v 2 = (.agg (bcells 64 (TP)))) ∧ (L 3 = true → v 3 = (.int .i64 (i : Int))) ∧ (L 4 = true → v 4 = (.agg (bcells 64 (strP (p ^ i) TP)))) ∧ (L 5 = true → v 5 = (.int .i64 (p : Int))) ∧ (L 6 = true → v 6 = (.agg (bcells 64 (TP)))) ∧ (L 7 = true → v 7 = (.int .i64 (j : Int))) ∧ (L 8 = true → False) ∧ (L 9 = true → v 9 = (.agg (bcells 64 ((bkV p i j).1))))) ?_ ?_ ?_
  · intro v hv0
    exact ⟨hb.drew, Nat.le_refl _, ⟨_, B0.drew⟩, (fun _ => B0.drew), (fun h => by cases h), B1.drew, (fun h => by cases h), (fun h => by cases h), (fun h => by cases h), (fun h => by cases h), (fun h => by cases h), (fun h => by cases h), (fun h => by cases h), (fun h => by cases h), (fun h => by cases h), (fun h => by cases h)⟩
  · refine (.cons rfl ?_ (.cons rfl ?_ (.cons rfl ?_ (.cons rfl ?_ (.cons rfl ?_ (.cons rfl ?_ (.cons rfl ?_ (.cons rfl ?_ (.cons rfl ?_ (.cons rfl ?_ (.cons rfl ?_ (.nil _))))))))))))
    · intro L v W3 hd hn ⟨hB, hz, x0, q0, n0, s1, h0, h1, h2, h3, h4, h5, h6, h7, h8, h9⟩ K hK
      go_wp2_with fail
      exact hK _ (.int .i64 (p : Int)) _ (by simp only [Act.put, List.setIfInBounds_toArray, List.set_cons_zero, List.set_cons_succ ]) ⟨hB, hz, x0, q0, n0, s1, (fun _ => rfl), h1, h2, h3, h4, h5, h6, h7, h8, h9⟩
    · intro L v W3 hd hn ⟨hB, hz, x0, q0, n0, s1, h0, h1, h2, h3, h4, h5, h6, h7, h8, h9⟩ K hK
      go_wp2_with fail
      exact hK _ (.int .i64 (p : Int)) _ (by simp only [Act.put, List.setIfInBounds_toArray, List.set_cons_zero, List.set_cons_succ ]) ⟨hB, hz, x0, q0, n0, s1, h0, (fun _ => rfl), h2, h3, h4, h5, h6, h7, h8, h9⟩
    · intro L v W3 hd hn ⟨hB, hz, x0, q0, n0, s1, h0, h1, h2, h3, h4, h5, h6, h7, h8, h9⟩ K hK
      refine wp_load_any 23 _ rfl _ rfl 64 23 _ s1 _ Try.underlying23 rfl Try.size23 ?_
      exact hK _ _ _ rfl ⟨hB, hz, x0, q0, n0, s1, h0, h1, (fun _ => rfl), h3, h4, h5, h6, h7, h8, h9⟩
    · intro L v W3 hd hn ⟨hB, hz, x0, q0, n0, s1, h0, h1, h2, h3, h4, h5, h6, h7, h8, h9⟩ K hK
      go_wp2_with fail
      exact hK _ (.int .i64 (i : Int)) _ (by simp only [Act.put, List.setIfInBounds_toArray, List.set_cons_zero, List.set_cons_succ ]) ⟨hB, hz, x0, q0, n0, s1, h0, h1, h2, (fun _ => rfl), h4, h5, h6, h7, h8, h9⟩
    · intro L v W3 hd hn ⟨hB, hz, x0, q0, n0, s1, h0, h1, h2, h3, h4, h5, h6, h7, h8, h9⟩ K hK
      have e1 := h1 (hd ⟨1, .data⟩ (by simp) rfl)
      have e2 := h2 (hd ⟨2, .data⟩ (by simp) rfl)
      have e3 := h3 (hd ⟨3, .data⟩ (by simp) rfl)
      go_wp2_with (go_at_call 176; refine (HR1.out _).mono ?_; rintro e wy ⟨rfl, hy⟩)
      exact hK _ (.agg (bcells 64 (strP (p ^ i) TP))) _ (by simp only [Act.put, List.setIfInBounds_toArray, List.set_cons_zero, List.set_cons_succ, e1, e2, e3]) ⟨hB.trans (hy.mono hB.size), (Nat.le_trans hz hy.size), (let ⟨g, h⟩ := x0; ⟨g, (h).below hy (h).lt⟩), (fun h => (q0 h).below hy (q0 h).lt), (fun h => (n0 h).below hy (n0 h).lt), (s1).below hy (s1).lt, h0, h1, h2, h3, (fun _ => rfl), h5, h6, h7, h8, h9⟩
    · intro L v W3 hd hn ⟨hB, hz, x0, q0, n0, s1, h0, h1, h2, h3, h4, h5, h6, h7, h8, h9⟩ K hK
      go_wp2_with fail
      exact hK _ (.int .i64 (p : Int)) _ (by simp only [Act.put, List.setIfInBounds_toArray, List.set_cons_zero, List.set_cons_succ ]) ⟨hB, hz, x0, q0, n0, s1, h0, h1, h2, h3, h4, (fun _ => rfl), h6, h7, h8, h9⟩
    · intro L v W3 hd hn ⟨hB, hz, x0, q0, n0, s1, h0, h1, h2, h3, h4, h5, h6, h7, h8, h9⟩ K hK
      refine wp_load_any 23 _ rfl _ rfl 64 23 _ s1 _ Try.underlying23 rfl Try.size23 ?_
      exact hK _ _ _ rfl ⟨hB, hz, x0, q0, n0, s1, h0, h1, h2, h3, h4, h5, (fun _ => rfl), h7, h8, h9⟩
    · intro L v W3 hd hn ⟨hB, hz, x0, q0, n0, s1, h0, h1, h2, h3, h4, h5, h6, h7, h8, h9⟩ K hK
      go_wp2_with fail
      exact hK _ (.int .i64 (j : Int)) _ (by simp only [Act.put, List.setIfInBounds_toArray, List.set_cons_zero, List.set_cons_succ ]) ⟨hB, hz, x0, q0, n0, s1, h0, h1, h2, h3, h4, h5, h6, (fun _ => rfl), h8, h9⟩
    · intro L v W3 hd hn ⟨hB, hz, x0, q0, n0, s1, h0, h1, h2, h3, h4, h5, h6, h7, h8, h9⟩ K hK
      have e5 := h5 (hd ⟨5, .data⟩ (by simp) rfl)
      have e6 := h6 (hd ⟨6, .data⟩ (by simp) rfl)
      have e7 := h7 (hd ⟨7, .data⟩ (by simp) rfl)
      go_wp2_with (go_at_call 176; refine (HR2.out _).mono ?_; rintro e wy ⟨rfl, hy⟩)
      first | exact ⟨rfl, rfl, hB.trans (hy.mono hB.size)⟩ | (go_wp2_with fail; exact ⟨rfl, rfl, hB.trans (hy.mono hB.size)⟩)
    · intro L v W3 hd hn ⟨hB, hz, x0, q0, n0, s1, h0, h1, h2, h3, h4, h5, h6, h7, h8, h9⟩ K hK
      exact (h8 (hd ⟨8, .data⟩ (by simp) rfl)).elim
    · intro L v W3 hd hn ⟨hB, hz, x0, q0, n0, s1, h0, h1, h2, h3, h4, h5, h6, h7, h8, h9⟩ K hK
      exact (h8 (hd ⟨8, .phase⟩ (by simp) rfl)).elim
  · intro L v W3 hL ⟨hB, hz, x0, q0, n0, s1, h0, h1, h2, h3, h4, h5, h6, h7, h8, h9⟩
    exact (h8 (hL 8 (by decide))).elim
end Go.Proofs.Ytbjpkmbhbpcbgaa
end
