/-
  Shared plain definitions and laws: arrays of bytes as values of the model, the blocks that hold them.
-/
import Derived.WalkKit
import Derived.WalkSpells
import Derived.WalkLawsBesides
import Derived.Lib.Hide
import Derived.Laws.Rows
import Derived.Laws.CopyOwn
import Derived.Deep.QuietTactic
import Derived.Deep.WholeRow
import Derived.Deep.Draws
import Derived.Deep.MidRow
import Derived.Deep.CutRange
import Derived.Deep.DeepCutAuto
import Derived.Deep.RegionHeld3
import Derived.BigQuiet
import Derived.BigRegion
namespace Go.Proofs.Ytbjpkmbhbpcbgaa
open Go.RowKit

/-- the cells of an array of n bytes -/
def bl (n : Nat) (f : Nat → Nat) : List Value := (List.range n).map fun i => Value.int .u8 (f i : Int)
abbrev bcells (n : Nat) (f : Nat → Nat) : Array Value := (bl n f).toArray
theorem bl_length (n : Nat) (f : Nat → Nat) : (bl n f).length = n := by simp [bl]
theorem bl_one {n : Nat} {f : Nat → Nat} : ∀ v ∈ bl n f, v.oneCell' = true := by
  intro v hv
  simp only [bl, List.mem_map] at hv
  obtain ⟨i, _, rfl⟩ := hv
  rfl

theorem bcells_size (n : Nat) (f : Nat → Nat) : (bcells n f).size = n := by simp [bl]
theorem bcells_get {n : Nat} {f : Nat → Nat} {i : Nat} (h : i < n) : (bcells n f)[i]? = some (.int .u8 (f i : Int)) := by
  simp [bl, h]
def upd (f : Nat → Nat) (i v : Nat) : Nat → Nat := fun j => if j = i then v else f j
theorem bcells_set {n : Nat} {f : Nat → Nat} {i v : Nat} : (bcells n f).setIfInBounds i (.int .u8 (v : Int)) = bcells n (upd f i v) := by
  apply Array.ext
  · simp [bl]
  · intro j h1 h2
    have hj : j < n := by simpa [bl] using h2
    rw [Array.getElem_setIfInBounds (by simpa [bl] using hj)]
    by_cases e : i = j
    · subst e; simp [bl, upd]
    · have e' : ¬ j = i := fun h => e h.symm
      simp [bl, upd, e, e']
theorem upd_lt {a b : Nat → Nat} {k v : Nat} (hv : v = a k) : ∀ i, upd (fun i => if i < k then a i else b i) k v i = if i < k + 1 then a i else b i := by
  intro i; subst hv; unfold upd
  by_cases e : i = k
  · subst e; simp
  · have : (i < k + 1) ↔ i < k := by omega
    simp [e, this]
theorem bcells_congr {n : Nat} {f g : Nat → Nat} (h : ∀ i, i < n → f i = g i) : bcells n f = bcells n g := by
  unfold bcells bl
  congr 1
  apply List.map_congr_left
  intro i hi
  rw [h i (by simpa using hi)]
theorem bcells_one (n : Nat) (f : Nat → Nat) : (bcells n f).all (·.oneCell') = true :=
  Array.all_eq_true_iff_forall_mem.2 fun v hv => bl_one v (by simpa using hv)
theorem bcells_inj {n : Nat} {f g : Nat → Nat} (h : bcells n f = bcells n g) : ∀ i, i < n → f i = g i := by
  intro i hi
  have h1 := bcells_get (f := f) hi
  rw [h, bcells_get hi] at h1
  simp at h1
  omega

/-- block b holds the bytes f -/
def Blk (w : World) (b n : Nat) (t : TypeId) (f : Nat → Nat) : Prop := w.heap[b]? = some (.cells (bcells n f) t (0, 0))

theorem Blk.new (w : World) (n : Nat) (t : TypeId) (f : Nat → Nat) : Blk (w.alloc (.cells (bcells n f) t)) w.heap.size n t f := heap_alloc_last w _
theorem Blk.lt {w : World} {b n : Nat} {t : TypeId} {f : Nat → Nat} (h : Blk w b n t f) : b < w.heap.size := by
  unfold Blk at h
  exact (Array.getElem?_eq_some_iff.1 h).1
theorem Blk.cell {w : World} {b n : Nat} {t : TypeId} {f : Nat → Nat} (h : Blk w b n t f) {i : Nat} (hi : i < n) : w.cell? ⟨b, i, none⟩ = some (.int .u8 (f i : Int)) := by
  rw [cell_of_row _ _ _ _ _ _ h]; exact bcells_get hi
theorem Blk.frozen {w : World} {b n : Nat} {t : TypeId} {f : Nat → Nat} (h : Blk w b n t f) (i : Nat) : w.frozen? ⟨b, i, none⟩ = false := frozen_of_row _ _ _ _ _ h
theorem Blk.congr {w : World} {b n : Nat} {t : TypeId} {f g : Nat → Nat} (h : Blk w b n t f) (e : ∀ i, i < n → f i = g i) : Blk w b n t g := by
  unfold Blk at *; rw [h, bcells_congr e]
theorem Blk.set {w : World} {b n : Nat} {t : TypeId} {f : Nat → Nat} (h : Blk w b n t f) {i v : Nat} {x : Int} (e : x = (v : Int)) : Blk (w.setCell ⟨b, i, none⟩ (.int .u8 x)) b n t (upd f i v) := by
  subst e; unfold Blk at *
  rw [heap_setCell_same _ _ _ _ _ _ h, bcells_set]
theorem Blk.setOther {w : World} {b n : Nat} {t : TypeId} {f : Nat → Nat} (h : Blk w b n t f) {a : Addr} {v : Value} (e : b ≠ a.block) : Blk (w.setCell a v) b n t f := by
  unfold Blk at *; rw [heap_setCell_other _ _ _ _ e]; exact h
theorem Blk.alloc {w : World} {b n : Nat} {t : TypeId} {f : Nat → Nat} (h : Blk w b n t f) (o : Obj) : Blk (w.alloc o) b n t f := by
  have := h.lt
  unfold Blk at *; rw [Below.heap_alloc _ _ _ this]; exact h
theorem Blk.drew {w : World} {b n : Nat} {t : TypeId} {f : Nat → Nat} (h : Blk w b n t f) : Blk w.drew b n t f := h
theorem Blk.drewN {w : World} {b n : Nat} {t : TypeId} {f : Nat → Nat} (h : Blk w b n t f) (k : Nat) : Blk (w.drewN k) b n t f := h
theorem Blk.row {w : World} {b n : Nat} {t : TypeId} {f : Nat → Nat} (h : Blk w b n t f) (g : Nat → Nat) : Blk (w.setRow b (bcells n g)) b n t g := setRow_heap _ _ _ _ _ _ h
theorem Blk.rowOther {w : World} {b n : Nat} {t : TypeId} {f : Nat → Nat} (h : Blk w b n t f) {k : Nat} {cs : Array Value} (e : b ≠ k) : Blk (w.setRow k cs) b n t f := by
  unfold Blk at *; rw [setRow_other _ _ _ _ e]; exact h
theorem Blk.below {w w' : World} {B b n : Nat} {t : TypeId} {f : Nat → Nat} (h : Blk w b n t f) (hb : Below B w w') (e : b < B) : Blk w' b n t f := by
  unfold Blk at *; rw [hb.block b e]; exact h

theorem Blk.range {w : World} {b n : Nat} {t : TypeId} {f : Nat → Nat} (h : Blk w b n t f) : w.rangeAt b 0 (bl n f) := by
  intro j v hv
  rw [Nat.zero_add, cell_of_row _ _ _ _ _ _ h]
  simpa using hv
theorem Blk.there {w : World} {b n : Nat} {t : TypeId} {f : Nat → Nat} (h : Blk w b n t f) : w.there b 0 n := by
  intro j hj
  rw [Nat.zero_add, h.cell hj]
  exact ⟨rfl, h.frozen j⟩

theorem below_drewN' {B : Nat} {a w : World} (h : Below B a w) (n : Nat) : Below B a (w.drewN n) := ⟨h.os, h.tape, h.output, h.size, h.block⟩

theorem addr_zero_add (b i : Nat) : (⟨b, 0, none⟩ : Addr).add i = ⟨b, i, none⟩ := by unfold Addr.add; split <;> simp_all

theorem below_alloc' (w : World) (o : Obj) : Below w.heap.size w (w.alloc o) := (Below.refl _ _).alloc (Nat.le_refl _) _
/-- y points to a block from N on that holds g -/
def PF (y : Value) (w : World) (N n : Nat) (t : TypeId) (g : Nat → Nat) : Prop := ∃ b, y = .pointer (some ⟨b, 0, none⟩) ∧ N ≤ b ∧ Blk w b n t g
def AF (y : Value) (w : World) (N n : Nat) (t : TypeId) : Prop := ∃ g, PF y w N n t g
theorem PF.below {y : Value} {w w' : World} {N n : Nat} {t : TypeId} {g : Nat → Nat} (h : PF y w N n t g) (hb : Below w.heap.size w w') : PF y w' N n t g := by
  obtain ⟨b, e, hN, hk⟩ := h
  exact ⟨b, e, hN, hk.below hb hk.lt⟩
theorem AF.below {y : Value} {w w' : World} {N n : Nat} {t : TypeId} (h : AF y w N n t) (hb : Below w.heap.size w w') : AF y w' N n t := by
  obtain ⟨g, h⟩ := h
  exact ⟨g, h.below hb⟩
theorem PF.af {y : Value} {w : World} {N n : Nat} {t : TypeId} {g : Nat → Nat} (h : PF y w N n t g) : AF y w N n t := ⟨g, h⟩
theorem PF.new (w : World) {N : Nat} (n : Nat) (t : TypeId) (g : Nat → Nat) (h : N ≤ w.heap.size) : PF (.pointer (some ⟨w.heap.size, 0, none⟩)) (w.alloc (.cells (bcells n g) t)) N n t g := ⟨_, rfl, h, Blk.new _ _ _ _⟩
theorem PF.ne_new {y : Value} {w : World} {N n : Nat} {t : TypeId} {g : Nat → Nat} (h : PF y w N n t g) : y ≠ .pointer (some ⟨w.heap.size, 0, none⟩) := by
  obtain ⟨b, e, _, hk⟩ := h
  have := hk.lt
  rw [e]
  intro h'
  injection h' with h'
  injection h' with h'
  injection h' with h'
  omega
theorem AF.ne_new {y : Value} {w : World} {N n : Nat} {t : TypeId} (h : AF y w N n t) : y ≠ .pointer (some ⟨w.heap.size, 0, none⟩) := by
  obtain ⟨g, h⟩ := h
  exact h.ne_new
theorem PF.row {w : World} {b N n : Nat} {t : TypeId} {f : Nat → Nat} (hb : Blk w b n t f) (hN : N ≤ b) (g : Nat → Nat) : PF (.pointer (some ⟨b, 0, none⟩)) (w.setRow b (bcells n g)) N n t g := ⟨b, rfl, hN, hb.row g⟩
theorem PF.rowOther {y : Value} {w : World} {b N n : Nat} {t : TypeId} {g : Nat → Nat} {cs : Array Value} (h : PF y w N n t g) (e : y ≠ .pointer (some ⟨b, 0, none⟩)) : PF y (w.setRow b cs) N n t g := by
  obtain ⟨b', e', hN, hk⟩ := h
  refine ⟨b', e', hN, hk.rowOther ?_⟩
  rintro rfl
  exact e e'
theorem AF.row {y : Value} {w : World} {b N n m : Nat} {t u : TypeId} {f g : Nat → Nat} (h : AF y w N n t) (hb : Blk w b m u f) : AF y (w.setRow b (bcells m g)) N n t := by
  obtain ⟨g', b', e', hN, hk⟩ := h
  by_cases e : b' = b
  · subst e
    have h1 := hk.symm.trans hb
    simp only [Option.some.injEq, Obj.cells.injEq, and_true] at h1
    obtain ⟨h1, h2⟩ := h1
    have h3 : n = m := by have := congrArg Array.size h1; rwa [bcells_size, bcells_size] at this
    subst h3; subst h2
    exact ⟨g, b', e', hN, hk.row g⟩
  · exact ⟨g', b', e', hN, hk.rowOther e⟩
theorem PF.out {y : Value} {w : World} {N n : Nat} {t : TypeId} {g : Nat → Nat} (h : PF y w N n t g) : ∃ b, y = .pointer (some ⟨b, 0, none⟩) ∧ N ≤ b ∧ Blk w b n t g := h
theorem AF.out {y : Value} {w : World} {N n : Nat} {t : TypeId} (h : AF y w N n t) : ∃ g b, y = .pointer (some ⟨b, 0, none⟩) ∧ N ≤ b ∧ Blk w b n t g := h
theorem below_row {N b : Nat} {w0 w : World} (hb : Below N w0 w) (h : N ≤ b) (cs : Array Value) : Below N w0 (w.setRow b cs) := below_setRow hb h cs

theorem acc {P : Program} {k : FuncId} {args : Array Value} {w W0 : World} {v : Ending} (h : Calls P k args w fun e w' => e = v ∧ Below w.heap.size w w') (ha : Below W0.heap.size W0 w) :
    Calls P k args w fun e w' => e = v ∧ Below w.heap.size w w' ∧ Below W0.heap.size W0 w' :=
  h.mono fun _ _ ⟨he, hb⟩ => ⟨he, hb, ha.trans (hb.mono ha.size)⟩
section
variable {P : Program}
theorem run_index_blk (t e n : Nat) (f : Nat → Nat) (k : IntKind) (i : Nat) (hu : P.underlying t = some (.array n e)) (he : P.underlying e = some (.int .u8)) (hs : (P.info? e).map (·.size) = some 1) (hi : i < n) (w : World) :
    (Instr.index t (.agg (bcells n f)) (.int k (i : Int))).run P w = .ok (.int .u8 (f i : Int)) w := by
  cases hq : P.info? e with
  | none => simp [hq] at hs
  | some ie =>
    have hsz : ie.size = 1 := by simpa [hq] using hs
    have hin : (0 : Int) ≤ (i : Int) ∧ (i : Int) < (n : Int) := by omega
    have hagg : (isAgg e).run P w = .ok false w := by
      unfold isAgg
      rw [Sem.run_bind, run_underlying he w]
      rfl
    have hg : (bl n f)[i]? = some (.int .u8 (f i : Int)) := by simp [bl, hi]
    simp [Instr.index, asIntOf, Sem.run_bind, run_underlying hu, sizeOf, typeInfo, hq, hsz, part, hagg, hg]
    intro h; omega
theorem wp_load_blk {o : Oper} {a : Act} {w : World} {K : Act → World → Prop} {Q : Exit → Act → World → Prop} (ty : TypeId) (x : Operand) (ho : o.op = .load ty x)
    (b : Nat) (hx : a.eval x = .pointer (some ⟨b, 0, none⟩)) (n : Nat) (t : TypeId) (f : Nat → Nat) (hb : Blk w b n t f) (e : TypeId)
    (hu : P.underlying ty = some (.array n e)) (hi : (P.info? ty).map (·.size) = some n) (h : K (a.put o.dst (.agg (bcells n f))) w) : o.wp P a w K Q :=
  wp_load_row ty x ho b hx t _ (0, 0) _ hb hu rfl (by rw [bcells_size]; exact hi) h
theorem wp_store_blk {o : Oper} {a : Act} {w : World} {K : Act → World → Prop} {Q : Exit → Act → World → Prop} (ty : TypeId) (x y : Operand) (ho : o.op = .store ty x y)
    (b : Nat) (n : Nat) (g : Nat → Nat) (hx : a.eval x = .pointer (some ⟨b, 0, none⟩)) (hy : a.eval y = .agg (bcells n g)) (t : TypeId) (f : Nat → Nat) (hb : Blk w b n t f)
    (hi : (P.info? ty).map (·.size) = some n) (h : K (a.put o.dst undef) (w.setRow b (bcells n g))) : o.wp P a w K Q :=
  wp_store_row ty x y ho b _ hx hy t _ hb (by rw [bcells_size]; exact hi) (by rw [bcells_size, bcells_size]) (bcells_one n g) h
theorem wpList_store_new {ops : Array Oper} {rest : List Oper} {o : Oper} {a : Act} {w : World} {Q : Exit → Act → World → Prop} (hgd : o.guard = none) (ty : TypeId) (x y : Operand) (ho : o.op = .store ty x y)
    (old : Array Value) (t : TypeId) (n : Nat) (g : Nat → Nat) (hx : a.eval x = .pointer (some ⟨w.heap.size, 0, none⟩)) (hy : a.eval y = .agg (bcells n g)) (hold : old.size = n)
    (hi : (P.info? ty).map (·.size) = some n)
    (h : wpList P ops Q rest (a.put o.dst undef) (w.alloc (.cells (bcells n g) t))) : wpList P ops Q (o :: rest) a (w.alloc (.cells old t)) :=
  wpList_store_row hgd ty x y ho _ _ hx hy t old (heap_alloc_last w _) (by rw [bcells_size]; exact hi) (by rw [bcells_size]; exact hold) (bcells_one n g) (by rw [World.setRow_alloc_new]; exact h)
theorem wpList_load_blk {ops : Array Oper} {rest : List Oper} {o : Oper} {a : Act} {w : World} {Q : Exit → Act → World → Prop} (hgd : o.guard = none) (ty : TypeId) (x : Operand) (ho : o.op = .load ty x)
    (b : Nat) (hx : a.eval x = .pointer (some ⟨b, 0, none⟩)) (n : Nat) (t : TypeId) (f : Nat → Nat) (hb : Blk w b n t f) (e : TypeId)
    (hu : P.underlying ty = some (.array n e)) (hi : (P.info? ty).map (·.size) = some n)
    (h : wpList P ops Q rest (a.put o.dst (.agg (bcells n f))) w) : wpList P ops Q (o :: rest) a w :=
  wpList_load_row hgd ty x ho b hx t _ (0, 0) _ hb hu rfl (by rw [bcells_size]; exact hi) h
theorem wpList_store_blk {ops : Array Oper} {rest : List Oper} {o : Oper} {a : Act} {w : World} {Q : Exit → Act → World → Prop} (hgd : o.guard = none) (ty : TypeId) (x y : Operand) (ho : o.op = .store ty x y)
    (b : Nat) (n : Nat) (g : Nat → Nat) (hx : a.eval x = .pointer (some ⟨b, 0, none⟩)) (hy : a.eval y = .agg (bcells n g)) (t : TypeId) (f : Nat → Nat) (hb : Blk w b n t f)
    (hi : (P.info? ty).map (·.size) = some n)
    (h : wpList P ops Q rest (a.put o.dst undef) (w.setRow b (bcells n g))) : wpList P ops Q (o :: rest) a w :=
  wpList_store_row hgd ty x y ho b _ hx hy t _ hb (by rw [bcells_size]; exact hi) (by rw [bcells_size, bcells_size]) (bcells_one n g) h
theorem run_loadVar_blk (w : World) (b n : Nat) (t ty e : TypeId) (f : Nat → Nat) (hb : Blk w b n t f) (hu : P.underlying ty = some (.array n e)) (hi : (P.info? ty).map (·.size) = some n) :
    (loadVar ty ⟨b, 0, none⟩).run P w = .ok (.agg (bcells n f)) w :=
  run_loadVar_row w b t ty _ (0, 0) _ hb hu rfl (by rw [bcells_size]; exact hi)
theorem results_blk {fn : Func} {p : Tmp} {ty : TypeId} (h : fn.results = #[.cell p ty]) (tmps : Array Value) (w : World) (b n : Nat) (t e : TypeId) (f : Nat → Nat)
    (hp : tmps.getD p undef = .pointer (some ⟨b, 0, none⟩)) (hb : Blk w b n t f) (hu : P.underlying ty = some (.array n e)) (hi : (P.info? ty).map (·.size) = some n) :
    (results fn tmps).run P w = .ok (.agg (bcells n f)) w :=
  results_cell_row h tmps w b t _ (0, 0) _ hp hb hu rfl (by rw [bcells_size]; exact hi)
theorem results_bt {fn : Func} {p q : Tmp} {ty : TypeId} (h : fn.results = #[.cell p ty, .tmp q]) (tmps : Array Value) (w : World) (b n : Nat) (t e : TypeId) (f : Nat → Nat)
    (hp : tmps.getD p undef = .pointer (some ⟨b, 0, none⟩)) (hb : Blk w b n t f) (hu : P.underlying ty = some (.array n e)) (hi : (P.info? ty).map (·.size) = some n) :
    (results fn tmps).run P w = .ok (.tuple #[.agg (bcells n f), tmps.getD q undef]) w := by
  have hp' : tmps[p]?.getD undef = .pointer (some ⟨b, 0, none⟩) := by simpa using hp
  simp [results, h, hp', asAddr, run_loadVar_blk w b n t ty e f hb hu hi]
theorem results_tb {fn : Func} {p q : Tmp} {ty : TypeId} (h : fn.results = #[.tmp q, .cell p ty]) (tmps : Array Value) (w : World) (b n : Nat) (t e : TypeId) (f : Nat → Nat)
    (hp : tmps.getD p undef = .pointer (some ⟨b, 0, none⟩)) (hb : Blk w b n t f) (hu : P.underlying ty = some (.array n e)) (hi : (P.info? ty).map (·.size) = some n) :
    (results fn tmps).run P w = .ok (.tuple #[tmps.getD q undef, .agg (bcells n f)]) w := by
  have hp' : tmps[p]?.getD undef = .pointer (some ⟨b, 0, none⟩) := by simpa using hp
  simp [results, h, hp', asAddr, run_loadVar_blk w b n t ty e f hb hu hi]
theorem results_bb {fn : Func} {p p2 : Tmp} {ty ty2 : TypeId} (h : fn.results = #[.cell p ty, .cell p2 ty2]) (tmps : Array Value) (w : World) (b n : Nat) (t e : TypeId) (f : Nat → Nat) (b2 n2 : Nat) (t2 e2 : TypeId) (f2 : Nat → Nat)
    (hp : tmps.getD p undef = .pointer (some ⟨b, 0, none⟩)) (hb : Blk w b n t f) (hu : P.underlying ty = some (.array n e)) (hi : (P.info? ty).map (·.size) = some n)
    (hp2 : tmps.getD p2 undef = .pointer (some ⟨b2, 0, none⟩)) (hb2 : Blk w b2 n2 t2 f2) (hu2 : P.underlying ty2 = some (.array n2 e2)) (hi2 : (P.info? ty2).map (·.size) = some n2) :
    (results fn tmps).run P w = .ok (.tuple #[.agg (bcells n f), .agg (bcells n2 f2)]) w := by
  have hp' : tmps[p]?.getD undef = .pointer (some ⟨b, 0, none⟩) := by simpa using hp
  have hp2' : tmps[p2]?.getD undef = .pointer (some ⟨b2, 0, none⟩) := by simpa using hp2
  simp [results, h, hp', hp2', asAddr, run_loadVar_blk w b n t ty e f hb hu hi, run_loadVar_blk w b2 n2 t2 ty2 e2 f2 hb2 hu2 hi2]
theorem results_bbt {fn : Func} {p p2 q : Tmp} {ty ty2 : TypeId} (h : fn.results = #[.cell p ty, .cell p2 ty2, .tmp q]) (tmps : Array Value) (w : World) (b n : Nat) (t e : TypeId) (f : Nat → Nat) (b2 n2 : Nat) (t2 e2 : TypeId) (f2 : Nat → Nat)
    (hp : tmps.getD p undef = .pointer (some ⟨b, 0, none⟩)) (hb : Blk w b n t f) (hu : P.underlying ty = some (.array n e)) (hi : (P.info? ty).map (·.size) = some n)
    (hp2 : tmps.getD p2 undef = .pointer (some ⟨b2, 0, none⟩)) (hb2 : Blk w b2 n2 t2 f2) (hu2 : P.underlying ty2 = some (.array n2 e2)) (hi2 : (P.info? ty2).map (·.size) = some n2) :
    (results fn tmps).run P w = .ok (.tuple #[.agg (bcells n f), .agg (bcells n2 f2), tmps.getD q undef]) w := by
  have hp' : tmps[p]?.getD undef = .pointer (some ⟨b, 0, none⟩) := by simpa using hp
  have hp2' : tmps[p2]?.getD undef = .pointer (some ⟨b2, 0, none⟩) := by simpa using hp2
  simp [results, h, hp', hp2', asAddr, run_loadVar_blk w b n t ty e f hb hu hi, run_loadVar_blk w b2 n2 t2 ty2 e2 f2 hb2 hu2 hi2]
theorem results_bbb {fn : Func} {p p2 p3 : Tmp} {ty ty2 ty3 : TypeId} (h : fn.results = #[.cell p ty, .cell p2 ty2, .cell p3 ty3]) (tmps : Array Value) (w : World) (b n : Nat) (t e : TypeId) (f : Nat → Nat) (b2 n2 : Nat) (t2 e2 : TypeId) (f2 : Nat → Nat) (b3 n3 : Nat) (t3 e3 : TypeId) (f3 : Nat → Nat)
    (hp : tmps.getD p undef = .pointer (some ⟨b, 0, none⟩)) (hb : Blk w b n t f) (hu : P.underlying ty = some (.array n e)) (hi : (P.info? ty).map (·.size) = some n)
    (hp2 : tmps.getD p2 undef = .pointer (some ⟨b2, 0, none⟩)) (hb2 : Blk w b2 n2 t2 f2) (hu2 : P.underlying ty2 = some (.array n2 e2)) (hi2 : (P.info? ty2).map (·.size) = some n2)
    (hp3 : tmps.getD p3 undef = .pointer (some ⟨b3, 0, none⟩)) (hb3 : Blk w b3 n3 t3 f3) (hu3 : P.underlying ty3 = some (.array n3 e3)) (hi3 : (P.info? ty3).map (·.size) = some n3) :
    (results fn tmps).run P w = .ok (.tuple #[.agg (bcells n f), .agg (bcells n2 f2), .agg (bcells n3 f3)]) w := by
  have hp' : tmps[p]?.getD undef = .pointer (some ⟨b, 0, none⟩) := by simpa using hp
  have hp2' : tmps[p2]?.getD undef = .pointer (some ⟨b2, 0, none⟩) := by simpa using hp2
  have hp3' : tmps[p3]?.getD undef = .pointer (some ⟨b3, 0, none⟩) := by simpa using hp3
  simp [results, h, hp', hp2', hp3', asAddr, run_loadVar_blk w b n t ty e f hb hu hi, run_loadVar_blk w b2 n2 t2 ty2 e2 f2 hb2 hu2 hi2, run_loadVar_blk w b3 n3 t3 ty3 e3 f3 hb3 hu3 hi3]
theorem results_bbbt {fn : Func} {p p2 p3 q : Tmp} {ty ty2 ty3 : TypeId} (h : fn.results = #[.cell p ty, .cell p2 ty2, .cell p3 ty3, .tmp q]) (tmps : Array Value) (w : World) (b n : Nat) (t e : TypeId) (f : Nat → Nat) (b2 n2 : Nat) (t2 e2 : TypeId) (f2 : Nat → Nat) (b3 n3 : Nat) (t3 e3 : TypeId) (f3 : Nat → Nat)
    (hp : tmps.getD p undef = .pointer (some ⟨b, 0, none⟩)) (hb : Blk w b n t f) (hu : P.underlying ty = some (.array n e)) (hi : (P.info? ty).map (·.size) = some n)
    (hp2 : tmps.getD p2 undef = .pointer (some ⟨b2, 0, none⟩)) (hb2 : Blk w b2 n2 t2 f2) (hu2 : P.underlying ty2 = some (.array n2 e2)) (hi2 : (P.info? ty2).map (·.size) = some n2)
    (hp3 : tmps.getD p3 undef = .pointer (some ⟨b3, 0, none⟩)) (hb3 : Blk w b3 n3 t3 f3) (hu3 : P.underlying ty3 = some (.array n3 e3)) (hi3 : (P.info? ty3).map (·.size) = some n3) :
    (results fn tmps).run P w = .ok (.tuple #[.agg (bcells n f), .agg (bcells n2 f2), .agg (bcells n3 f3), tmps.getD q undef]) w := by
  have hp' : tmps[p]?.getD undef = .pointer (some ⟨b, 0, none⟩) := by simpa using hp
  have hp2' : tmps[p2]?.getD undef = .pointer (some ⟨b2, 0, none⟩) := by simpa using hp2
  have hp3' : tmps[p3]?.getD undef = .pointer (some ⟨b3, 0, none⟩) := by simpa using hp3
  simp [results, h, hp', hp2', hp3', asAddr, run_loadVar_blk w b n t ty e f hb hu hi, run_loadVar_blk w b2 n2 t2 ty2 e2 f2 hb2 hu2 hi2, run_loadVar_blk w b3 n3 t3 ty3 e3 f3 hb3 hu3 hi3]
end
theorem zero64 : bcells 64 (fun _ => 0) = #[.int .u8 0, .int .u8 0, .int .u8 0, .int .u8 0, .int .u8 0, .int .u8 0, .int .u8 0, .int .u8 0, .int .u8 0, .int .u8 0, .int .u8 0, .int .u8 0, .int .u8 0, .int .u8 0, .int .u8 0, .int .u8 0, .int .u8 0, .int .u8 0, .int .u8 0, .int .u8 0, .int .u8 0, .int .u8 0, .int .u8 0, .int .u8 0, .int .u8 0, .int .u8 0, .int .u8 0, .int .u8 0, .int .u8 0, .int .u8 0, .int .u8 0, .int .u8 0, .int .u8 0, .int .u8 0, .int .u8 0, .int .u8 0, .int .u8 0, .int .u8 0, .int .u8 0, .int .u8 0, .int .u8 0, .int .u8 0, .int .u8 0, .int .u8 0, .int .u8 0, .int .u8 0, .int .u8 0, .int .u8 0, .int .u8 0, .int .u8 0, .int .u8 0, .int .u8 0, .int .u8 0, .int .u8 0, .int .u8 0, .int .u8 0, .int .u8 0, .int .u8 0, .int .u8 0, .int .u8 0, .int .u8 0, .int .u8 0, .int .u8 0, .int .u8 0] := by rfl
attribute [irreducible] Blk PF AF bl
end Go.Proofs.Ytbjpkmbhbpcbgaa
