/-
  What the rows of this claim rest on: arrays of bytes, walks of the functions, plain mathematics.
-/
import Derived.WalkKit
import Derived.WalkSpells
import Derived.WalkLawsBesides
import Derived.Lib.Hide
import Derived.Laws.Rows
import Derived.Laws.CopyOwn
import Derived.Deep.QuietTactic
import Derived.Deep.WholeRow
import Derived.Deep.Draws
import Derived.Deep.MidRow
import Derived.Deep.CutRange
import Derived.Deep.DeepCutAuto
import Derived.Deep.RegionHeld3
import Derived.BigQuiet
import Derived.BigRegion
import Derived.Laws.StructEq
import Derived.Laws.Tables
import Derived.Great.BuildSlice
import Derived.Test.YtobcdekochenfaaRows
import Derived.ScopeJumps
import Derived.Maps.OwnOps
import Derived.DeepKeys4
import Derived.Carry
import Derived.Test.YtobcdekochenfaaProg
import Derived.OwnWalk
import Derived.RangeFuncNested
import Derived.RangeFuncBound
import Derived.RangeFuncCalls
import Derived.RangeFuncLeaves
import Derived.Shelf.Abstract
import Derived.Shelf.RegionOpen
import Derived.OwnWalkIn
import Derived.TacticsInMore
import Derived.LoopNIn
import Derived.LoopIn
import Derived.Deep.CutBlock
import Derived.Defers
import Derived.Recover
import Derived.OpenShut
import Derived.ProofKit
import Derived.Handy
import Derived.Laws.MakeOwn
section
namespace Go.Proofs.Ytobcdekochenfaa
open Go.RowKit
theorem pA {α : Type} (l : List α) (i : Nat) (a : α) : l.toArray.setIfInBounds i a = (l.set i a).toArray := List.setIfInBounds_toArray ..
theorem pB {α : Type} (xs : List α) (x a : α) : (x :: xs).set 0 a = a :: xs := List.set_cons_zero
theorem pC {α : Type} (xs : List α) (x a : α) (i : Nat) : (x :: xs).set (i + 1) a = x :: xs.set i a := List.set_cons_succ
/-- the cells of an array of n bytes -/
def bl (n : Nat) (f : Nat → Nat) : List Value := (List.range n).map fun i => Value.int .u8 (f i : Int)
abbrev zb (n : Nat) (f : Nat → Nat) : Array Value := (bl n f).toArray
theorem zl (n : Nat) (f : Nat → Nat) : (bl n f).length = n := by simp [bl]
theorem bl_one {n : Nat} {f : Nat → Nat} : ∀ v ∈ bl n f, v.oneCell' = true := by
 intro v hv
 simp only [bl, List.mem_map] at hv
 obtain ⟨i, _, rfl⟩ := hv
 rfl

theorem zbs (n : Nat) (f : Nat → Nat) : (zb n f).size = n := by simp [bl]
theorem bcells_get {n : Nat} {f : Nat → Nat} {i : Nat} (h : i < n) : (zb n f)[i]? = some (.int .u8 (f i : Int)) := by
 simp [bl, h]
def upd (f : Nat → Nat) (i v : Nat) : Nat → Nat := fun j => if j = i then v else f j
theorem bcells_set {n : Nat} {f : Nat → Nat} {i v : Nat} : (zb n f).setIfInBounds i (.int .u8 (v : Int)) = zb n (upd f i v) := by
 apply Array.ext
 · simp [bl]
 · intro j h1 h2
   have hj : j < n := by simpa [bl] using h2
   rw [Array.getElem_setIfInBounds (by simpa [bl] using hj)]
   by_cases e : i = j
   · subst e; simp [bl, upd]
   · have e' : ¬ j = i := fun h => e h.symm
     simp [bl, upd, e, e']
theorem upd_lt {a b : Nat → Nat} {k v : Nat} (hv : v = a k) : ∀ i, upd (fun i => if i < k then a i else b i) k v i = if i < k + 1 then a i else b i := by
 intro i; subst hv; unfold upd
 by_cases e : i = k
 · subst e; simp
 · have : (i < k + 1) ↔ i < k := by omega
   simp [e, this]
theorem zbc {n : Nat} {f g : Nat → Nat} (h : ∀ i, i < n → f i = g i) : zb n f = zb n g := by
 unfold zb bl
 congr 1
 apply List.map_congr_left
 intro i hi
 rw [h i (by simpa using hi)]
theorem bcells_one (n : Nat) (f : Nat → Nat) : (zb n f).all (·.oneCell') = true :=
 Array.all_eq_true_iff_forall_mem.2 fun v hv => bl_one v (by simpa using hv)
/-- block b holds the bytes f -/
def Blk (w : World) (b n : Nat) (t : TypeId) (f : Nat → Nat) : Prop := w.heap[b]? = some (.cells (zb n f) t (0, 0))

theorem Blk.new (w : World) (n : Nat) (t : TypeId) (f : Nat → Nat) : Blk (w.alloc (.cells (zb n f) t)) w.heap.size n t f := heap_alloc_last w _
theorem Blk.lt {w : World} {b n : Nat} {t : TypeId} {f : Nat → Nat} (h : Blk w b n t f) : b < w.heap.size := by
 unfold Blk at h
 exact (Array.getElem?_eq_some_iff.1 h).1
theorem Blk.cell {w : World} {b n : Nat} {t : TypeId} {f : Nat → Nat} (h : Blk w b n t f) {i : Nat} (hi : i < n) : w.cell? ⟨b, i, none⟩ = some (.int .u8 (f i : Int)) := by
 rw [cell_of_row _ _ _ _ _ _ h]; exact bcells_get hi
theorem Blk.frozen {w : World} {b n : Nat} {t : TypeId} {f : Nat → Nat} (h : Blk w b n t f) (i : Nat) : w.frozen? ⟨b, i, none⟩ = false := frozen_of_row _ _ _ _ _ h
theorem Blk.congr {w : World} {b n : Nat} {t : TypeId} {f g : Nat → Nat} (h : Blk w b n t f) (e : ∀ i, i < n → f i = g i) : Blk w b n t g := by
 unfold Blk at *; rw [h, zbc e]
theorem Blk.set {w : World} {b n : Nat} {t : TypeId} {f : Nat → Nat} (h : Blk w b n t f) {i v : Nat} {x : Int} (e : x = (v : Int)) : Blk (w.setCell ⟨b, i, none⟩ (.int .u8 x)) b n t (upd f i v) := by
 subst e; unfold Blk at *
 rw [heap_setCell_same _ _ _ _ _ _ h, bcells_set]
theorem Blk.setOther {w : World} {b n : Nat} {t : TypeId} {f : Nat → Nat} (h : Blk w b n t f) {a : Addr} {v : Value} (e : b ≠ a.block) : Blk (w.setCell a v) b n t f := by
 unfold Blk at *; rw [heap_setCell_other _ _ _ _ e]; exact h
theorem Blk.alloc {w : World} {b n : Nat} {t : TypeId} {f : Nat → Nat} (h : Blk w b n t f) (o : Obj) : Blk (w.alloc o) b n t f := by
 have := h.lt
 unfold Blk at *; rw [Below.heap_alloc _ _ _ this]; exact h
theorem Blk.drew {w : World} {b n : Nat} {t : TypeId} {f : Nat → Nat} (h : Blk w b n t f) : Blk w.drew b n t f := h
theorem Blk.drewN {w : World} {b n : Nat} {t : TypeId} {f : Nat → Nat} (h : Blk w b n t f) (k : Nat) : Blk (w.drewN k) b n t f := by unfold Blk at *; exact h
theorem Blk.row {w : World} {b n : Nat} {t : TypeId} {f : Nat → Nat} (h : Blk w b n t f) (g : Nat → Nat) : Blk (w.setRow b (zb n g)) b n t g := setRow_heap _ _ _ _ _ _ h
theorem Blk.rowOther {w : World} {b n : Nat} {t : TypeId} {f : Nat → Nat} (h : Blk w b n t f) {k : Nat} {cs : Array Value} (e : b ≠ k) : Blk (w.setRow k cs) b n t f := by
 unfold Blk at *; rw [setRow_other _ _ _ _ e]; exact h
theorem Blk.below {w w' : World} {B b n : Nat} {t : TypeId} {f : Nat → Nat} (h : Blk w b n t f) (hb : Below B w w') (e : b < B) : Blk w' b n t f := by
 unfold Blk at *; rw [hb.block b e]; exact h

theorem Blk.zw {w w' : World} {b n : Nat} {t : TypeId} {f : Nat → Nat} (h : Blk w b n t f) (hb : Below w.heap.size w w') : Blk w' b n t f := Blk.below h hb (Blk.lt h)
theorem Blk.range {w : World} {b n : Nat} {t : TypeId} {f : Nat → Nat} (h : Blk w b n t f) : w.rangeAt b 0 (bl n f) := by
 intro j v hv
 rw [Nat.zero_add, cell_of_row _ _ _ _ _ _ h]
 simpa using hv
theorem Blk.there {w : World} {b n : Nat} {t : TypeId} {f : Nat → Nat} (h : Blk w b n t f) : w.there b 0 n := by
 intro j hj
 rw [Nat.zero_add, h.cell hj]
 exact ⟨rfl, h.frozen j⟩

theorem below_drewN' {B : Nat} {a w : World} (h : Below B a w) (n : Nat) : Below B a (w.drewN n) := ⟨h.os, h.tape, h.output, h.size, h.block⟩

theorem addr_zero_add (b i : Nat) : (⟨b, 0, none⟩ : Addr).add i = ⟨b, i, none⟩ := by unfold Addr.add; split <;> simp_all

theorem zal (w : World) (o : Obj) : Below w.heap.size w (w.alloc o) := (Below.refl _ _).alloc (Nat.le_refl _) _
/-- y points to a block from N on that holds g -/
def PF (y : Value) (w : World) (N n : Nat) (t : TypeId) (g : Nat → Nat) : Prop := ∃ b, y = .pointer (some ⟨b, 0, none⟩) ∧ N ≤ b ∧ Blk w b n t g
def AF (y : Value) (w : World) (N n : Nat) (t : TypeId) : Prop := ∃ g, PF y w N n t g
theorem PF.below {y : Value} {w w' : World} {N n : Nat} {t : TypeId} {g : Nat → Nat} (h : PF y w N n t g) (hb : Below w.heap.size w w') : PF y w' N n t g := by
 obtain ⟨b, e, hN, hk⟩ := h
 exact ⟨b, e, hN, hk.zw hb⟩
theorem AF.below {y : Value} {w w' : World} {N n : Nat} {t : TypeId} (h : AF y w N n t) (hb : Below w.heap.size w w') : AF y w' N n t := by
 obtain ⟨g, h⟩ := h
 exact ⟨g, h.below hb⟩
theorem PF.af {y : Value} {w : World} {N n : Nat} {t : TypeId} {g : Nat → Nat} (h : PF y w N n t g) : AF y w N n t := ⟨g, h⟩
theorem PF.new (w : World) {N : Nat} (n : Nat) (t : TypeId) (g : Nat → Nat) (h : N ≤ w.heap.size) : PF (.pointer (some ⟨w.heap.size, 0, none⟩)) (w.alloc (.cells (zb n g) t)) N n t g := ⟨_, rfl, h, Blk.new _ _ _ _⟩
theorem PF.row {w : World} {b N n : Nat} {t : TypeId} {f : Nat → Nat} (hb : Blk w b n t f) (hN : N ≤ b) (g : Nat → Nat) : PF (.pointer (some ⟨b, 0, none⟩)) (w.setRow b (zb n g)) N n t g := ⟨b, rfl, hN, hb.row g⟩
theorem PF.rowOther {y : Value} {w : World} {b N n : Nat} {t : TypeId} {g : Nat → Nat} {cs : Array Value} (h : PF y w N n t g) (e : y ≠ .pointer (some ⟨b, 0, none⟩)) : PF y (w.setRow b cs) N n t g := by
 obtain ⟨b', e', hN, hk⟩ := h
 refine ⟨b', e', hN, hk.rowOther ?_⟩
 rintro rfl
 exact e e'
theorem AF.row {y : Value} {w : World} {b N n m : Nat} {t u : TypeId} {f g : Nat → Nat} (h : AF y w N n t) (hb : Blk w b m u f) : AF y (w.setRow b (zb m g)) N n t := by
 obtain ⟨g', b', e', hN, hk⟩ := h
 by_cases e : b' = b
 · subst e
   have h1 := hk.symm.trans hb
   simp only [Option.some.injEq, Obj.cells.injEq, and_true] at h1
   obtain ⟨h1, h2⟩ := h1
   have h3 : n = m := by have := congrArg Array.size h1; rwa [zbs, zbs] at this
   subst h3; subst h2
   exact ⟨g, b', e', hN, hk.row g⟩
 · exact ⟨g', b', e', hN, hk.rowOther e⟩
theorem PF.out {y : Value} {w : World} {N n : Nat} {t : TypeId} {g : Nat → Nat} (h : PF y w N n t g) : ∃ b, y = .pointer (some ⟨b, 0, none⟩) ∧ N ≤ b ∧ Blk w b n t g := h
theorem AF.out {y : Value} {w : World} {N n : Nat} {t : TypeId} (h : AF y w N n t) : ∃ g b, y = .pointer (some ⟨b, 0, none⟩) ∧ N ≤ b ∧ Blk w b n t g := h
theorem zr {N b : Nat} {w0 w : World} (hb : Below N w0 w) (h : N ≤ b) (cs : Array Value) : Below N w0 (w.setRow b cs) := below_setRow hb h cs

section
variable {P : Program}
theorem run_index_blk (t e n : Nat) (f : Nat → Nat) (k : IntKind) (i : Nat) (hu : P.underlying t = some (.array n e)) (he : P.underlying e = some (.int .u8)) (hs : (P.info? e).map (·.size) = some 1) (hi : i < n) (w : World) :
 (Instr.index t (.agg (zb n f)) (.int k (i : Int))).run P w = .ok (.int .u8 (f i : Int)) w := by
 cases hq : P.info? e with
 | none => simp [hq] at hs
 | some ie =>
  have hsz : ie.size = 1 := by simpa [hq] using hs
  have hin : (0 : Int) ≤ (i : Int) ∧ (i : Int) < (n : Int) := by omega
  have hagg : (isAgg e).run P w = .ok false w := by
   unfold isAgg
   rw [Sem.run_bind, run_underlying he w]
   rfl
  have hg : (bl n f)[i]? = some (.int .u8 (f i : Int)) := by simp [bl, hi]
  simp [Instr.index, asIntOf, Sem.run_bind, run_underlying hu, sizeOf, typeInfo, hq, hsz, part, hagg, hg]
  intro h; omega
theorem zsb {o : Oper} {a : Act} {w : World} {K : Act → World → Prop} {Q : Exit → Act → World → Prop} (ty : TypeId) (x y : Operand) (ho : o.op = .store ty x y)
 (b : Nat) (n : Nat) (g : Nat → Nat) (hx : a.eval x = .pointer (some ⟨b, 0, none⟩)) (hy : a.eval y = .agg (zb n g)) (t : TypeId) (f : Nat → Nat) (hb : Blk w b n t f)
 (hi : (P.info? ty).map (·.size) = some n) (h : K (a.put o.dst undef) (w.setRow b (zb n g))) : o.wp P a w K Q :=
 wp_store_row ty x y ho b _ hx hy t _ hb (by rw [zbs]; exact hi) (by rw [zbs, zbs]) (bcells_one n g) h
theorem zlb {ops : Array Oper} {rest : List Oper} {o : Oper} {a : Act} {w : World} {Q : Exit → Act → World → Prop} (hgd : o.guard = none) (ty : TypeId) (x : Operand) (ho : o.op = .load ty x)
 (b : Nat) (hx : a.eval x = .pointer (some ⟨b, 0, none⟩)) (n : Nat) (t : TypeId) (f : Nat → Nat) (hb : Blk w b n t f) (e : TypeId)
 (hu : P.underlying ty = some (.array n e)) (hi : (P.info? ty).map (·.size) = some n)
 (h : wpList P ops Q rest (a.put o.dst (.agg (zb n f))) w) : wpList P ops Q (o :: rest) a w :=
 wpList_load_row hgd ty x ho b hx t _ (0, 0) _ hb hu rfl (by rw [zbs]; exact hi) h
theorem wpList_store_blk {ops : Array Oper} {rest : List Oper} {o : Oper} {a : Act} {w : World} {Q : Exit → Act → World → Prop} (hgd : o.guard = none) (ty : TypeId) (x y : Operand) (ho : o.op = .store ty x y)
 (b : Nat) (n : Nat) (g : Nat → Nat) (hx : a.eval x = .pointer (some ⟨b, 0, none⟩)) (hy : a.eval y = .agg (zb n g)) (t : TypeId) (f : Nat → Nat) (hb : Blk w b n t f)
 (hi : (P.info? ty).map (·.size) = some n)
 (h : wpList P ops Q rest (a.put o.dst undef) (w.setRow b (zb n g))) : wpList P ops Q (o :: rest) a w :=
 wpList_store_row hgd ty x y ho b _ hx hy t _ hb (by rw [zbs]; exact hi) (by rw [zbs, zbs]) (bcells_one n g) h
theorem run_loadVar_blk (w : World) (b n : Nat) (t ty e : TypeId) (f : Nat → Nat) (hb : Blk w b n t f) (hu : P.underlying ty = some (.array n e)) (hi : (P.info? ty).map (·.size) = some n) :
 (loadVar ty ⟨b, 0, none⟩).run P w = .ok (.agg (zb n f)) w :=
 run_loadVar_row w b t ty _ (0, 0) _ hb hu rfl (by rw [zbs]; exact hi)
theorem zrb {fn : Func} {p : Tmp} {ty : TypeId} (h : fn.results = #[.cell p ty]) (tmps : Array Value) (w : World) (b n : Nat) (t e : TypeId) (f : Nat → Nat)
 (hp : tmps.getD p undef = .pointer (some ⟨b, 0, none⟩)) (hb : Blk w b n t f) (hu : P.underlying ty = some (.array n e)) (hi : (P.info? ty).map (·.size) = some n) :
 (results fn tmps).run P w = .ok (.agg (zb n f)) w :=
 results_cell_row h tmps w b t _ (0, 0) _ hp hb hu rfl (by rw [zbs]; exact hi)
end
theorem z64 : zb 64 (fun _ => 0) = #[.int .u8 0, .int .u8 0, .int .u8 0, .int .u8 0, .int .u8 0, .int .u8 0, .int .u8 0, .int .u8 0, .int .u8 0, .int .u8 0, .int .u8 0, .int .u8 0, .int .u8 0, .int .u8 0, .int .u8 0, .int .u8 0, .int .u8 0, .int .u8 0, .int .u8 0, .int .u8 0, .int .u8 0, .int .u8 0, .int .u8 0, .int .u8 0, .int .u8 0, .int .u8 0, .int .u8 0, .int .u8 0, .int .u8 0, .int .u8 0, .int .u8 0, .int .u8 0, .int .u8 0, .int .u8 0, .int .u8 0, .int .u8 0, .int .u8 0, .int .u8 0, .int .u8 0, .int .u8 0, .int .u8 0, .int .u8 0, .int .u8 0, .int .u8 0, .int .u8 0, .int .u8 0, .int .u8 0, .int .u8 0, .int .u8 0, .int .u8 0, .int .u8 0, .int .u8 0, .int .u8 0, .int .u8 0, .int .u8 0, .int .u8 0, .int .u8 0, .int .u8 0, .int .u8 0, .int .u8 0, .int .u8 0, .int .u8 0, .int .u8 0, .int .u8 0] := by rfl
attribute [irreducible] Blk PF AF bl
end Go.Proofs.Ytobcdekochenfaa
end
section
namespace Go.Proofs.Ytobcdekochenfaa
open Go Go.RowKit
/-- the first n cells are the same -/
def eqN (n : Nat) (f g : Nat → Nat) : Bool := (List.range n).all fun i => f i == g i
section
variable {P : Program}
theorem run_part_byte (w : World) (e n i : Nat) (f : Nat → Nat) (he : P.underlying e = some (.int .u8)) (hi : i < n) : (part e (zb n f) (i * 1)).run P w = .ok (.int .u8 (f i : Int)) w := by
 have h := bcells_get (f := f) hi
 rw [Nat.mul_one]
 unfold part isAgg
 simp only [Sem.run_bind, run_underlying he, Result.andThen_ok, Sem.run_pure]
 simp [h]
theorem zeb (w : World) (d t e n : Nat) (f g : Nat → Nat) (hu : P.underlying t = some (.array n e)) (he : P.underlying e = some (.int .u8)) (hs : (P.info? e).map (·.size) = some 1) :
 (Op.equalIn (d + 2) t (.agg (zb n f)) (.agg (zb n g))).run P w = .ok (eqN n f g) w := by
 have hsz : (sizeOf e).run P w = .ok 1 w := by
  cases hq : P.info? e with
  | none => simp [hq] at hs
  | some i =>
   have : i.size = 1 := by simpa [hq] using hs
   simp [sizeOf, typeInfo, hq, this, Sem.run_bind]
 rw [Op.equalIn]
 simp only [Sem.run_bind, run_underlying hu, Result.andThen_ok, hsz]
 rw [Std.Legacy.Range.forIn_eq_forIn_range']
 have key : ∀ l : List Nat, (∀ i, i ∈ l → i < n) → (forIn l ((none : Option Bool), ()) fun i __s => (do
           let __do_lift ← part e (zb n f) (i * 1)
           let __do_lift_1 ← part e (zb n g) (i * 1)
           let __do_lift ← Op.equalIn (d + 1) e __do_lift __do_lift_1
           if (!__do_lift) = true then pure (ForInStep.done (some false, ())) else pure (ForInStep.yield (none, ())) : Sem (ForInStep (Option Bool × Unit)))).run P w = .ok (if (l.all fun i => f i == g i) then none else some false, ()) w := by
  intro l
  induction l with
  | nil => intro _; simp
  | cons i l ih =>
   intro hl
   have hi := hl i (by simp)
   rw [List.forIn_cons]
   simp only [Sem.run_bind, run_part_byte w e n i f he hi, run_part_byte w e n i g he hi, Result.andThen_ok, run_equalIn_int w d e .u8 .u8 _ _ he]
   by_cases h : f i = g i
   · have h' : ((f i : Int) == (g i : Int)) = true := by simp [h]
     rw [h']
     simp only [Bool.not_true, Bool.false_eq_true, if_false, Sem.run_pure, Result.andThen_ok, List.all_cons, h, beq_self_eq_true, Bool.true_and]
     exact ih (fun j hj => hl j (by simp [hj]))
   · have h' : ((f i : Int) == (g i : Int)) = false := by simp; omega
     rw [h']
     simp [List.all_cons, h]
 have hr := key (List.range' 0 n) (fun i hi => by simpa using hi)
 have e1 : (List.range' 0 n).all (fun i => f i == g i) = eqN n f g := by rw [eqN, List.range_eq_range']
 rw [e1] at hr
 have e2 : ([:n].size) = n := by simp [Std.Legacy.Range.size]
 rw [show (List.range' [:n].start [:n].size [:n].step) = List.range' 0 n by rw [e2]]
 rw [hr]
 cases eqN n f g <;> simp
end
end Go.Proofs.Ytobcdekochenfaa
end
section
namespace Go.Proofs.Ytobcdekochenfaa
open Go Go.RowKit
section
variable {P : Program}
theorem wp_load_any {o : Oper} {a : Act} {w : World} {K : Act → World → Prop} {Q : Exit → Act → World → Prop} (ty : TypeId) (x : Operand) (ho : o.op = .load ty x)
 (b : Nat) (hx : a.eval x = .pointer (some ⟨b, 0, none⟩)) (n : Nat) (t : TypeId) (f : Nat → Nat) (hb : Blk w b n t f) (d : TypeDesc)
 (hu : P.underlying ty = some d) (hd : (match d with | .struct _ | .array _ _ => true | _ => false) = true) (hi : (P.info? ty).map (·.size) = some n) (h : K (a.put o.dst (.agg (zb n f))) w) : o.wp P a w K Q := by
 have hb' : w.heap[b]? = some (.cells (zb n f) t (0, 0)) := by unfold Blk at hb; exact hb
 exact wp_load_row ty x ho b hx t _ (0, 0) d hb' hu hd (by rw [zbs]; exact hi) h
theorem zlc {o : Oper} {a : Act} {w : World} {K : Act → World → Prop} {Q : Exit → Act → World → Prop} {ty : TypeId} {x : Operand} {b n : Nat} {t : TypeId} {f : Nat → Nat} {d : TypeDesc} (hb : Blk w b n t f) (hu : P.underlying ty = some d) (hi : (P.info? ty).map (·.size) = some n) (h : K (a.put o.dst (.agg (zb n f))) w) (ho : o.op = .load ty x := by rfl) (hx : a.eval x = .pointer (some ⟨b, 0, none⟩) := by rfl) (hd : (match d with | .struct _ | .array _ _ => true | _ => false) = true := by rfl) : o.wp P a w K Q := wp_load_any ty x ho b hx n t f hb d hu hd hi h
theorem wpList_load_any {ops : Array Oper} {rest : List Oper} {o : Oper} {a : Act} {w : World} {Q : Exit → Act → World → Prop} (hgd : o.guard = none) (ty : TypeId) (x : Operand) (ho : o.op = .load ty x)
 (b : Nat) (hx : a.eval x = .pointer (some ⟨b, 0, none⟩)) (n : Nat) (t : TypeId) (f : Nat → Nat) (hb : Blk w b n t f) (d : TypeDesc)
 (hu : P.underlying ty = some d) (hd : (match d with | .struct _ | .array _ _ => true | _ => false) = true) (hi : (P.info? ty).map (·.size) = some n)
 (h : wpList P ops Q rest (a.put o.dst (.agg (zb n f))) w) : wpList P ops Q (o :: rest) a w := by
 have hb' : w.heap[b]? = some (.cells (zb n f) t (0, 0)) := by unfold Blk at hb; exact hb
 exact wpList_load_row hgd ty x ho b hx t _ (0, 0) d hb' hu hd (by rw [zbs]; exact hi) h
theorem zla {ops : Array Oper} {rest : List Oper} {o : Oper} {a : Act} {w : World} {Q : Exit → Act → World → Prop} {ty : TypeId} {b n : Nat} {t : TypeId} {f : Nat → Nat} {d : TypeDesc} (x : Operand) (hb : Blk w b n t f) (hu : P.underlying ty = some d) (hi : (P.info? ty).map (·.size) = some n) (h : wpList P ops Q rest (a.put o.dst (.agg (zb n f))) w) (hgd : o.guard = none := by rfl) (ho : o.op = .load ty x := by rfl) (hx : a.eval x = .pointer (some ⟨b, 0, none⟩) := by rfl) (hd : (match d with | .struct _ | .array _ _ => true | _ => false) = true := by rfl) : wpList P ops Q (o :: rest) a w := wpList_load_any hgd ty x ho b hx n t f hb d hu hd hi h
theorem zsr {ops : Array Oper} {rest : List Oper} {o : Oper} {a : Act} {w : World} {Q : Exit → Act → World → Prop} {ty : TypeId} {b n : Nat} {t : TypeId} {f : Nat → Nat} (x y : Operand) (g : Nat → Nat) (hb : Blk w b n t f) (hi : (P.info? ty).map (·.size) = some n) (h : wpList P ops Q rest (a.put o.dst undef) (w.setRow b (zb n g))) (hgd : o.guard = none := by rfl) (ho : o.op = .store ty x y := by rfl) (hx : a.eval x = .pointer (some ⟨b, 0, none⟩) := by rfl) (hy : a.eval y = .agg (zb n g) := by rfl) : wpList P ops Q (o :: rest) a w := wpList_store_blk hgd ty x y ho b n g hx hy t f hb hi h
theorem zlg {ops : Array Oper} {rest : List Oper} {o : Oper} {a : Act} {w : World} {Q : Exit → Act → World → Prop} (hw : Region.wanted o (yielded ops a.tmps) = true) (ty : TypeId) (x : Operand) (ho : o.op = .load ty x)
 (b : Nat) (hx : a.eval x = .pointer (some ⟨b, 0, none⟩)) (n : Nat) (t : TypeId) (f : Nat → Nat) (hb : Blk w b n t f) (d : TypeDesc)
 (hu : P.underlying ty = some d) (hd : (match d with | .struct _ | .array _ _ => true | _ => false) = true) (hi : (P.info? ty).map (·.size) = some n)
 (h : wpList P ops Q rest (a.put o.dst (.agg (zb n f))) w) : wpList P ops Q (o :: rest) a w := by
 unfold wpList
 rw [if_pos hw]
 exact Or.inl (wp_load_any ty x ho b hx n t f hb d hu hd hi h)
theorem wp_build_of {o : Oper} {a : Act} {w : World} {K : Act → World → Prop} {Q : Exit → Act → World → Prop} (t : TypeId) (parts : Array (Nat × Operand)) (ho : o.op = .build t parts)
 (cells : Array Value) (hc : P.built t (parts.map fun (i, x) => (i, a.eval x)).toList = some cells) (h : K (a.put o.dst (.agg cells)) w) : o.wp P a w K Q := by
 refine wp_build t parts ho (by rw [hc]; rfl) ?_
 rw [hc]; exact h
theorem zbo {ops : Array Oper} {rest : List Oper} {o : Oper} {a : Act} {w : World} {Q : Exit → Act → World → Prop} (hg : o.guard = none) (t : TypeId) (parts : Array (Nat × Operand)) (ho : o.op = .build t parts)
 (cells : Array Value) (hc : P.built t (parts.map fun (i, x) => (i, a.eval x)).toList = some cells) (h : wpList P ops Q rest (a.put o.dst (.agg cells)) w) : wpList P ops Q (o :: rest) a w :=
 wpList_plain hg fun _ hK => wp_build_of t parts ho cells hc (hK _ _ h)
end
end Go.Proofs.Ytobcdekochenfaa
end
section
namespace Go.Proofs.Ytobcdekochenfaa
open Go.RowKit
def setL (L : Nat → Bool) (i : Nat) : Nat → Bool := fun j => if j = i then true else L j
def updV (v : Nat → Value) (i : Nat) (y : Value) : Nat → Value := fun j => if j = i then y else v j
/-- the frame a0 with the value v i laid into the slot of operation i, for each i -/
def frL (a0 : Act) : List Oper → Nat → (Nat → Value) → Act
 | [], _, _ => a0
 | o :: os, k, v => frL (a0.put o.dst (v k)) os (k + 1) v
def fr (a0 : Act) (ops : Array Oper) (v : Nat → Value) : Act := frL a0 ops.toList 0 v

/-- all later edges lead back; no slot is written twice -/
def edgesOk (ops : Array Oper) : Bool := (List.range ops.size).all fun i => (ops[i]?.map fun o => o.after.all fun e => !Region.binds .any e || decide (e.on < i)).getD true
def dstsOkL : List Oper → Bool
 | [] => true
 | o :: os => (match o.dst with | none => true | some d => os.all fun q => q.dst != some d) && dstsOkL os
theorem put_comm {a : Act} {d e : Option Tmp} {x y : Value} (h : d = none ∨ d ≠ e) : (a.put d x).put e y = (a.put e y).put d x := by
 cases d with
 | none => cases e <;> rfl
 | some d =>
  cases e with
  | none => rfl
  | some e =>
   have hne : d ≠ e := by
    rcases h with h | h
    · cases h
    · exact fun h' => h (by rw [h'])
   simp only [Act.put]
   congr 1
   apply Array.ext_getElem?
   intro j
   simp only [Array.getElem?_setIfInBounds, Array.size_setIfInBounds]
   by_cases h1 : e = j <;> by_cases h2 : d = j <;> simp_all
theorem put_twice {a : Act} {d : Option Tmp} {x y : Value} : (a.put d x).put d y = a.put d y := by
 cases d with
 | none => rfl
 | some d => simp [Act.put]
theorem frL_congr : ∀ (os : List Oper) (a0 : Act) (k : Nat) (v v' : Nat → Value), (∀ j, k ≤ j → v j = v' j) → frL a0 os k v = frL a0 os k v'
 | [], _, _, _, _, _ => rfl
 | o :: os, a0, k, v, v', h => by
  simp only [frL]
  rw [h k (Nat.le_refl _)]
  exact frL_congr os _ (k + 1) v v' fun j hj => h j (by omega)
theorem frL_put : ∀ (os : List Oper) (a0 : Act) (k : Nat) (v : Nat → Value) (d : Option Tmp) (y : Value), (d = none ∨ os.all (fun q => q.dst != d) = true) → (frL a0 os k v).put d y = frL (a0.put d y) os k v
 | [], _, _, _, _, _, _ => rfl
 | o :: os, a0, k, v, d, y, h => by
  simp only [frL]
  have h' : d = none ∨ os.all (fun q => q.dst != d) = true := by
   rcases h with h | h
   · exact .inl h
   · simp only [List.all_cons, Bool.and_eq_true] at h; exact .inr h.2
  rw [frL_put os _ (k + 1) v d y h']
  congr 1
  rcases h with h | h
  · subst h; rfl
  · simp only [List.all_cons, Bool.and_eq_true] at h
    have : o.dst ≠ d := by simpa using h.1
    exact put_comm (.inr this)
theorem frL_step : ∀ (os : List Oper) (a0 : Act) (k : Nat) (v : Nat → Value) (i : Nat) (o : Oper) (y : Value), dstsOkL os = true → os[i]? = some o → (frL a0 os k v).put o.dst y = frL a0 os k (updV v (k + i) y)
 | [], _, _, _, _, _, _, _, h => by simp at h
 | p :: os, a0, k, v, 0, o, y, hd, h => by
  simp only [List.getElem?_cons_zero, Option.some.injEq] at h
  subst h
  simp only [dstsOkL, Bool.and_eq_true] at hd
  have h' : p.dst = none ∨ os.all (fun q => q.dst != p.dst) = true := by
   cases hp : p.dst with
   | none => exact .inl rfl
   | some d => right; have := hd.1; rw [hp] at this; exact this
  simp only [frL, Nat.add_zero]
  rw [frL_put os _ (k + 1) v p.dst y h', put_twice]
  have : updV v k y k = y := by simp [updV]
  rw [this]
  exact frL_congr os _ (k + 1) _ _ fun j hj => by simp [updV, show j ≠ k by omega]
 | p :: os, a0, k, v, i + 1, o, y, hd, h => by
  simp only [dstsOkL, Bool.and_eq_true] at hd
  simp only [List.getElem?_cons_succ] at h
  simp only [frL]
  rw [frL_step os _ (k + 1) v i o y hd.2 h]
  have e1 : updV v (k + (i + 1)) y k = v k := by simp [updV]
  have e2 : k + 1 + i = k + (i + 1) := by omega
  rw [e1, e2]
theorem put_self {a : Act} {d : Option Tmp} : (a.put d ((d.map fun t => a.tmps.getD t undef).getD undef)) = a := by
 cases d with
 | none => rfl
 | some d =>
  simp only [Act.put, Option.map_some, Option.getD_some]
  cases a with
  | mk t ds =>
   congr 1
   apply Array.ext_getElem?
   intro j
   simp only [Array.getElem?_setIfInBounds]
   by_cases h : d = j
   · subst h
     by_cases hs : d < t.size <;> simp [hs]
   · simp [h]
theorem frL_start : ∀ (os : List Oper) (a0 : Act) (k : Nat) (v : Nat → Value), (∀ i o, os[i]? = some o → v (k + i) = ((o.dst.map fun t => a0.tmps.getD t undef).getD undef)) → frL a0 os k v = a0
 | [], _, _, _, _ => rfl
 | o :: os, a0, k, v, h => by
  simp only [frL]
  have h0 := h 0 o rfl
  rw [Nat.add_zero] at h0
  rw [h0, put_self]
  exact frL_start os a0 (k + 1) v fun i p hp => by
   have := h (i + 1) p (by simpa using hp)
   rw [show k + 1 + i = k + (i + 1) by omega]
   exact this
section
variable {P : Program} {ops : Array Oper} {Q : Exit → Act → World → Prop}
/-- what is asked of operation i -/
def StepOk (P : Program) (ops : Array Oper) (Q : Exit → Act → World → Prop) (a0 : Act) (Ψ : (Nat → Bool) → (Nat → Value) → World → Prop) (i : Nat) (o : Oper) : Prop :=
 ∀ (L : Nat → Bool) (v : Nat → Value) (w : World), (∀ e, e ∈ o.after → Region.binds .any e = true → L e.on = true) →
  (∀ j p, ops[j]? = some p → L j = true → ∀ e, e ∈ p.after → Region.binds .any e = true → e.on ≠ i) → Ψ L v w →
  ∀ K : Act → World → Prop, (∀ a' y w', a' = (fr a0 ops v).put o.dst y → Ψ (setL L i) (updV v i y) w' → K a' w') →
   if Region.wanted o (yielded ops (fr a0 ops v).tmps) = true then Oper.wp P o (fr a0 ops v) w K Q else K ((fr a0 ops v).put o.dst undef) w

theorem zdq {A : Array Edge} {L : Nat → Bool} (hd : ∀ e, e ∈ A → Region.binds .any e = true → L e.on = true) (i : Nat) (h : A.toList.any (fun e => e.on == i && Region.binds .any e) = true) : L i = true := by
 obtain ⟨e, he, h2⟩ := List.any_eq_true.1 h
 simp only [Bool.and_eq_true, beq_iff_eq] at h2
 rw [← h2.1]
 exact hd e (by simpa using he) h2.2
theorem wpAny_inv {a0 : Act} {Ψ : (Nat → Bool) → (Nat → Value) → World → Prop} (hd : dstsOkL ops.toList = true) (he : edgesOk ops = true)
 (hstep : ∀ i o, ops[i]? = some o → StepOk P ops Q a0 Ψ i o)
 (hend : ∀ L v w, (∀ i, i < ops.size → L i = true) → Ψ L v w → Q .normal (fr a0 ops v) w) :
 ∀ (fuel : Nat) (listed : Array Bool) (v : Nat → Value) (w : World), listed.size = ops.size → (listed.toList.filter (!·)).length = fuel → Ψ (fun j => listed.getD j false) v w →
  (∀ j p, ops[j]? = some p → listed.getD j false = true → ∀ e, e ∈ p.after → Region.binds .any e = true → listed.getD e.on false = true) →
  wpAny P .any ops Q fuel listed (fr a0 ops v) w := by
 have hall : ∀ listed : Array Bool, listed.size = ops.size → Region.ready .any ops listed = [] → ∀ i, i < ops.size → listed.getD i false = true := by
  intro listed hs hr i
  induction i using Nat.strongRecOn with
  | _ i ih =>
   intro hi
   cases hb : listed.getD i false with
   | true => rfl
   | false =>
    exfalso
    have hmem : i ∈ Region.ready .any ops listed := by
     unfold Region.ready
     simp only [List.mem_filter, List.mem_range, hi, true_and, Bool.and_eq_true]
     have ho : ops[i]? = some ops[i] := Array.getElem?_eq_getElem hi
     constructor
     · have : listed.getD i true = false := by
        have h2 : i < listed.size := by omega
        simpa [Array.getD, h2] using hb
       simp [this]
     · rw [ho]
       simp only [Option.map_some, Option.getD_some, Array.all_eq_true_iff_forall_mem]
       intro e hem
       have hE := he
       unfold edgesOk at hE
       rw [List.all_eq_true] at hE
       have := hE i (by simpa using hi)
       rw [ho] at this
       simp only [Option.map_some, Option.getD_some, Array.all_eq_true_iff_forall_mem] at this
       have h3 := this e hem
       cases hbd : Region.binds .any e with
       | false => simp
       | true =>
        simp only [hbd, Bool.not_true, Bool.false_or, decide_eq_true_eq] at h3
        simp [ih e.on h3 (by omega)]
    rw [hr] at hmem
    cases hmem
 intro fuel
 induction fuel with
 | zero =>
  intro listed v w hs hc hI _
  have hl : ∀ i, i < ops.size → listed.getD i false = true := by
   intro i hi
   have h2 : i < listed.size := by omega
   cases hb : listed[i] with
   | true => simp [Array.getD, h2, hb]
   | false =>
    exfalso
    have : false ∈ listed.toList.filter (!·) := by
     rw [List.mem_filter]
     exact ⟨by rw [← hb]; simp, rfl⟩
    rw [List.length_eq_zero_iff.1 hc] at this
    cases this
  refine ⟨?_, hend _ v w hl hI⟩
  unfold Region.ready
  rw [List.filter_eq_nil_iff]
  intro i hi
  have hi' : i < ops.size := by simpa using hi
  have h2 : i < listed.size := by omega
  have := hl i hi'
  have h4 : listed.getD i true = true := by simpa [Array.getD, h2] using this
  simp [h4]
 | succ fuel ih =>
  intro listed v w hs hc hI hcl
  refine ⟨fun hr => hend _ v w (hall listed hs hr) hI, ?_⟩
  intro i hi
  unfold Region.ready at hi
  simp only [List.mem_filter, List.mem_range, Bool.and_eq_true] at hi
  obtain ⟨hin, hnl, haf⟩ := hi
  have ho : ops[i]? = some ops[i] := Array.getElem?_eq_getElem hin
  rw [ho] at haf
  simp only [Option.map_some, Option.getD_some, Array.all_eq_true_iff_forall_mem] at haf
  have h2 : i < listed.size := by omega
  have hfalse : listed[i] = false := by
   have : listed.getD i true = false := by simpa using hnl
   simpa [Array.getD, h2] using this
  refine wpOp_step ho fun K' hK => ?_
  refine hstep i _ ho _ v w ?_ ?_ hI K' ?_
  · intro e hem hb
    have := haf e hem
    simpa [hb] using this
  · intro j p hp hj e hem hb he'
    have := hcl j p hp hj e hem hb
    rw [he'] at this
    simp [Array.getD, h2, hfalse] at this
  · intro a' y w' ha' hΨ
    subst ha'
    refine hK _ _ ?_
    have hst : (fr a0 ops v).put ops[i].dst y = fr a0 ops (updV v i y) := by
     have := frL_step ops.toList a0 0 v i ops[i] y hd (by simp [hin])
     rw [Nat.zero_add] at this
     exact this
    rw [hst]
    have e : (fun j => (listed.setIfInBounds i true).getD j false) = setL (fun j => listed.getD j false) i := by
     funext j
     unfold setL
     by_cases h : j = i
     · subst h; simp [Array.getD, h2]
     · have h' : ¬ i = j := fun e => h e.symm
       simp only [h, if_false, Array.getD, Array.size_setIfInBounds]
       by_cases h3 : j < listed.size
       · simp [h3, h']
       · simp [h3]
    refine ih _ _ _ (by simpa using hs) ?_ ?_ ?_
    · have : ∀ (l : List Bool) (i : Nat) (h : i < l.length), l[i] = false → ((l.set i true).filter (!·)).length + 1 = (l.filter (!·)).length := by
       intro l
       induction l with
       | nil => intro i h; simp at h
       | cons b l ihl =>
        intro i h hf
        cases i with
        | zero => simp at hf; subst hf; simp
        | succ i =>
         simp only [List.set_cons_succ]
         have := ihl i (by simpa using h) (by simpa using hf)
         cases b <;> simp <;> omega
      have := this listed.toList i (by simpa using h2) (by simpa using hfalse)
      rw [Array.toList_setIfInBounds]
      omega
    · rw [e]
      exact hΨ
    · intro j p hp hj e2 hem hb
      have ej := congrFun e j
      have ee := congrFun e e2.on
      skip
      rw [ej] at hj
      rw [ee]
      unfold setL at hj ⊢
      by_cases h1 : e2.on = i
      · simp [h1]
      · simp only [h1, if_false]
        by_cases h2 : j = i
        · subst h2
          rw [ho] at hp
          simp only [Option.some.injEq] at hp
          subst hp
          have := haf e2 hem
          simpa [hb] using this
        · simp only [h2, if_false] at hj
          exact hcl j p hp hj e2 hem hb

/-- what is asked of operation i, no guard before it; F: the frame, written out -/
def StepU (P : Program) (ops : Array Oper) (Q : Exit → Act → World → Prop) (F : (Nat → Value) → Act) (Ψ : (Nat → Bool) → (Nat → Value) → World → Prop) (i : Nat) (o : Oper) : Prop :=
 ∀ (L : Nat → Bool) (v : Nat → Value) (w : World), (∀ e, e ∈ o.after → Region.binds .any e = true → L e.on = true) →
  (∀ j p, ops[j]? = some p → L j = true → ∀ e, e ∈ p.after → Region.binds .any e = true → e.on ≠ i) → Ψ L v w →
  ∀ K : Act → World → Prop, (∀ a' y w', a' = (F v).put o.dst y → Ψ (setL L i) (updV v i y) w' → K a' w') → Oper.wp P o (F v) w K Q
inductive Steps (P : Program) (ops : Array Oper) (Q : Exit → Act → World → Prop) (F : (Nat → Value) → Act) (Ψ : (Nat → Bool) → (Nat → Value) → World → Prop) : List Oper → Nat → Prop
 | nil (k : Nat) : Steps P ops Q F Ψ [] k
 | cons {o : Oper} {os : List Oper} {k : Nat} (hg : o.guard = none) (h : StepU P ops Q F Ψ k o) (hs : Steps P ops Q F Ψ os (k + 1)) : Steps P ops Q F Ψ (o :: os) k
theorem steps_of {F : (Nat → Value) → Act} {Ψ : (Nat → Bool) → (Nat → Value) → World → Prop} : ∀ (os : List Oper) (k : Nat), Steps P ops Q F Ψ os k → ∀ i o, os[i]? = some o → o.guard = none ∧ StepU P ops Q F Ψ (k + i) o
 | [], _, _, _, _, h => by simp at h
 | p :: os, k, hs, 0, o, h => by
  simp only [List.getElem?_cons_zero, Option.some.injEq] at h
  subst h
  cases hs with
  | cons hg h _ => exact ⟨hg, h⟩
 | p :: os, k, hs, i + 1, o, h => by
  cases hs with
  | cons _ _ hs =>
   have := steps_of os (k + 1) hs i o (by simpa using h)
   rwa [show k + 1 + i = k + (i + 1) by omega] at this
end
end Go.Proofs.Ytobcdekochenfaa
end
section
namespace Go.Proofs.Ytobcdekochenfaa
open Go Go.RowKit
section
variable {P : Program} {Q : Exit → Act → World → Prop}
theorem wp_region_psi0 {ops : Array Oper} {id : Nat} {a0 : Act} {w : World} (hm : P.follows .mixedOrders = true) (hd : dstsOkL ops.toList = true) (he : edgesOk ops = true)
 (Ψ : (Nat → Bool) → (Nat → Value) → World → Prop) (h0 : ∀ v, (∀ i, v i = ((ops[i]?.bind (·.dst)).map fun t => a0.tmps.getD t undef).getD undef) → Ψ (fun _ => false) v w.drew)
 (hstep : ∀ i o, ops[i]? = some o → StepOk P ops Q a0 Ψ i o)
 (hend : ∀ L v w, (∀ i, i < ops.size → L i = true) → Ψ L v w → Q .normal (fr a0 ops v) w) : (Code.region id ops true).wp P Q a0 w := by
 refine wp_region_any hm ?_
 have hfr : fr a0 ops (fun i => ((ops[i]?.bind (·.dst)).map fun t => a0.tmps.getD t undef).getD undef) = a0 := by
  refine frL_start _ _ _ _ fun i o ho => ?_
  have ho' : ops[i]? = some o := by simpa using ho
  simp [ho']
 have key := wpAny_inv (P := P) (Q := Q) hd he hstep hend ops.size (Array.replicate ops.size false) (fun i => ((ops[i]?.bind (·.dst)).map fun t => a0.tmps.getD t undef).getD undef) w.drew (by simp) (by simp) (by
  have e : (fun j => (Array.replicate ops.size false).getD j false) = fun _ => false := by
   funext j; simp [Array.getD]
  rw [e]; exact h0 _ (fun _ => rfl)) (by
  intro j p _ hj
  simp [Array.getD] at hj)
 rw [hfr] at key
 exact key
theorem zq {os : List Oper} {id : Nat} {a0 : Act} {w : World} (hm : P.follows .mixedOrders = true) (hd : dstsOkL os = true) (he : edgesOk os.toArray = true)
 {F : (Nat → Value) → Act} (hF : ∀ v, frL a0 os 0 v = F v)
 (Ψ : (Nat → Bool) → (Nat → Value) → World → Prop) (h0 : ∀ v, (∀ i, v i = ((os[i]?.bind (·.dst)).map fun t => a0.tmps.getD t undef).getD undef) → Ψ (fun _ => false) v w.drew)
 (hstep : Steps P os.toArray Q F Ψ os 0)
 (hend : ∀ L v w, (∀ i, i < os.length → L i = true) → Ψ L v w → Q .normal (F v) w) : (Code.region id os.toArray true).wp P Q a0 w := by
 refine wp_region_psi0 hm (by simpa using hd) he Ψ (fun v hv => h0 v (by simpa using hv)) (fun i o ho => ?_) (fun L v w hL hΨ => ?_)
 · obtain ⟨hg, hs⟩ := steps_of _ _ hstep i o (by simpa using ho)
   rw [Nat.zero_add] at hs
   intro L v w h1 h2 h3 K hK
   have hw : Region.wanted o (yielded os.toArray (fr a0 os.toArray v).tmps) = true := by simp [Region.wanted, hg]
   rw [if_pos hw]
   have hf : fr a0 os.toArray v = F v := hF v
   rw [hf] at hK ⊢
   exact hs L v w h1 h2 h3 K hK
 · have hf : fr a0 os.toArray v = F v := hF v
   rw [hf]
   exact hend L v w (by simpa using hL) hΨ
end
def VF (L : Nat → Bool) (v : Nat → Value) (vals : List (Option Value)) : Prop := ∀ i x, vals[i]? = some (some x) → L i = true → v i = x
theorem VF.start {v : Nat → Value} {vals : List (Option Value)} : VF (fun _ => false) v vals := fun _ _ _ h => by cases h
theorem VF.at {L : Nat → Bool} {v : Nat → Value} {vals : List (Option Value)} (h : VF L v vals) {i : Nat} {x : Value} (hL : L i = true) (e : vals[i]? = some (some x)) : v i = x := h i x e hL
theorem VF.step {L : Nat → Bool} {v : Nat → Value} {vals : List (Option Value)} (h : VF L v vals) (i : Nat) {y : Value} (e : vals[i]? = some (some y)) : VF (setL L i) (updV v i y) vals := fun j x hj hL => by
 unfold setL at hL
 unfold updV
 by_cases c : j = i
 · subst c
   rw [e] at hj
   injection hj with hj
   injection hj with hj
   rw [if_pos rfl]; exact hj
 · rw [if_neg c] at hL ⊢
   exact h j x hj hL
theorem VF.skip {L : Nat → Bool} {v : Nat → Value} {vals : List (Option Value)} (h : VF L v vals) (i : Nat) {y : Value} (e : vals[i]? = some none) : VF (setL L i) (updV v i y) vals := fun j x hj hL => by
 unfold setL at hL
 unfold updV
 by_cases c : j = i
 · subst c
   rw [e] at hj
   injection hj with hj
   cases hj
 · rw [if_neg c] at hL ⊢
   exact h j x hj hL
attribute [irreducible] VF
end Go.Proofs.Ytobcdekochenfaa
end
section
namespace Go.Proofs.Ytobcdekochenfaa
open Go Go.RowKit
set_option linter.unusedVariables false
/-- the rows F, of c cells each, one behind the other -/
def fl (c : Nat) (F : Nat → Nat → Nat) : Nat → Nat := fun k => F (k / c) (k % c)
/-- F with the row i replaced -/
def updR (F : Nat → Nat → Nat) (i : Nat) (g : Nat → Nat) : Nat → Nat → Nat := fun r => if r = i then g else F r
theorem updR_same (F : Nat → Nat → Nat) (i : Nat) (g : Nat → Nat) : updR F i g i = g := if_pos rfl
theorem updR_other {F : Nat → Nat → Nat} {i r : Nat} {g : Nat → Nat} (h : r ≠ i) : updR F i g r = F r := if_neg h
theorem fl_at {c : Nat} {F : Nat → Nat → Nat} {i j : Nat} (hj : j < c) : fl c F (i * c + j) = F i j := by
 unfold fl
 rw [Nat.mul_comm i c, Nat.mul_add_div (by omega), Nat.div_eq_of_lt hj, Nat.mul_add_mod, Nat.mod_eq_of_lt hj, Nat.add_zero]
theorem fl_congr {c n : Nat} {F G : Nat → Nat → Nat} (hc : 0 < c) (h : ∀ i, i < n → ∀ j, j < c → F i j = G i j) : ∀ k, k < n * c → fl c F k = fl c G k := by
 intro k hk
 unfold fl
 exact h _ (Nat.div_lt_of_lt_mul (by rw [Nat.mul_comm]; exact hk)) _ (Nat.mod_lt _ hc)
theorem fl_zero (c : Nat) : fl c (fun _ _ => 0) = fun _ => 0 := by delta fl; rfl
/-- m cells from o on replaced -/
def sub (f : Nat → Nat) (o m : Nat) (g : Nat → Nat) : Nat → Nat := fun k => if o ≤ k ∧ k < o + m then g (k - o) else f k
theorem sub_fl {c i : Nat} {F : Nat → Nat → Nat} {g : Nat → Nat} (hc : 0 < c) : sub (fl c F) (i * c) c g = fl c (updR F i g) := by
 funext k
 unfold sub fl updR
 have e := Nat.div_add_mod k c
 have hm := Nat.mod_lt k hc
 by_cases h : k / c = i
 · subst h
   rw [Nat.mul_comm] at e
   rw [if_pos rfl, if_pos ⟨by omega, by omega⟩]
   congr 1
   omega
 · rw [if_neg h, if_neg]
   rintro ⟨h1, h2⟩
   exact h (Nat.div_eq_of_lt_le (by omega) (by rw [Nat.succ_mul]; omega))
theorem setCells_row {b : Nat} {t : TypeId} : ∀ (vs : List Value) (o : Nat) (w : World) (cs : Array Value), w.heap[b]? = some (.cells cs t (0, 0)) →
 w.setCells b o vs = w.setRow b ((vs.zipIdx 0).foldl (fun (c : Array Value) (x : Value × Nat) => c.setIfInBounds (o + x.2) x.1) cs) := by
 intro vs
 induction vs with
 | nil =>
  intro o w cs h
  simp only [World.setCells, List.zipIdx_nil, List.foldl_nil]
  exact (setRow_self w b cs t (0, 0) h).symm
 | cons v vs ih =>
  intro o w cs h
  rw [World.setCells, ih (o + 1) _ _ (heap_setCell_same _ _ _ _ _ _ h)]
  rw [List.zipIdx_cons, List.foldl_cons]
  have e : ∀ (l : List Value) (k : Nat) (c : Array Value), (l.zipIdx k).foldl (fun (c : Array Value) (x : Value × Nat) => c.setIfInBounds (o + 1 + x.2) x.1) c = (l.zipIdx (k + 1)).foldl (fun (c : Array Value) (x : Value × Nat) => c.setIfInBounds (o + x.2) x.1) c := by
   intro l
   induction l with
   | nil => intro k c; rfl
   | cons y l ihl =>
    intro k c
    simp only [List.zipIdx_cons, List.foldl_cons]
    rw [ihl (k + 1), show o + 1 + k = o + (k + 1) by omega]
  rw [e, Nat.zero_add, Nat.add_zero]
  rw [setCell_eq_setRow w b o cs t (0, 0) v h, setRow_setRow]
theorem Blk.there_at {w : World} {b n : Nat} {t : TypeId} {f : Nat → Nat} (h : Blk w b n t f) {o m : Nat} (ho : o + m ≤ n) : w.there b o m := by
 intro j hj
 rw [h.cell (i := o + j) (by omega)]
 exact ⟨rfl, h.frozen _⟩
theorem Blk.range_at {w : World} {b n : Nat} {t : TypeId} {f : Nat → Nat} (h : Blk w b n t f) {o m : Nat} (ho : o + m ≤ n) {g : Nat → Nat} (hg : ∀ j, j < m → f (o + j) = g j) : w.rangeAt b o (bl m g) := by
 intro j v hv
 have hj : j < m := by have := (List.getElem?_eq_some_iff.1 hv).1; rwa [zl] at this
 rw [h.cell (i := o + j) (by omega), hg j hj]
 unfold bl at hv
 simp [hj] at hv
 rw [← hv]
theorem Blk.rowF {w : World} {b c r : Nat} {t : TypeId} {F : Nat → Nat → Nat} (h : Blk w b (r * c) t (fl c F)) {i : Nat} (hi : i < r) : w.rangeAt b (i * c) (bl c (F i)) :=
 h.range_at (by have := Nat.mul_le_mul_right c (show i + 1 ≤ r by omega); rw [Nat.succ_mul] at this; exact this) (fun j hj => fl_at hj)
theorem foldl_bcells {n o m : Nat} {f g : Nat → Nat} (ho : o + m ≤ n) : ((bl m g).zipIdx 0).foldl (fun (c : Array Value) (x : Value × Nat) => c.setIfInBounds (o + x.2) x.1) (zb n f) = zb n (sub f o m g) := by
 have key : ∀ (k : Nat), k ≤ m → (((bl m g).take k).zipIdx 0).foldl (fun (c : Array Value) (x : Value × Nat) => c.setIfInBounds (o + x.2) x.1) (zb n f) = zb n (sub f o k g) := by
  intro k
  induction k with
  | zero =>
   intro _
   rw [List.take_zero, List.zipIdx_nil, List.foldl_nil]
   exact zbc fun i _ => by unfold sub; rw [if_neg (by omega)]
  | succ k ih =>
   intro hk
   have hv : (bl m g)[k]? = some (.int .u8 (g k : Int)) := by unfold bl; have : k < m := (by omega); simp [this]
   rw [List.take_add_one, hv, List.zipIdx_append, List.foldl_append, ih (by omega)]
   have hl : ((bl m g).take k).length = k := by rw [List.length_take, zl]; omega
   rw [hl]
   simp only [Option.toList_some, List.zipIdx_cons, List.zipIdx_nil, List.foldl_cons, List.foldl_nil, Nat.zero_add]
   rw [bcells_set]
   exact zbc fun i _ => by
    unfold upd sub
    by_cases h1 : i = o + k
    · subst h1; rw [if_pos rfl, if_pos ⟨by omega, by omega⟩, Nat.add_sub_cancel_left]
    · rw [if_neg h1]
      by_cases h2 : o ≤ i ∧ i < o + k
      · rw [if_pos h2, if_pos ⟨h2.1, by omega⟩]
      · rw [if_neg h2, if_neg (by omega)]
 have := key m (Nat.le_refl _)
 rwa [List.take_of_length_le (by rw [zl]; exact Nat.le_refl _)] at this
theorem Blk.setCells {w : World} {b n : Nat} {t : TypeId} {f : Nat → Nat} (h : Blk w b n t f) {o m : Nat} (ho : o + m ≤ n) (g : Nat → Nat) : w.setCells b o (bl m g) = w.setRow b (zb n (sub f o m g)) := by
 have h' : w.heap[b]? = some (.cells (zb n f) t (0, 0)) := by unfold Blk at h; exact h
 rw [setCells_row _ _ _ _ h', foldl_bcells ho]
section
variable {P : Program}
theorem wp_store_rowF {o : Oper} {a : Act} {w : World} {K : Act → World → Prop} {Q : Exit → Act → World → Prop} (ty : TypeId) (x y : Operand) (ho : o.op = .store ty x y)
 (b i c r : Nat) (g : Nat → Nat) (hx : a.eval x = .pointer (some ⟨b, i * c, none⟩)) (hy : a.eval y = .agg (zb c g)) (t : TypeId) (F : Nat → Nat → Nat) (hb : Blk w b (r * c) t (fl c F)) (hi : i < r) (hc : 0 < c)
 (hs : (P.info? ty).map (·.size) = some c) (h : K (a.put o.dst undef) (w.setRow b (zb (r * c) (fl c (updR F i g))))) : o.wp P a w K Q := by
 have ho2 : i * c + c ≤ r * c := by have := Nat.mul_le_mul_right c (show i + 1 ≤ r by omega); rw [Nat.succ_mul] at this; exact this
 refine wp_store_mid ty x y ho b (i * c) (zb c g) hx hy (by rw [zbs]; exact hb.there_at ho2) (by rw [zbs]; exact hs) (bcells_one c g) ?_
 rw [show (zb c g).toList = bl c g from rfl, hb.setCells ho2, sub_fl hc]
 exact h
theorem wpList_load_mid_g {ops : Array Oper} {rest : List Oper} {op : Oper} {a : Act} {w : World} {Q : Exit → Act → World → Prop} (hw : Region.wanted op (yielded ops a.tmps) = true) (ty : TypeId) (x : Operand) (ho : op.op = .load ty x)
 (b o : Nat) (hx : a.eval x = .pointer (some ⟨b, o, none⟩)) (cs : List Value) (d : TypeDesc) (hc : w.rangeAt b o cs)
 (hu : P.underlying ty = some d) (hd : d.isRow = true) (hi : (P.info? ty).map (·.size) = some cs.length)
 (h : wpList P ops Q rest (a.put op.dst (.agg cs.toArray)) w) : wpList P ops Q (op :: rest) a w := by
 unfold wpList
 rw [if_pos hw]
 exact Or.inl (wp_load_mid ty x ho b o hx cs d hc hu hd hi h)
end
attribute [irreducible] fl
end Go.Proofs.Ytobcdekochenfaa
end
section
namespace Go.Proofs.Ytobcdekochenfaa
def okP (p : Int) : Bool := p == 2 || p == 3 || p == 5 || p == 7
def okA (p : Int) (f : Nat → Nat) : Bool := okP p && (List.range 64).all fun i => decide ((f i : Int) < p)
theorem okP_cases {p : Int} (h : okP p = true) : p = 2 ∨ p = 3 ∨ p = 5 ∨ p = 7 := by
 simp only [okP, Bool.or_eq_true, beq_iff_eq] at h
 rcases h with ((h | h) | h) | h <;> simp [h]
theorem okP_false {p : Int} (h : okP p = false) : (p == 2) = false ∧ (p == 3) = false ∧ (p == 5) = false ∧ (p == 7) = false := by
 simp only [okP, Bool.or_eq_false_iff] at h
 exact ⟨h.1.1.1, h.1.1.2, h.1.2, h.2⟩
theorem okP_le {p : Int} (h : okP p = true) : 2 ≤ p ∧ p ≤ 7 := by rcases okP_cases h with h | h | h | h <;> subst h <;> decide
theorem okA_iff {p : Int} {f : Nat → Nat} : okA p f = true ↔ okP p = true ∧ ∀ i, i < 64 → (f i : Int) < p := by
 simp [okA, List.all_eq_true]
theorem okA_p {p : Int} {f : Nat → Nat} (h : okA p f = true) : okP p = true := (okA_iff.1 h).1
theorem okA_lt {p : Int} {f : Nat → Nat} (h : okA p f = true) {i : Nat} (hi : i < 64) : (f i : Int) < p := (okA_iff.1 h).2 i hi
/-- f cut off at 64 -/
def cut (f : Nat → Nat) : Nat → Nat := fun i => if i < 64 then f i else 0
/-- a byte -/
def byte (f : Nat → Nat) : Prop := ∀ i, f i < 256
end Go.Proofs.Ytobcdekochenfaa
end
section
namespace Go.Proofs.Ytobcdekochenfaa
open Go.RowKit
/-- block b holds the polynomials fs, one behind the other -/
def PolS (w : World) (b : Nat) (fs : List (Nat → Nat)) : Prop := w.heap[b]? = some (.cells ((fs.map (bl 64)).flatten).toArray 23 (0, 0))
theorem PolS.lt {w : World} {b : Nat} {fs : List (Nat → Nat)} (h : PolS w b fs) : b < w.heap.size := by
 unfold PolS at h
 exact (Array.getElem?_eq_some_iff.1 h).1
theorem PolS.below {w w' : World} {B b : Nat} {fs : List (Nat → Nat)} (h : PolS w b fs) (hb : Below B w w') (e : b < B) : PolS w' b fs := by
 unfold PolS at *; rw [hb.block b e]; exact h
theorem PolS.zw {w w' : World} {b : Nat} {fs : List (Nat → Nat)} (h : PolS w b fs) (hb : Below w.heap.size w w') : PolS w' b fs := PolS.below h hb (PolS.lt h)
theorem flat_get : ∀ (fs : List (Nat → Nat)) (i : Nat) (f : Nat → Nat) (j : Nat), fs[i]? = some f → j < 64 → ((fs.map (bl 64)).flatten)[i * 64 + j]? = some (.int .u8 (f j : Int))
 | [], _, _, _, h, _ => by simp at h
 | g :: fs, 0, f, j, h, hj => by
  simp only [List.getElem?_cons_zero, Option.some.injEq] at h
  subst h
  rw [List.map_cons, List.flatten_cons, Nat.zero_mul, Nat.zero_add, List.getElem?_append_left (by rw [zl]; exact hj)]
  simp [bl, hj]
 | g :: fs, i + 1, f, j, h, hj => by
  rw [List.map_cons, List.flatten_cons, List.getElem?_append_right (by rw [zl]; omega), zl]
  have := flat_get fs i f j (by simpa using h) hj
  rw [show (i + 1) * 64 + j - 64 = i * 64 + j by omega]
  exact this
theorem PolS.range {w : World} {b : Nat} {fs : List (Nat → Nat)} (h : PolS w b fs) {i : Nat} {f : Nat → Nat} (hi : fs[i]? = some f) : w.rangeAt b (i * 64) (bl 64 f) := by
 intro j v hv
 have hj : j < 64 := by
  have := (List.getElem?_eq_some_iff.1 hv).1
  rwa [zl] at this
 rw [cell_of_row _ _ _ _ _ _ h]
 have e : (bl 64 f)[j]? = some (.int .u8 (f j : Int)) := by simp [bl, hj]
 rw [e] at hv
 injection hv with hv
 subst hv
 simpa using flat_get fs i f j hi hj
attribute [irreducible] PolS
end Go.Proofs.Ytobcdekochenfaa
end
section
namespace Go.Proofs.Ytobcdekochenfaa
open Go.RowKit
theorem Try.size22 : (Try.prog.info? 22).map (·.size) = some 64 := by kernel_rfl
theorem Try.size23 : (Try.prog.info? 23).map (·.size) = some 64 := by kernel_rfl
theorem Try.size5 : (Try.prog.info? 5).map (·.size) = some 1 := by kernel_rfl
theorem Try.mixed : Try.prog.follows .mixedOrders = true := by kernel_rfl
theorem ret_int {k : IntKind} {a b : Int} (h : a = b) : Ending.returned (.int k a) = .returned (.int k b) := by rw [h]
theorem ret_bool {a b : Bool} (h : a = b) : Ending.returned (.bool a) = .returned (.bool b) := by rw [h]

theorem isPrime_any (p : Int) (w : World) : Calls Try.prog 66 #[.int .i64 p] w fun e w' => e = .returned (.bool (okP p)) ∧ w = w' := by
 cases hp : okP p with
 | true =>
  rcases okP_cases hp with rfl | rfl | rfl | rfl <;>
  · go_enter Try.func66, Try.ntmps66
    go_wp2
    go_ret
    exact ⟨rfl, rfl⟩
 | false =>
  obtain ⟨h2, h3, h5, h7⟩ := okP_false hp
  go_enter Try.func66, Try.ntmps66
  go_wp2
  go_ret
  exact ⟨rfl, rfl⟩
theorem l01Prime_any (p : Int) (w : World) : Calls Try.prog 134 #[.int .i64 p] w fun e w' => e = .returned (.bool (okP p)) ∧ w = w' := by
 cases hp : okP p with
 | true =>
  rcases okP_cases hp with rfl | rfl | rfl | rfl <;>
  · go_enter Try.func134, Try.ntmps134
    go_wp2
    go_ret
    exact ⟨rfl, rfl⟩
 | false =>
  obtain ⟨h2, h3, h5, h7⟩ := okP_false hp
  go_enter Try.func134, Try.ntmps134
  go_wp2
  go_ret
  exact ⟨rfl, rfl⟩

theorem byteOk (f : Nat → Nat) (hf : byte f) (k : Nat) : (0 : Int) ≤ (f k : Int) ∧ (f k : Int) ≤ 255 := by have := hf k; omega

set_option maxHeartbeats 800000 in
theorem IsPoly_any (p : Int) (f : Nat → Nat) (hf : byte f) (w : World) : Calls Try.prog 113 #[.int .i64 p, .agg (zb 64 f)] w fun e w' => e = .returned (.bool (okA p f)) ∧ Below w.heap.size w w' := by
 cases hp : okP p with
 | false =>
  go_enter Try.func113, Try.ntmps113
  go_wp2_with (go_at_call 66; refine (isPrime_any _ _).mono ?_; rintro e w' ⟨rfl, rfl⟩)
  go_ret
  exact ⟨ret_bool (by simp [okA, hp]), (Below.refl _ _).alloc (Nat.le_refl _) _⟩
 | true =>
  have hb := okP_le hp
  go_enter Try.func113, Try.ntmps113
  go_wp2_with (first | (go_at_call 66; refine (isPrime_any _ _).mono ?_; rintro e w' ⟨rfl, rfl⟩) | refine zlb rfl 23 _ rfl _ rfl 64 23 _ (Blk.new _ _ _ _) 5 Try.underlying23 Try.size23 ?_)
  go_loop [11] (fun i => ∃ k : Nat, k ≤ 64 ∧ (∀ j, j < k → (f j : Int) < p) ∧ i = .int .i64 (k : Int)) (fun i => 64 - (intOf i).toNat)
  case atStart => exact ⟨0, by omega, fun j hj => by omega, rfl⟩
  case round =>
   obtain ⟨k, hk, hall, rfl⟩ := hrel
   have HA := Lib.hid hall; clear hall
   by_cases hlt : k < 64
   · have hx := fun W => run_index_blk (P := Try.prog) 23 5 64 f .i64 k Try.underlying23 Try.underlying5 Try.size5 hlt W
     have hfk := byteOk f hf k
     by_cases hge : p ≤ (f k : Int)
     · go_wp2_with fail
       go_ret
       refine ⟨ret_bool ?_, (Below.refl _ _).alloc (Nat.le_refl _) _⟩
       cases h : okA p f with
       | false => rfl
       | true => have := okA_lt h hlt; omega
     · go_wp2_with fail
       go_round
       case rel =>
        refine ⟨k + 1, by omega, fun j hj => ?_, by go_num⟩
        by_cases e : j = k
        · subst e; omega
        · exact HA.out j (by omega)
       case measure => simp [intOf]; omega
   · go_wp2_with fail
     go_ret
     refine ⟨ret_bool ?_, (Below.refl _ _).alloc (Nat.le_refl _) _⟩
     exact (okA_iff.2 ⟨hp, fun i hi => HA.out i (by omega)⟩).symm

set_option maxHeartbeats 800000 in
theorem l01Is_any (p : Int) (f : Nat → Nat) (hf : byte f) (w : World) : Calls Try.prog 107 #[.int .i64 p, .agg (zb 64 f)] w fun e w' => e = .returned (.bool (okA p f)) ∧ Below w.heap.size w w' := by
 go_enter Try.func107, Try.ntmps107
 go_wp2_with fail
 go_loop [5] (fun i => ∃ k : Nat, k ≤ 64 ∧ (∀ j, j < k → (f j : Int) < p) ∧ i = .int .i64 (k : Int)) (fun i => 64 - (intOf i).toNat)
 case atStart => exact ⟨0, by omega, fun j hj => by omega, rfl⟩
 case round =>
  obtain ⟨k, hk, hall, rfl⟩ := hrel
  have HA := Lib.hid hall; clear hall
  by_cases hlt : k < 64
  · have hc := (Blk.new w 64 23 f).cell hlt
    have hfk := byteOk f hf k
    by_cases hge : p ≤ (f k : Int)
    · go_wp2_with fail
      go_ret
      refine ⟨ret_bool ?_, (Below.refl _ _).alloc (Nat.le_refl _) _⟩
      cases h : okA p f with
      | false => rfl
      | true => have := okA_lt h hlt; omega
    · go_wp2_with fail
      go_round
      case rel =>
       refine ⟨k + 1, by omega, fun j hj => ?_, by go_num⟩
       by_cases e : j = k
       · subst e; omega
       · exact HA.out j (by omega)
      case measure => simp [intOf]; omega
  · go_wp2_with (go_at_call 134; refine (l01Prime_any _ _).mono ?_; rintro e w' ⟨rfl, rfl⟩)
    go_ret
    refine ⟨ret_bool ?_, (Below.refl _ _).alloc (Nat.le_refl _) _⟩
    cases hp : okP p with
    | false => simp [okA, hp]
    | true => exact (okA_iff.2 ⟨hp, fun i hi => HA.out i (by omega)⟩).symm
end Go.Proofs.Ytobcdekochenfaa
end
section
namespace Go.Proofs.Ytobcdekochenfaa
open Go Go.RowKit
set_option linter.unusedVariables false
theorem Try.size64 : (Try.prog.info? 64).map (·.size) = some 6 := by kernel_rfl
theorem Try.size63 : (Try.prog.info? 63).map (·.size) = some 6 := by kernel_rfl
theorem Try.size66 : (Try.prog.info? 66).map (·.size) = some 36 := by kernel_rfl
theorem Try.size70 : (Try.prog.info? 70).map (·.size) = some 36 := by kernel_rfl
theorem zero6 : zb 6 (fun _ => 0) = #[.int .u8 0, .int .u8 0, .int .u8 0, .int .u8 0, .int .u8 0, .int .u8 0] := by simp only [zb, bl]; kernel_rfl
theorem zero36 : zb 36 (fl 6 fun _ _ => 0) = #[.int .u8 0, .int .u8 0, .int .u8 0, .int .u8 0, .int .u8 0, .int .u8 0, .int .u8 0, .int .u8 0, .int .u8 0, .int .u8 0, .int .u8 0, .int .u8 0, .int .u8 0, .int .u8 0, .int .u8 0, .int .u8 0, .int .u8 0, .int .u8 0, .int .u8 0, .int .u8 0, .int .u8 0, .int .u8 0, .int .u8 0, .int .u8 0, .int .u8 0, .int .u8 0, .int .u8 0, .int .u8 0, .int .u8 0, .int .u8 0, .int .u8 0, .int .u8 0, .int .u8 0, .int .u8 0, .int .u8 0, .int .u8 0] := by rw [fl_zero]; simp only [zb, bl]; kernel_rfl
theorem Try.noGuard64 : Try.prog.eqGuardType Try.prog.depth 64 = false := by kernel_rfl
section
variable {P : Program}
theorem wpList_store_sq {ops : Array Oper} {rest : List Oper} {o : Oper} {a : Act} {w : World} {Q : Exit → Act → World → Prop} (hgd : o.guard = none) (ty : TypeId) (x y : Operand) (ho : o.op = .store ty x y)
 (b i : Nat) (g : Nat → Nat) (hx : a.eval x = .pointer (some ⟨b, i * 6, none⟩)) (hy : a.eval y = .agg (zb 6 g)) (t : TypeId) (F : Nat → Nat → Nat) (hb : Blk w b 36 t (fl 6 F)) (hi : i < 6)
 (hs : (P.info? ty).map (·.size) = some 6) (h : wpList P ops Q rest (a.put o.dst undef) (w.setRow b (zb 36 (fl 6 (updR F i g))))) : wpList P ops Q (o :: rest) a w :=
 wpList_plain hgd fun _ hK => wp_store_rowF ty x y ho b i 6 6 g hx hy t F hb hi (by decide) hs (hK _ _ h)
end
theorem Blk.sq {w : World} {b : Nat} {t : TypeId} {F : Nat → Nat → Nat} (h : Blk w b 36 t (fl 6 F)) {i : Nat} (hi : i < 6) : w.rangeAt b (i * 6) (bl 6 (F i)) := Blk.rowF (r := 6) (c := 6) h hi
theorem extract_sq {F : Nat → Nat → Nat} {i : Nat} (hi : i < 6) : (zb 36 (fl 6 F)).extract (i * 6) (i * 6 + 6) = zb 6 (F i) := by
 apply Array.ext
 · rw [Array.size_extract, zbs, zbs]; omega
 · intro j h1 h2
   rw [zbs] at h2
   rw [Array.getElem_extract]
   have e1 := bcells_get (n := 36) (f := fl 6 F) (i := i * 6 + j) (by omega)
   have e2 := bcells_get (n := 6) (f := F i) (i := j) h2
   rw [fl_at h2] at e1
   rw [Array.getElem?_eq_getElem (by rw [zbs]; omega)] at e1
   rw [Array.getElem?_eq_getElem (by rw [zbs]; omega)] at e2
   simp only [Option.some.injEq] at e1 e2
   rw [e1, e2]
theorem run_index_sq {P : Program} (t e : TypeId) (F : Nat → Nat → Nat) (k : IntKind) (i : Nat) (d : TypeDesc) (hu : P.underlying t = some (.array 6 e)) (he : P.underlying e = some d) (hd : (match d with | .struct _ | .array _ _ => true | _ => false) = true) (hs : (P.info? e).map (·.size) = some 6) (hi : i < 6) (w : World) :
 (Instr.index t (.agg (zb 36 (fl 6 F))) (.int k (i : Int))).run P w = .ok (.agg (zb 6 (F i))) w := by
 cases hq : P.info? e with
 | none => simp [hq] at hs
 | some ie =>
  have hsz : ie.size = 6 := by simpa [hq] using hs
  have hin : (0 : Int) ≤ (i : Int) ∧ (i : Int) < ((6 : Nat) : Int) := by omega
  have hagg : (isAgg e).run P w = .ok true w := by
   unfold isAgg
   rw [Sem.run_bind, run_underlying he w]
   cases d <;> simp_all
  have hx : (List.take 6 (List.drop (i * 6) (bl 36 (fl 6 F)))).toArray = zb 6 (F i) := by
   have := extract_sq (F := F) hi
   simpa using this
  simp [Instr.index, asIntOf, Sem.run_bind, run_underlying hu, sizeOf, typeInfo, hq, hsz, part, hagg]
  rw [if_pos hi, hx]

end Go.Proofs.Ytobcdekochenfaa
end
section
namespace Go.Proofs.Ytobcdekochenfaa
open Go.RowKit
set_option linter.unusedVariables false
set_option maxRecDepth 100000 in
set_option maxHeartbeats 400000 in
theorem toPoly_any (f : Nat → Nat) (hf : byte f) (w : World) : Calls Try.prog 25 #[.agg (zb 64 f)] w fun e w' => e = .returned (.agg (zb 64 f)) ∧ Below w.heap.size w w' := by
 go_enter Try.func25, Try.ntmps25
 go_wp2_with fail
 rw [← z64]
 go_loopw [4] (fun i wr => ∃ k : Nat, k ≤ 64 ∧ i = .int .i64 (k : Int) ∧ Below w.heap.size w wr ∧ Blk wr w.heap.size 64 22 f ∧ Blk wr (w.heap.size + 1) 64 23 (fun _ => 0) ∧ Blk wr (w.heap.size + 1 + 1) 64 23 (fun i => if i < k then f i else 0)) (fun i _ => 64 - (intOf i).toNat)
 case atStart =>
  refine ⟨0, by omega, rfl, (((Below.refl _ _).alloc (Nat.le_refl _) _).alloc (by simp) _).alloc (by simp; omega) _, ?_, ?_, ?_⟩
  · exact (((Blk.new w _ _ _).alloc _).alloc _)
  · have := ((Blk.new (w.alloc (.cells (zb 64 f) 22)) 64 23 (fun _ => 0)).alloc (.cells (zb 64 fun _ => 0) 23)); simpa using this
  · have := (Blk.new ((w.alloc (.cells (zb 64 f) 22)).alloc (.cells (zb 64 fun _ => 0) 23)) 64 23 (fun _ => 0)); simpa using this
 case round =>
  obtain ⟨k, hk, rfl, hb, h0, h1, h2⟩ := hrel
  by_cases hlt : k < 64
  · have c4 := h0.cell hlt
    have c5 := h2.cell hlt
    have z4 := h2.frozen k
    have b1 := byteOk f hf k
    go_wp2_with fail
    go_roundw
    case rel =>
     refine ⟨k + 1, by omega, by go_num, hb.setCell (by simp; omega) _, ?_, ?_, ?_⟩
     · exact h0.setOther (by simp; omega)
     · exact h1.setOther (by simp)
     · exact (h2.set (v := f k) rfl).congr (fun i _ => upd_lt (a := f) rfl i)
    case measure => simp [intOf]; omega
  · have e : k = 64 := by omega
    subst e
    go_wp2_with (first | refine zlb rfl 23 _ rfl _ rfl 64 23 _ (h2) 5 Try.underlying23 Try.size23 ?_ | refine wpList_store_blk rfl 23 _ _ rfl _ 64 ((fun i => if i < 64 then f i else 0)) rfl rfl 23 _ (h1) Try.size23 ?_)
    refine bodyPost_ret (zrb rfl _ _ _ 64 23 5 _ rfl (h1.row _) Try.underlying23 Try.size23) rfl ⟨?_, ?_⟩
    · rw [zbc (g := f)]
      intro i hi; simp [hi]
    · exact below_setRow hb (by omega) _

set_option maxRecDepth 100000 in
set_option maxHeartbeats 400000 in
theorem sum_any (p : Nat) (f g : Nat → Nat) (w : World) (hp1 : 2 ≤ p) (hp2 : p ≤ 7) (hf : ∀ i, i < 64 → f i < p) (hg : ∀ i, i < 64 → g i < p) :
 Calls Try.prog 138 #[.int .i64 (p : Int), .agg (zb 64 f), .agg (zb 64 g)] w fun e w' => e = .returned (.agg (zb 64 fun i => (f i + g i) % p)) ∧ Below w.heap.size w w' := by
 go_enter Try.func138, Try.ntmps138
 go_wp2_with fail
 have HF := Lib.hid hf; clear hf
 have HG := Lib.hid hg; clear hg
 rw [← z64]
 go_loopw [8] (fun i wr => ∃ k : Nat, k ≤ 64 ∧ i = .int .i64 (k : Int) ∧ Below w.heap.size w wr ∧ Blk wr w.heap.size 64 23 (fun i => if i < k then (f i + g i) % p else f i) ∧ Blk wr (w.heap.size + 1) 64 23 g ∧ Blk wr (w.heap.size + 1 + 1) 64 23 (fun _ => 0)) (fun i _ => 64 - (intOf i).toNat)
 case atStart =>
  refine ⟨0, by omega, rfl, (((Below.refl _ _).alloc (Nat.le_refl _) _).alloc (by simp) _).alloc (by simp; omega) _, ?_, ?_, ?_⟩
  · exact (((Blk.new w _ _ _).alloc _).alloc _).congr (by simp)
  · have := ((Blk.new (w.alloc (.cells (zb 64 f) 23)) 64 23 g).alloc (.cells (zb 64 fun _ => 0) 23)); simpa using this
  · have := (Blk.new ((w.alloc (.cells (zb 64 f) 23)).alloc (.cells (zb 64 g) 23)) 64 23 (fun _ => 0)); simpa using this
 case round =>
  obtain ⟨k, hk, rfl, hb, h0, h1, h2⟩ := hrel
  by_cases hlt : k < 64
  · have c4 : wr.cell? ⟨w.heap.size, k, none⟩ = some (.int .u8 (f k : Int)) := by rw [h0.cell hlt]; simp
    have c5 := h1.cell hlt
    have z4 := h0.frozen k
    have b1 : f k < p := HF.out k hlt
    have b2 : g k < p := HG.out k hlt
    go_wp2_with fail
    go_region
    go_wp2_with fail
    go_roundw
    case rel =>
     refine ⟨k + 1, by omega, by go_num, (hb.setCell (by simp) _).drew, ?_, ?_, ?_⟩
     · exact ((h0.set (v := (f k + g k) % p) (by push_cast; rfl)).congr (fun i _ => upd_lt (a := fun i => (f i + g i) % p) rfl i)).drew
     · exact (h1.setOther (by simp)).drew
     · exact (h2.setOther (by simp; omega)).drew
    case measure => simp [intOf]; omega
  · have e : k = 64 := by omega
    subst e
    go_wp2_with (first | refine zlb rfl 23 _ rfl _ rfl 64 23 _ (h0) 5 Try.underlying23 Try.size23 ?_ | refine wpList_store_blk rfl 23 _ _ rfl _ 64 ((fun i => if i < 64 then (f i + g i) % p else f i)) rfl rfl 23 _ (h2) Try.size23 ?_)
    refine bodyPost_ret (zrb rfl _ _ _ 64 23 5 _ rfl (h2.row _) Try.underlying23 Try.size23) rfl ⟨?_, ?_⟩
    · rw [zbc (g := fun i => (f i + g i) % p)]
      intro i hi; simp [hi]
    · exact below_setRow hb (by omega) _

end Go.Proofs.Ytobcdekochenfaa
end
section
namespace Go.Proofs.Ytobcdekochenfaa
open Go.RowKit
set_option linter.unusedVariables false
theorem okP_nat {p : Int} (h : okP p = true) : ∃ n : Nat, p = (n : Int) ∧ 2 ≤ n ∧ n ≤ 7 := by
 have := okP_le h
 exact ⟨p.toNat, by omega, by omega, by omega⟩
def degB (f : Nat → Nat) : Nat → Int
 | 0 => -1
 | n + 1 => if f n ≠ 0 then (n : Int) else degB f n
def deg (f : Nat → Nat) : Int := degB f 64
theorem degB_step {f : Nat → Nat} {k : Nat} (h : f k = 0) : degB f (k + 1) = degB f k := by simp [degB, h]
theorem degB_hit {f : Nat → Nat} {k : Nat} (h : f k ≠ 0) : degB f (k + 1) = (k : Int) := by simp [degB, h]
set_option maxHeartbeats 400000 in
theorem degree_any (f : Nat → Nat) (w : World) :
 Calls Try.prog 82 #[.agg (zb 64 f)] w fun e w' => e = .returned (.int .i64 (deg f)) ∧ Below w.heap.size w w' := by
 go_enter Try.func82, Try.ntmps82
 go_wp2_with fail
 go_loop [3] (fun i => ∃ k : Nat, k ≤ 64 ∧ degB f 64 = degB f k ∧ i = .int .i64 ((k : Int) - 1)) (fun i => (intOf i + 1).toNat)
 case atStart => exact ⟨64, by omega, rfl, by rfl⟩
 case round =>
  obtain ⟨k, hk, hd, rfl⟩ := hrel
  have hD := Lib.hid hd; clear hd
  rcases k with _ | k
  · go_wp2
    go_ret
    exact ⟨ret_int (by rw [deg, hD.out]; rfl), (Below.refl _ _).alloc (Nat.le_refl _) _⟩
  · have hc := (Blk.new w 64 23 f).cell (i := k) (by omega)
    have e1 : ((k + 1 : Nat) : Int) - 1 = (k : Int) := by omega
    rw [e1]
    by_cases h0 : f k = 0
    · have hb : ((f k : Int) != 0) = false := by simp [h0]
      go_wp2
      go_round
      case rel => exact ⟨k, by omega, by rw [hD.out, degB_step h0], by go_num⟩
      case measure => simp [intOf]
    · have hb : ((f k : Int) != 0) = true := by simpa using h0
      go_wp2
      go_ret
      exact ⟨ret_int (by rw [deg, hD.out, degB_hit h0]), (Below.refl _ _).alloc (Nat.le_refl _) _⟩
set_option maxHeartbeats 400000 in
theorem l01Deg_any (f : Nat → Nat) (w : World) :
 Calls Try.prog 74 #[.agg (zb 64 f)] w fun e w' => e = .returned (.int .i64 (deg f)) ∧ Below w.heap.size w w' := by
 go_enter Try.func74, Try.ntmps74
 go_wp2_with fail
 go_loop [3] (fun i => ∃ k : Nat, k ≤ 64 ∧ degB f 64 = degB f k ∧ i = .int .i64 ((k : Int) - 1)) (fun i => (intOf i + 1).toNat)
 case atStart => exact ⟨64, by omega, rfl, by rfl⟩
 case round =>
  obtain ⟨k, hk, hd, rfl⟩ := hrel
  have hD := Lib.hid hd; clear hd
  rcases k with _ | k
  · go_wp2
    go_ret
    exact ⟨ret_int (by rw [deg, hD.out]; rfl), (Below.refl _ _).alloc (Nat.le_refl _) _⟩
  · have hc := (Blk.new w 64 23 f).cell (i := k) (by omega)
    have e1 : ((k + 1 : Nat) : Int) - 1 = (k : Int) := by omega
    rw [e1]
    by_cases h0 : f k = 0
    · have hb : ((f k : Int) == 0) = true := by simp [h0]
      go_wp2
      go_round
      case rel => exact ⟨k, by omega, by rw [hD.out, degB_step h0], by go_num⟩
      case measure => simp [intOf]
    · have hb : ((f k : Int) == 0) = false := by simpa using h0
      go_wp2
      go_ret
      exact ⟨ret_int (by rw [deg, hD.out, degB_hit h0]), (Below.refl _ _).alloc (Nat.le_refl _) _⟩
end Go.Proofs.Ytobcdekochenfaa
end
section
namespace Go.Proofs.Ytobcdekochenfaa
open Go.RowKit
set_option linter.unusedVariables false
theorem degB_spec (f : Nat → Nat) : ∀ k, (degB f k = -1 ∧ ∀ j, j < k → f j = 0) ∨ ∃ d, d < k ∧ degB f k = (d : Int) ∧ f d ≠ 0 ∧ ∀ j, d < j → j < k → f j = 0
 | 0 => .inl ⟨rfl, fun j hj => by omega⟩
 | k + 1 => by
  by_cases h : f k = 0
  · rw [degB_step h]
    rcases degB_spec f k with ⟨e, hz⟩ | ⟨d, hd, e, hne, hz⟩
    · refine .inl ⟨e, fun j hj => ?_⟩
      by_cases hj2 : j = k
      · rw [hj2]; exact h
      · exact hz j (by omega)
    · refine .inr ⟨d, by omega, e, hne, fun j h1 h2 => ?_⟩
      by_cases hj2 : j = k
      · rw [hj2]; exact h
      · exact hz j h1 (by omega)
  · exact .inr ⟨k, by omega, degB_hit h, h, fun j h1 h2 => by omega⟩
theorem deg_spec (f : Nat → Nat) : (deg f = -1 ∧ ∀ j, j < 64 → f j = 0) ∨ ∃ d : Nat, d < 64 ∧ deg f = (d : Int) ∧ f d ≠ 0 ∧ ∀ j : Nat, d < j → j < 64 → f j = 0 := degB_spec f 64
set_option maxHeartbeats 400000 in
theorem l01In_any (n l h : Int) (w : World) : Calls Try.prog 85 #[.int .i64 n, .int .i64 l, .int .i64 h] w fun e w' => e = .returned (.bool (decide (l ≤ n ∧ n ≤ h))) ∧ w = w' := by
 by_cases h1 : l ≤ n
 · by_cases h2 : n ≤ h
   · go_enter Try.func85, Try.ntmps85
     go_wp2
     go_ret
     exact ⟨ret_bool (by simp [h1, h2]), rfl⟩
   · go_enter Try.func85, Try.ntmps85
     go_wp2
     go_ret
     exact ⟨ret_bool (by simp [h2]), rfl⟩
 · go_enter Try.func85, Try.ntmps85
   go_wp2
   go_ret
   exact ⟨ret_bool (by simp; omega), rfl⟩
end Go.Proofs.Ytobcdekochenfaa
end
section
namespace Go.Proofs.Ytobcdekochenfaa
open Go.RowKit
set_option linter.unusedVariables false
/-- digit i of n at base p -/
def dgt (p n i : Nat) : Nat := n / p ^ i % p
def ofN (p : Nat) (n : Nat) : Nat → Nat := fun i => dgt p n i
end Go.Proofs.Ytobcdekochenfaa
end
section
namespace Go.Proofs.Ytobcdekochenfaa
open Go.RowKit
set_option linter.unusedVariables false
theorem small_nat_mul {a b p : Nat} (hp : p ≤ 7) (ha : a < p) (hb : b < p) : (a : Int) * (b : Int) ≤ 36 ∧ 0 ≤ (a : Int) * (b : Int) := by
 refine ⟨?_, Int.mul_nonneg (by omega) (by omega)⟩
 have : a * b ≤ 6 * 6 := Nat.mul_le_mul (by omega) (by omega)
 have h : ((a * b : Nat) : Int) ≤ 36 := by omega
 rwa [Int.natCast_mul] at h
end Go.Proofs.Ytobcdekochenfaa
end
section
namespace Go.Proofs.Ytobcdekochenfaa
open Go.RowKit
set_option linter.unusedVariables false
set_option linter.unusedSimpArgs false
attribute [local irreducible] deg
theorem Blk.pre {w : World} {b n m : Nat} {t : TypeId} {f : Nat → Nat} (h : Blk w b n t f) (hm : m ≤ n) : w.rangeAt b 0 (bl m f) := by
 intro j v hv
 have hj : j < m := by
  have := (List.getElem?_eq_some_iff.1 hv).1
  rwa [zl] at this
 have e : (bl m f)[j]? = some (.int .u8 (f j : Int)) := by have := bcells_get (f := f) hj; simpa using this
 rw [e] at hv
 injection hv with hv
 subst hv
 rw [Nat.zero_add]
 exact h.cell (by omega)
theorem zdb (f : Nat → Nat) : -1 ≤ deg f ∧ deg f ≤ 63 := by
 rcases deg_spec f with ⟨e, _⟩ | ⟨d, hd, e, _⟩ <;> omega
end Go.Proofs.Ytobcdekochenfaa
end
section
namespace Go.Proofs.Ytobcdekochenfaa
/-- one step of the division at n: c times b, moved by n - m, is taken away -/
def stp (p inv m : Nat) (b : Nat → Nat) (n : Nat) (a : Nat → Nat) : Nat → Nat :=
 fun k => if n - m ≤ k ∧ k ≤ n then (a k + (p - a n * inv % p) * b (k - (n - m))) % p else a k
/-- behind the steps at 127, .., 128 - i -/
def dS (p inv m : Nat) (b a : Nat → Nat) : Nat → Nat → Nat
 | 0 => a
 | i + 1 => stp p inv m b (127 - i) (dS p inv m b a i)
/-- the quotient's digit at k, from the step at k + m -/
def qd (p inv m : Nat) (b a : Nat → Nat) (k : Nat) : Nat := dS p inv m b a (127 - (k + m)) (k + m) * inv % p
/-- the quotient behind i steps -/
def qS (p inv m : Nat) (b a : Nat → Nat) (i : Nat) : Nat → Nat := fun k => if 128 - i ≤ k + m ∧ k + m ≤ 127 then qd p inv m b a k else 0
/-- quotient and rest of a (up to 127) by b, m its degree, inv the inverse of its leading coefficient -/
def quoW (p inv m : Nat) (b a : Nat → Nat) : Nat → Nat := qS p inv m b a (128 - m)
def resW (p inv m : Nat) (b a : Nat → Nat) : Nat → Nat := dS p inv m b a (128 - m)
/-- the number whose product with c is 1 -/
def invN (p c : Nat) : Nat := ((List.range 7).find? fun k => k * c % p == 1).getD 0
end Go.Proofs.Ytobcdekochenfaa
end
section
namespace Go.Proofs.Ytobcdekochenfaa
attribute [local irreducible] deg invN
/-- quotient and rest of a by b, other than 0 -/
def quoP (p : Nat) (a b : Nat → Nat) : Nat → Nat := quoW p (invN p (b (deg b).toNat)) (deg b).toNat b (cut a)
def resP (p : Nat) (a b : Nat → Nat) : Nat → Nat := resW p (invN p (b (deg b).toNat)) (deg b).toNat b (cut a)
/-- c times f -/
def sclP (p : Nat) (f : Nat → Nat) (c : Nat) : Nat → Nat := fun i => f i * c % p
end Go.Proofs.Ytobcdekochenfaa
end
section
namespace Go.Proofs.Ytobcdekochenfaa
open Go.RowKit
set_option linter.unusedVariables false
set_option linter.unusedSimpArgs false
attribute [local irreducible] deg invN dS qS stp
/-- the first scope within a code -/
def scopeIn : Code → Option Code
 | .seq a b => match scopeIn a with
  | some c => some c
  | none => scopeIn b
 | .scope c => some c
 | _ => none
/-- what stands behind a label of the first scope -/
def behind (fn : Func) (l : Nat) : Code := (findLabel ((fn.body.bind scopeIn).getD .skip) l).getD .skip
end Go.Proofs.Ytobcdekochenfaa
end
section
namespace Go.Proofs.Ytobcdekochenfaa
open Go.RowKit
set_option linter.unusedVariables false
set_option linter.unusedSimpArgs false
attribute [local irreducible] deg invN dS qS stp quoP resP
theorem wp_copy_splice {P : Program} {o : Oper} {a : Act} {w : World} {K : Act → World → Prop} {Q : Exit → Act → World → Prop} (hgd : o.guard = none) (d s : Operand) (dT sT : TypeId)
 (ho : o.op = .call { callee := .builtin .copy, args := #[d, s], argTypes := #[dT, sT] }) (elem : TypeId) (hu : P.underlying dT = some (.slice elem)) (hsz : (P.info? elem).map (·.size) = some 1)
 (dp sp : Option Addr) (dLen dCap sLen sCap : Nat) (hd : a.eval d = .slice dp dLen dCap) (hs : a.eval s = .slice sp sLen sCap)
 (g off : Nat) (cur : List Value) (t : TypeId) (hg : w.heap[g]? = some (.cells cur.toArray t (0, 0))) (cs : List Value) (hn : cs.length = Nat.min sLen dLen)
 (hpos : 0 < cs.length → dp = some ⟨g, off, none⟩ ∧ ∃ ad, sp = some ad ∧ ∀ j v, cs[j]? = some v → w.cell? (ad.add j) = some v)
 (hfit : off + cs.length ≤ cur.length) (h1 : ∀ v ∈ cs, v.oneCell' = true) (B : Nat) (w0 : World) (hb : Below B w0 w) (hBg : B ≤ g)
 (h : ∀ w', Hid (w'.heap[g]? = some (.cells (splice cur off cs).toArray t (0, 0))) → Below B w0 w' → K (a.put o.dst (goInt cs.length)) w') : Oper.wp P o a w K Q := by
 have := step_copy_splice (P := P) (ops := #[]) (K := K) (Q := Q) (E := True) hgd d s dT sT ho elem hu hsz dp sp dLen dCap sLen sCap hd hs g off cur t hg cs hn hpos hfit h1 B w0 hb hBg h
 rwa [if_pos (by simp [Region.wanted, hgd])] at this
end Go.Proofs.Ytobcdekochenfaa
end
section
namespace Go.Proofs.Ytobcdekochenfaa
open Go.RowKit
set_option linter.unusedVariables false
/-- three polynomials, one behind the other -/
def c3 (r u v : Nat → Nat) : Nat → Nat := fun k => if k < 64 then r k else if k < 128 then u (k - 64) else v (k - 128)
theorem Blk.mid {w : World} {b n : Nat} {t : TypeId} {f : Nat → Nat} (h : Blk w b n t f) {o m : Nat} (hm : o + m ≤ n) {g : Nat → Nat} (hg : ∀ k, k < m → f (o + k) = g k) : w.rangeAt b o (bl m g) := by
 intro j v hv
 have hj : j < m := by
  have := (List.getElem?_eq_some_iff.1 hv).1
  rwa [zl] at this
 have e : (bl m g)[j]? = some (.int .u8 (g j : Int)) := by have := bcells_get (f := g) hj; simpa using this
 rw [e] at hv
 injection hv with hv
 subst hv
 rw [← hg j hj]
 exact h.cell (by omega)
end Go.Proofs.Ytobcdekochenfaa
end
section
namespace Go.Proofs.Ytobcdekochenfaa
open Go.RowKit
set_option linter.unusedVariables false
set_option linter.unusedSimpArgs false
attribute [local irreducible] deg invN dS qS stp quoP resP
set_option maxRecDepth 100000 in
set_option maxHeartbeats 400000 in
theorem scaled_any (p : Nat) (f : Nat → Nat) (c : Nat) (w : World) (hp1 : 2 ≤ p) (hp2 : p ≤ 7) (hf : ∀ i, i < 64 → f i < p) (hc : c < p) :
 Calls Try.prog 172 #[.int .i64 (p : Int), .agg (zb 64 f), .int .u8 (c : Int)] w fun e w' => e = .returned (.agg (zb 64 (sclP p f c))) ∧ Below w.heap.size w w' := by
 go_enter Try.func172, Try.ntmps172
 go_wp2_with fail
 have HF := Lib.hid hf; clear hf
 rw [← z64]
 go_loopw [8] (fun i wr => ∃ k : Nat, k ≤ 64 ∧ i = .int .i64 (k : Int) ∧ Below w.heap.size w wr ∧ Blk wr w.heap.size 64 23 (fun i => if i < k then sclP p f c i else f i) ∧ Blk wr (w.heap.size + 1) 64 23 (fun _ => 0)) (fun i _ => 64 - (intOf i).toNat)
 case atStart =>
  refine ⟨0, by omega, rfl, (((Below.refl _ _).alloc (Nat.le_refl _) _).alloc (by simp) _), ?_, ?_⟩
  · exact ((Blk.new w _ _ _).alloc _).congr (by simp)
  · have := (Blk.new (w.alloc (.cells (zb 64 f) 23)) 64 23 (fun _ => 0)); simpa using this
 case round =>
  obtain ⟨k, hk, rfl, hb, h0, h1⟩ := hrel
  by_cases hlt : k < 64
  · have c4 : wr.cell? ⟨w.heap.size, k, none⟩ = some (.int .u8 (f k : Int)) := by rw [h0.cell hlt]; simp
    have z4 := h0.frozen k
    have b1 : f k < p := HF.out k hlt
    obtain ⟨m1, m2⟩ := small_nat_mul hp2 b1 hc
    go_wp2_with fail
    go_roundw
    case rel =>
     refine ⟨k + 1, by omega, by go_num, (hb.setCell (by simp) _), ?_, ?_⟩
     · exact ((h0.set (v := sclP p f c k) (by unfold sclP; push_cast; rfl)).congr (fun i _ => upd_lt (a := sclP p f c) rfl i))
     · exact (h1.setOther (by simp))
    case measure => simp [intOf]; omega
  · have e : k = 64 := by omega
    subst e
    go_wp2_with (first | refine zlb rfl 23 _ rfl _ rfl 64 23 _ (h0) 5 Try.underlying23 Try.size23 ?_ | refine wpList_store_blk rfl 23 _ _ rfl _ 64 ((fun i => if i < 64 then sclP p f c i else f i)) rfl rfl 23 _ (h1) Try.size23 ?_)
    refine bodyPost_ret (zrb rfl _ _ _ 64 23 5 _ rfl (h1.row _) Try.underlying23 Try.size23) rfl ⟨?_, ?_⟩
    · rw [zbc (g := sclP p f c)]
      intro i hi; simp [hi]
    · exact below_setRow hb (by omega) _
end Go.Proofs.Ytobcdekochenfaa
end
section
namespace Go.Proofs.Ytobcdekochenfaa
attribute [local irreducible] deg invN
/-- the sum of t below n -/
def cs : Nat → (Nat → Int) → Int
 | 0, _ => 0
 | n + 1, t => cs n t + t n
/-- the product -/
def mz (f g : Nat → Int) : Nat → Int := fun k => cs (k + 1) (fun i => f i * g (k - i))
def sz (f g : Nat → Int) : Nat → Int := fun k => f k - g k
def fin (f : Nat → Int) : Prop := ∃ N, ∀ k, N ≤ k → f k = 0
/-- the same modulo p -/
def cg (p : Int) (f g : Nat → Int) : Prop := ∀ k, p ∣ f k - g k
/-- the same modulo p and m -/
def rm (p : Int) (m f g : Nat → Int) : Prop := ∃ q, fin q ∧ cg p (sz f g) (mz q m)
end Go.Proofs.Ytobcdekochenfaa
end
section
namespace Go.Proofs.Ytobcdekochenfaa
/-- sums and products as in the whole numbers -/
class Rg (R : Type) extends Add R, Mul R, Neg R where
 o : R
 e : R
 acomm : ∀ a b : R, a + b = b + a
 aassoc : ∀ a b c : R, a + b + c = a + (b + c)
 oadd : ∀ a : R, o + a = a
 nadd : ∀ a : R, -a + a = o
 mcomm : ∀ a b : R, a * b = b * a
 massoc : ∀ a b c : R, a * b * c = a * (b * c)
 emul : ∀ a : R, e * a = a
 madd : ∀ a b c : R, a * (b + c) = a * b + a * c
namespace Rg
variable {R : Type} [Rg R]
/-- a^n -/
def pw (a : R) : Nat → R
 | 0 => e
 | n + 1 => a * pw a n
/-- k times a -/
def nm : Nat → R → R
 | 0, _ => o
 | k + 1, a => nm k a + a
/-- the sum of c(i) x^i y^(n - i), for the n + 1 numbers of a list -/
def hm (x y : R) : List Nat → R
 | [] => o
 | c :: cs => nm c (pw y cs.length) + x * hm x y cs
def pas : Nat → List Nat → List Nat
 | q, [] => [q]
 | q, c :: cs => (q + c) :: pas c cs
def row : Nat → List Nat
 | 0 => [1]
 | n + 1 => pas 0 (row n)
end Rg
end Go.Proofs.Ytobcdekochenfaa
namespace Go.Proofs.Ytobcdekochenfaa
open Rg
def zS : Nat → Int := fun _ => 0
end Go.Proofs.Ytobcdekochenfaa
set_option linter.unusedVariables false
set_option linter.unusedVariables false
set_option linter.unusedVariables false
namespace Go.Proofs.Ytobcdekochenfaa
attribute [local irreducible] deg invN quoP resP
/-- the numbers of the monic polynomials of the degree n -/
def monL (p n : Nat) : List Nat := List.range' (p ^ n) (p ^ n)
/-- how often m divides a, and what is left -/
def dvo (p : Nat) (m : Nat → Nat) : Nat → (Nat → Nat) → Nat × (Nat → Nat)
 | 0, a => (0, a)
 | f + 1, a => if deg (resP p a m) < 0 then ((dvo p m f (quoP p a m)).1 + 1, (dvo p m f (quoP p a m)).2) else (0, a)
end Go.Proofs.Ytobcdekochenfaa
set_option linter.unusedVariables false
namespace Go.Proofs.Ytobcdekochenfaa
attribute [local irreducible] deg invN quoP resP
/-- all of a list, divided out one after the other: what is told, and what is left -/
def foR (p : Nat) : List Nat → (Nat → Nat) → List (Nat × Nat) × (Nat → Nat)
 | [], a => ([], a)
 | N :: ms, a => ((if 0 < (dvo p (ofN p N) 64 a).1 then [(N, (dvo p (ofN p N) 64 a).1)] else []) ++ (foR p ms (dvo p (ofN p N) 64 a).2).1, (foR p ms (dvo p (ofN p N) 64 a).2).2)
/-- degree by degree -/
def run (p : Nat) : Nat → Nat → (Nat → Nat) → List (Nat × Nat)
 | 0, _, _ => []
 | f + 1, n, a => if deg a ≤ 0 then [] else (foR p (monL p n) a).1 ++ run p f (n + 1) (foR p (monL p n) a).2
end Go.Proofs.Ytobcdekochenfaa
set_option linter.unusedVariables false
set_option linter.unusedVariables false
set_option linter.unusedVariables false
set_option linter.unusedVariables false
end
section
namespace Go.Proofs.Ytobcdekochenfaa
open Go Go.RowKit Go.ChangeMaps
open Go.Maps (Keyed)
/-- block b is a map with the entries L, keys of type k -/
def MapG (P : Program) (k : TypeId) (w : World) (b : Nat) (L : List (Value × Value)) : Prop :=
 ∃ es clock, w.heap[b]? = some (.map es clock) ∧ es.toList.map (fun e => (e.key, e.val)) = L ∧ ∀ e ∈ es.toList, ∃ l, keyOf P k e.key = some l
theorem MapG.lt {P : Program} {k : TypeId} {w : World} {b : Nat} {L : List (Value × Value)} (h : MapG P k w b L) : b < w.heap.size := by
 obtain ⟨es, clock, hb, _⟩ := h
 exact (Array.getElem?_eq_some_iff.1 hb).1
theorem MapG.new (P : Program) (k : TypeId) (w : World) : MapG P k (w.alloc (.map #[] 0)) w.heap.size [] := ⟨#[], 0, (MapKept.heap_alloc w _).1, rfl, by simp⟩
theorem MapG.of {P : Program} {k : TypeId} {w w' : World} {b : Nat} {L : List (Value × Value)} (h : MapG P k w b L) (e : w'.heap[b]? = w.heap[b]?) : MapG P k w' b L := by
 obtain ⟨es, clock, hb, r⟩ := h
 exact ⟨es, clock, e.trans hb, r⟩
theorem MapG.alloc {P : Program} {k : TypeId} {w : World} {b : Nat} {L : List (Value × Value)} (h : MapG P k w b L) (o : Obj) : MapG P k (w.alloc o) b L := h.of (Below.heap_alloc _ _ _ h.lt)
theorem MapG.drew {P : Program} {k : TypeId} {w : World} {b : Nat} {L : List (Value × Value)} (h : MapG P k w b L) : MapG P k w.drew b L := h
theorem MapG.below {P : Program} {k : TypeId} {w w' : World} {B b : Nat} {L : List (Value × Value)} (h : MapG P k w b L) (hb : Below B w w') (e : b < B) : MapG P k w' b L := h.of (hb.block b e)
theorem MapG.zw {P : Program} {k : TypeId} {w w' : World} {b : Nat} {L : List (Value × Value)} (h : MapG P k w b L) (hb : Below w.heap.size w w') : MapG P k w' b L := MapG.below h hb (MapG.lt h)
theorem MapG.setOther {P : Program} {k : TypeId} {w : World} {b : Nat} {L : List (Value × Value)} (h : MapG P k w b L) {a : Addr} {v : Value} (e : b ≠ a.block) : MapG P k (w.setCell a v) b L := h.of (heap_setCell_other _ _ _ _ e)
theorem MapG.rowOther {P : Program} {k : TypeId} {w : World} {b : Nat} {L : List (Value × Value)} (h : MapG P k w b L) {j : Nat} {cs : Array Value} (e : b ≠ j) : MapG P k (w.setRow j cs) b L := h.of (setRow_other _ _ _ _ e)
/-- block b is one cell that holds v -/
def One (w : World) (b : Nat) (t : TypeId) (v : Value) : Prop := w.heap[b]? = some (.cells #[v] t (0, 0))
theorem One.new (w : World) (t : TypeId) (v : Value) : One (w.alloc (.cells #[v] t)) w.heap.size t v := heap_alloc_last w _
theorem One.lt {w : World} {b : Nat} {t : TypeId} {v : Value} (h : One w b t v) : b < w.heap.size := by
 unfold One at h
 exact (Array.getElem?_eq_some_iff.1 h).1
theorem One.cell {w : World} {b : Nat} {t : TypeId} {v : Value} (h : One w b t v) : w.cell? ⟨b, 0, none⟩ = some v := by
 rw [cell_of_row _ _ _ _ _ _ h]; rfl
theorem One.frozen {w : World} {b : Nat} {t : TypeId} {v : Value} (h : One w b t v) (i : Nat) : w.frozen? ⟨b, i, none⟩ = false := frozen_of_row _ _ _ _ _ h
theorem One.of {w w' : World} {b : Nat} {t : TypeId} {v : Value} (h : One w b t v) (e : w'.heap[b]? = w.heap[b]?) : One w' b t v := by unfold One at *; rw [e]; exact h
theorem One.alloc {w : World} {b : Nat} {t : TypeId} {v : Value} (h : One w b t v) (o : Obj) : One (w.alloc o) b t v := h.of (Below.heap_alloc _ _ _ h.lt)
theorem One.drew {w : World} {b : Nat} {t : TypeId} {v : Value} (h : One w b t v) : One w.drew b t v := h
theorem One.below {w w' : World} {B b : Nat} {t : TypeId} {v : Value} (h : One w b t v) (hb : Below B w w') (e : b < B) : One w' b t v := h.of (hb.block b e)
theorem One.zw {w w' : World} {b : Nat} {t : TypeId} {v : Value} (h : One w b t v) (hb : Below w.heap.size w w') : One w' b t v := One.below h hb (One.lt h)
theorem One.setOther {w : World} {b : Nat} {t : TypeId} {v x : Value} (h : One w b t v) {a : Addr} (e : b ≠ a.block) : One (w.setCell a x) b t v := h.of (heap_setCell_other _ _ _ _ e)
theorem One.rowOther {w : World} {b : Nat} {t : TypeId} {v : Value} (h : One w b t v) {j : Nat} {cs : Array Value} (e : b ≠ j) : One (w.setRow j cs) b t v := h.of (setRow_other _ _ _ _ e)
theorem One.grown {w w' : World} {b j : Nat} {t : TypeId} {v : Value} (h : One w b t v) (hg : w.grownBy w' (some j)) (e : b ≠ j) : One w' b t v := h.of (hg.block b h.lt (fun x => e (by cases x; rfl)))
theorem wp_load_one {P : Program} {o : Oper} {a : Act} {w : World} {K : Act → World → Prop} {Q : Exit → Act → World → Prop} (ty : TypeId) (x : Operand) (ho : o.op = .load ty x)
 (b : Nat) (hx : a.eval x = .pointer (some ⟨b, 0, none⟩)) (t : TypeId) (v : Value) (hb : One w b t v) (d : TypeDesc)
 (hu : P.underlying ty = some d) (hd : (match d with | .struct _ | .array _ _ => true | _ => false) = false) (h : K (a.put o.dst v) w) : o.wp P a w K Q := by
 have hc := hb.cell
 have hagg : (isAgg ty).run P w = .ok false w := by
  unfold isAgg
  rw [Sem.run_bind, run_underlying hu w]
  cases d <;> simp_all
 unfold Oper.wp execOp
 simp only [ho, hx, Instr.loadAt, Instr.sureAddr, Sem.run_bind, Sem.run_pure, Result.andThen_ok, loadVar, hagg, Bool.false_eq_true, if_false, Sem.run_ite, run_load, hc]
 exact h
theorem zlo {P : Program} {ops : Array Oper} {rest : List Oper} {o : Oper} {a : Act} {w : World} {Q : Exit → Act → World → Prop} (hgd : o.guard = none) (ty : TypeId) (x : Operand) (ho : o.op = .load ty x)
 (b : Nat) (hx : a.eval x = .pointer (some ⟨b, 0, none⟩)) (t : TypeId) (v : Value) (hb : One w b t v) (d : TypeDesc)
 (hu : P.underlying ty = some d) (hd : (match d with | .struct _ | .array _ _ => true | _ => false) = false) (h : wpList P ops Q rest (a.put o.dst v) w) : wpList P ops Q (o :: rest) a w :=
 wpList_plain hgd fun _ hK => wp_load_one ty x ho b hx t v hb d hu hd (hK _ _ h)
/-- a new key -/
theorem MapG.put {P : Program} {k e t : TypeId} (K : Keyed P k) (ht : P.underlying t = some (.map k e)) {w : World} {b : Nat} {L : List (Value × Value)} (h : MapG P k w b L) {key val : Value} {kl : Lit} (hkey : keyOf P k key = some kl) (hn : ∀ q ∈ L, q.1 ≠ key) :
 ∃ w', (Instr.mapUpdate t (.map (some b)) key val).run P w = .ok () w' ∧ MapG P k w' b (L ++ [(key, val)]) ∧ w.grownBy w' (some b) := by
 obtain ⟨es, clock, hb, rfl, hr⟩ := h
 rcases K.find w hkey es.toList hr with ⟨h1, h2⟩ | ⟨j, e0, h1, h2, h3⟩
 · refine ⟨setBlock w b (.map (es.push ⟨key, val, clock⟩) (clock + 1)), ?_, ⟨_, _, heap_setBlock_same hb _, by simp, ?_⟩, ⟨rfl, rfl, rfl, by simp [setBlock], fun i _ hi => heap_setBlock_other hb _ (fun e => hi (by rw [e]))⟩⟩
   · simp [Instr.mapUpdate, run_underlying ht, MapKept.run_getObj_map hb, K.check w false hkey, h1, MapKept.run_setObj_map _ hb, Result.andThen, setBlock]
   · intro x hx
     simp only [Array.toList_push, List.mem_append, List.mem_singleton] at hx
     rcases hx with hx | rfl
     · exact hr x hx
     · exact ⟨_, hkey⟩
 · exact absurd h3 (hn (e0.key, e0.val) (List.mem_map.2 ⟨e0, List.mem_of_getElem? h2, rfl⟩))
/-- what a store into the map leaves of another block -/
theorem Blk.grown {w w' : World} {b n j : Nat} {t : TypeId} {f : Nat → Nat} (h : Blk w b n t f) (hg : w.grownBy w' (some j)) (e : b ≠ j) : Blk w' b n t f := by
 have hl := h.lt
 unfold Blk at *; rw [hg.block b hl (fun x => e (by cases x; rfl))]; exact h
attribute [irreducible] MapG One
end Go.Proofs.Ytobcdekochenfaa
end
section
namespace Go.Proofs.Ytobcdekochenfaa
open Go Go.RowKit
set_option linter.unusedVariables false
/-- v is a slice of the rows cs, each of so many cells, in a block from base on (or nil) -/
def SlL (w : World) (base : Nat) (e : TypeId) (size : Nat) (v : Value) (cs : List (List Value)) : Prop := base ≤ w.heap.size ∧ (∀ c ∈ cs, c.length = size) ∧ w.ownsRow base e size v cs.length cs.flatten
theorem SlL.lt {w : World} {base : Nat} {e : TypeId} {size : Nat} {v : Value} {cs : List (List Value)} (h : SlL w base e size v cs) : base ≤ w.heap.size := h.1
theorem SlL.nil {w : World} {base : Nat} (e : TypeId) (size : Nat) (h : base ≤ w.heap.size) : SlL w base e size (.slice none 0 0) [] := ⟨h, by simp, World.ownsRow_nil _ _ _ _⟩
theorem SlL.grown {w w' : World} {base : Nat} {e : TypeId} {size : Nat} {v : Value} {cs : List (List Value)} {row : Option Nat} (h : SlL w base e size v cs) (hg : w.grownBy w' row) (hr : ∀ r, row = some r → r < base) : SlL w' base e size v cs :=
 ⟨Nat.le_trans h.1 hg.size, h.2.1, h.2.2.kept hg (by
  cases hv : v.ownBlock with
  | none => exact .inl rfl
  | some k =>
   right
   intro he
   have h1 := (h.2.2.lt k hv).1
   have h2 := hr k he.symm
   omega)⟩
theorem SlL.alloc {w : World} {base : Nat} {e : TypeId} {size : Nat} {v : Value} {cs : List (List Value)} (h : SlL w base e size v cs) (o : Obj) : SlL (w.alloc o) base e size v cs := h.grown (World.grownBy_alloc w o none) (fun r e => by cases e)
theorem SlL.drew {w : World} {base : Nat} {e : TypeId} {size : Nat} {v : Value} {cs : List (List Value)} (h : SlL w base e size v cs) : SlL w.drew base e size v cs := h
theorem SlL.below {w w' : World} {base : Nat} {e : TypeId} {size : Nat} {v : Value} {cs : List (List Value)} (h : SlL w base e size v cs) (hb : Below w.heap.size w w') (_ : base ≤ w.heap.size) : SlL w' base e size v cs :=
 h.grown (row := none) ⟨hb.os, hb.tape, hb.output, hb.size, fun k hk _ => hb.block k hk⟩ (fun r e => by cases e)
theorem SlL.zw {w w' : World} {base : Nat} {e : TypeId} {size : Nat} {v : Value} {cs : List (List Value)} (h : SlL w base e size v cs) (hb : Below w.heap.size w w') : SlL w' base e size v cs := SlL.below h hb (SlL.lt h)
theorem SlL.rowOther {w : World} {base : Nat} {e : TypeId} {size : Nat} {v : Value} {cs : List (List Value)} (h : SlL w base e size v cs) {k : Nat} {xs : Array Value} (hk : k < base) : SlL (w.setRow k xs) base e size v cs :=
 h.grown (row := some k) ⟨rfl, rfl, rfl, by simp [World.setRow], fun j _ hj => setRow_other _ _ _ _ (fun e => hj (by rw [e]))⟩ (fun r e => by cases e; exact hk)
theorem SlL.setOther {w : World} {base : Nat} {e : TypeId} {size : Nat} {v x : Value} {cs : List (List Value)} (h : SlL w base e size v cs) {a : Addr} (ha : a.block < base) : SlL (w.setCell a x) base e size v cs :=
 ⟨by simpa using h.1, h.2.1, ownsRow_setCell_below h.2.2 ha x⟩
theorem SlL.own {w : World} {base : Nat} {e : TypeId} {size : Nat} {v : Value} {cs : List (List Value)} (h : SlL w base e size v cs) : ∀ r, v.ownBlock = some r → base ≤ r := fun r hr => (h.2.2.lt r hr).1
theorem SlL.shape {w : World} {base : Nat} {e : TypeId} {size : Nat} {v : Value} {cs : List (List Value)} (h : SlL w base e size v cs) : (v = .slice none 0 0 ∧ cs = []) ∨ ∃ g cap, v = .slice (some ⟨g, 0, none⟩) cs.length cap := by
 obtain ⟨_, _, _, h | ⟨g, cap, cur, rfl, _⟩⟩ := h
 · exact .inl ⟨h.1, List.eq_nil_of_length_eq_zero h.2⟩
 · exact .inr ⟨g, cap, rfl⟩
theorem flat_at : ∀ (cs : List (List Value)) (size i : Nat) (c : List Value) (j : Nat) (u : Value), (∀ c ∈ cs, c.length = size) → cs[i]? = some c → c[j]? = some u → cs.flatten[i * size + j]? = some u
 | [], _, _, _, _, _, _, h, _ => by simp at h
 | g :: cs, size, 0, c, j, u, _, h, hj => by
  simp only [List.getElem?_cons_zero, Option.some.injEq] at h
  subst h
  rw [List.flatten_cons, Nat.zero_mul, Nat.zero_add, List.getElem?_append_left (List.getElem?_eq_some_iff.1 hj).1]
  exact hj
 | g :: cs, size, i + 1, c, j, u, hs, h, hj => by
  have hg : g.length = size := hs g (by simp)
  have e1 : (i + 1) * size = i * size + size := Nat.succ_mul i size
  rw [List.flatten_cons, List.getElem?_append_right (by rw [hg]; omega), hg]
  have := flat_at cs size i c j u (fun c hc => hs c (by simp [hc])) (by simpa using h) hj
  rw [show (i + 1) * size + j - size = i * size + j by omega]
  exact this
/-- the cells of one element -/
theorem SlL.range {w : World} {base : Nat} {e : TypeId} {size g n cap : Nat} {cs : List (List Value)} (h : SlL w base e size (.slice (some ⟨g, 0, none⟩) n cap) cs) {i : Nat} {c : List Value} (hi : cs[i]? = some c) : w.rangeAt g (i * size) c := by
 intro j u hu
 obtain ⟨_, hs, hl, h | ⟨g', cap', cur, hv, hg, hh, h1, h2, h3, h4⟩⟩ := h
 · cases h.1
 · injection hv with e1 e2 e3
   injection e1 with e1
   injection e1 with e1
   subst e1
   rw [cell_of_row _ _ _ _ _ _ hh]
   have hc : cs.flatten[i * size + j]? = some u := flat_at cs size i c j u hs hi hu
   rw [← h4] at hc
   have hlt : i * size + j < cs.length * size := by
    have := (List.getElem?_eq_some_iff.1 hc).1
    rw [List.length_take] at this
    omega
   rw [List.getElem?_take_of_lt hlt] at hc
   rw [← Array.getElem?_toList]
   exact hc
theorem One.row {w : World} {b : Nat} {t : TypeId} {v : Value} (h : One w b t v) (u : Value) : One (w.setRow b #[u]) b t u := by
 unfold One at *
 exact setRow_heap _ _ _ _ _ _ h
theorem SlL.one {w : World} {base : Nat} {e : TypeId} {size : Nat} {v : Value} {cs : List (List Value)} (h : SlL w base e size v cs) : v.oneCell' = true := by
 rcases h.shape with ⟨rfl, _⟩ | ⟨g, cap, rfl⟩ <;> rfl
theorem SlL.base {w : World} {base base' : Nat} {e : TypeId} {size : Nat} {v : Value} {cs : List (List Value)} (h : SlL w base e size v cs) (hb : base' ≤ base) : SlL w base' e size v cs := ⟨Nat.le_trans hb h.1, h.2.1, by
 obtain ⟨_, _, hl, h | ⟨g, cap, cur, hv, hg', r⟩⟩ := h
 · exact ⟨hl, .inl h⟩
 · exact ⟨hl, .inr ⟨g, cap, cur, hv, Nat.le_trans hb hg', r⟩⟩⟩
/-- .. whose block lies below top -/
def SlT (w : World) (base top : Nat) (e : TypeId) (size : Nat) (v : Value) (cs : List (List Value)) : Prop := SlL w base e size v cs ∧ ∀ r, v.ownBlock = some r → r < top
theorem SlL.top {w : World} {base : Nat} {e : TypeId} {size : Nat} {v : Value} {cs : List (List Value)} (h : SlL w base e size v cs) : SlT w base w.heap.size e size v cs := ⟨h, fun r hr => (h.2.2.lt r hr).2⟩
theorem SlT.lt {w : World} {base top : Nat} {e : TypeId} {size : Nat} {v : Value} {cs : List (List Value)} (h : SlT w base top e size v cs) : base ≤ w.heap.size := h.1.1
theorem SlT.alloc {w : World} {base top : Nat} {e : TypeId} {size : Nat} {v : Value} {cs : List (List Value)} (h : SlT w base top e size v cs) (o : Obj) : SlT (w.alloc o) base top e size v cs := ⟨h.1.alloc o, h.2⟩
theorem SlT.drew {w : World} {base top : Nat} {e : TypeId} {size : Nat} {v : Value} {cs : List (List Value)} (h : SlT w base top e size v cs) : SlT w.drew base top e size v cs := h
theorem SlT.below {w w' : World} {base top : Nat} {e : TypeId} {size : Nat} {v : Value} {cs : List (List Value)} (h : SlT w base top e size v cs) (hb : Below w.heap.size w w') (hl : base ≤ w.heap.size) : SlT w' base top e size v cs := ⟨h.1.below hb hl, h.2⟩
theorem SlT.zw {w w' : World} {base top : Nat} {e : TypeId} {size : Nat} {v : Value} {cs : List (List Value)} (h : SlT w base top e size v cs) (hb : Below w.heap.size w w') : SlT w' base top e size v cs := SlT.below h hb (SlT.lt h)
theorem SlT.rowOther {w : World} {base top : Nat} {e : TypeId} {size : Nat} {v : Value} {cs : List (List Value)} (h : SlT w base top e size v cs) {k : Nat} {xs : Array Value} (hk : k < base ∨ top ≤ k) : SlT (w.setRow k xs) base top e size v cs :=
 ⟨⟨by simpa [World.setRow] using h.1.1, h.1.2.1, h.1.2.2.kept (row := some k) ⟨rfl, rfl, rfl, by simp [World.setRow], fun j _ hj => setRow_other _ _ _ _ (fun e => hj (by rw [e]))⟩ (by
  cases hv : v.ownBlock with
  | none => exact .inl rfl
  | some j =>
   right
   intro he
   cases he
   have h1 := (h.1.2.2.lt k hv).1
   have h2 := h.2 k hv
   omega)⟩, h.2⟩
theorem SlT.setOther {w : World} {base top : Nat} {e : TypeId} {size : Nat} {v x : Value} {cs : List (List Value)} (h : SlT w base top e size v cs) {a : Addr} (ha : a.block < base ∨ top ≤ a.block) : SlT (w.setCell a x) base top e size v cs :=
 ⟨⟨by simpa using h.1.1, h.1.2.1, h.1.2.2.kept (row := some a.block) ⟨((Below.refl 0 w).setCell (Nat.zero_le _) x).os, ((Below.refl 0 w).setCell (Nat.zero_le _) x).tape, ((Below.refl 0 w).setCell (Nat.zero_le _) x).output, by simp, fun j _ hj => Below.heap_setCell _ _ _ _ (fun e => hj (by rw [e]))⟩ (by
  cases hv : v.ownBlock with
  | none => exact .inl rfl
  | some j =>
   right
   intro he
   have he2 : j = a.block := by injection he
   subst he2
   have h1 := (h.1.2.2.lt a.block hv).1
   have h2 := h.2 a.block hv
   omega)⟩, h.2⟩
theorem SlL.some {w : World} {base : Nat} {e : TypeId} {size n cap : Nat} {ad : Option Addr} {cs : List (List Value)} (h : SlL w base e size (.slice ad n cap) cs) (hn : 0 < cs.length) : ∃ g, ad = some ⟨g, 0, none⟩ := by
 rcases h.shape with ⟨_, h2⟩ | ⟨g, cap', h1⟩
 · rw [h2] at hn; simp at hn
 · injection h1 with h1; exact ⟨g, h1⟩
/-- block b is the row cs -/
def Row (w : World) (b : Nat) (t : TypeId) (cs : Array Value) : Prop := w.heap[b]? = some (.cells cs t (0, 0))
theorem Row.new (w : World) (t : TypeId) (cs : Array Value) : Row (w.alloc (.cells cs t)) w.heap.size t cs := heap_alloc_last w _
theorem Row.lt {w : World} {b : Nat} {t : TypeId} {cs : Array Value} (h : Row w b t cs) : b < w.heap.size := by
 unfold Row at h
 exact (Array.getElem?_eq_some_iff.1 h).1
theorem Row.of {w w' : World} {b : Nat} {t : TypeId} {cs : Array Value} (h : Row w b t cs) (e : w'.heap[b]? = w.heap[b]?) : Row w' b t cs := by unfold Row at *; rw [e]; exact h
theorem Row.alloc {w : World} {b : Nat} {t : TypeId} {cs : Array Value} (h : Row w b t cs) (o : Obj) : Row (w.alloc o) b t cs := h.of (Below.heap_alloc _ _ _ h.lt)
theorem Row.drew {w : World} {b : Nat} {t : TypeId} {cs : Array Value} (h : Row w b t cs) : Row w.drew b t cs := h
theorem Row.below {w w' : World} {B b : Nat} {t : TypeId} {cs : Array Value} (h : Row w b t cs) (hb : Below B w w') (e : b < B) : Row w' b t cs := h.of (hb.block b e)
theorem Row.zw {w w' : World} {b : Nat} {t : TypeId} {cs : Array Value} (h : Row w b t cs) (hb : Below w.heap.size w w') : Row w' b t cs := Row.below h hb (Row.lt h)
theorem Row.rowOther {w : World} {b : Nat} {t : TypeId} {cs : Array Value} (h : Row w b t cs) {j : Nat} {xs : Array Value} (e : b ≠ j) : Row (w.setRow j xs) b t cs := h.of (setRow_other _ _ _ _ e)
theorem Row.setOther {w : World} {b : Nat} {t : TypeId} {cs : Array Value} {x : Value} (h : Row w b t cs) {a : Addr} (e : b ≠ a.block) : Row (w.setCell a x) b t cs := h.of (heap_setCell_other _ _ _ _ e)
theorem Row.row {w : World} {b : Nat} {t : TypeId} {cs : Array Value} (h : Row w b t cs) (xs : Array Value) : Row (w.setRow b xs) b t xs := by
 unfold Row at *
 exact setRow_heap _ _ _ _ _ _ h
theorem Row.cell {w : World} {b : Nat} {t : TypeId} {cs : Array Value} (h : Row w b t cs) {i : Nat} {v : Value} (hi : cs[i]? = some v) : w.cell? ⟨b, i, none⟩ = some v := by
 rw [cell_of_row _ _ _ _ _ _ h]; exact hi
theorem Row.frozen {w : World} {b : Nat} {t : TypeId} {cs : Array Value} (h : Row w b t cs) (i : Nat) : w.frozen? ⟨b, i, none⟩ = false := frozen_of_row _ _ _ _ _ h
theorem Row.set {w : World} {b i : Nat} {t : TypeId} {cs : Array Value} {x : Value} (h : Row w b t cs) : Row (w.setCell ⟨b, i, none⟩ x) b t (cs.setIfInBounds i x) := by
 unfold Row at *
 rw [heap_setCell_same _ _ _ _ _ _ h]
theorem zlr {P : Program} {ops : Array Oper} {rest : List Oper} {o : Oper} {a : Act} {w : World} {Q : Exit → Act → World → Prop} (hgd : o.guard = none) (ty : TypeId) (x : Operand) (ho : o.op = .load ty x)
 (b : Nat) (hx : a.eval x = .pointer (some ⟨b, 0, none⟩)) (t : TypeId) (cs : Array Value) (hb : Row w b t cs) (d : TypeDesc)
 (hu : P.underlying ty = some d) (hd : (match d with | .struct _ | .array _ _ => true | _ => false) = true) (n : Nat) (hi : (P.info? ty).map (·.size) = some n) (hn : cs.size = n)
 (h : wpList P ops Q rest (a.put o.dst (.agg cs)) w) : wpList P ops Q (o :: rest) a w := by
 unfold Row at hb
 exact wpList_load_row hgd ty x ho b hx t _ (0, 0) d hb hu hd (by rw [hi, hn]) h
theorem wpList_store_rowv {P : Program} {ops : Array Oper} {rest : List Oper} {o : Oper} {a : Act} {w : World} {Q : Exit → Act → World → Prop} (hgd : o.guard = none) (ty : TypeId) (x y : Operand) (ho : o.op = .store ty x y)
 (b : Nat) (hx : a.eval x = .pointer (some ⟨b, 0, none⟩)) (xs : Array Value) (hy : a.eval y = .agg xs) (t : TypeId) (cs : Array Value) (hb : Row w b t cs) (n : Nat) (hi : (P.info? ty).map (·.size) = some n) (hn : cs.size = n) (hm : xs.size = n) (h1 : xs.all (·.oneCell') = true)
 (h : wpList P ops Q rest (a.put o.dst undef) (w.setRow b xs)) : wpList P ops Q (o :: rest) a w := by
 unfold Row at hb
 exact wpList_store_row hgd ty x y ho b _ hx hy t _ hb (by rw [hi, hm]) (by rw [hn, hm]) h1 h
theorem Row.range {w : World} {b : Nat} {t : TypeId} {c : List Value} (h : Row w b t c.toArray) : w.rangeAt b 0 c := by
 intro j v hv
 rw [Nat.zero_add, cell_of_row _ _ _ _ _ _ h]
 simpa using hv
attribute [irreducible] Row
attribute [irreducible] SlL
end Go.Proofs.Ytobcdekochenfaa
namespace Go.Proofs.Ytobcdekochenfaa
open Go Go.RowKit
set_option linter.unusedVariables false
/-- what is no cells from B on lies as it lay -/
def KF (B : Nat) (W W' : World) : Prop := KeepsFrom B W W'
theorem KF.refl (B : Nat) (W : World) : KF B W W := KeepsFrom.refl B W
theorem KF.lt {B : Nat} {W W' : World} (h : KF B W W') : W.heap.size ≤ W'.heap.size := h.size
theorem KF.below {B : Nat} {W W1 W2 : World} (h : KF B W W1) (hb : Below W1.heap.size W1 W2) (_ : W.heap.size ≤ W1.heap.size) : KF B W W2 :=
 KeepsFrom.trans h ⟨hb.size, fun k _ _ hk _ => (hb.block k (Array.getElem?_eq_some_iff.1 hk).1).trans hk⟩
theorem KF.zw {B : Nat} {W W1 W2 : World} (h : KF B W W1) (hb : Below W1.heap.size W1 W2) : KF B W W2 := KF.below h hb (KF.lt h)
theorem KF.alloc {B : Nat} {W W1 : World} (h : KF B W W1) (o : Obj) : KF B W (W1.alloc o) := h.below (zal _ _) h.size
theorem KF.drew {B : Nat} {W W1 : World} (h : KF B W W1) : KF B W W1.drew := ⟨h.size, h.same⟩
theorem KF.rowOther {B : Nat} {W W1 : World} (h : KF B W W1) {k : Nat} {cs : Array Value} (e : k < B ∨ W.heap.size ≤ k) : KF B W (W1.setRow k cs) :=
 ⟨by simpa [World.setRow] using h.size, fun j o hB hj ho => by
  have hlt := (Array.getElem?_eq_some_iff.1 hj).1
  rw [setRow_other _ _ _ _ (by omega)]
  exact h.same j o hB hj ho⟩
theorem KF.grown {B : Nat} {W W1 W2 : World} {row : Option Nat} (h : KF B W W1) (hg : W1.grownBy W2 row) (hr : ∀ r, row = some r → ∃ cur t f, W1.heap[r]? = some (.cells cur t f)) : KF B W W2 :=
 KeepsFrom.trans h ⟨hg.size, fun k o _ hk ho => (hg.block k (Array.getElem?_eq_some_iff.1 hk).1 (fun e => by
  obtain ⟨cur, t, f, hc⟩ := hr k e.symm
  rw [hk] at hc; cases hc; cases ho)).trans hk⟩
/-- the block for deferred calls -/
def DF (W : World) (D : Nat) : Prop := W.heap[D]? = some (.deferred (some []))
theorem DF.lt {W : World} {D : Nat} (h : DF W D) : D < W.heap.size := (Array.getElem?_eq_some_iff.1 h).1
theorem DF.of {W W' : World} {D : Nat} (h : DF W D) (e : W'.heap[D]? = W.heap[D]?) : DF W' D := by unfold DF at *; rw [e]; exact h
theorem DF.below {W W' : World} {B D : Nat} (h : DF W D) (hb : Below B W W') (e : D < B) : DF W' D := h.of (hb.block D e)
theorem DF.zw {W W' : World} {D : Nat} (h : DF W D) (hb : Below W.heap.size W W') : DF W' D := DF.below h hb (DF.lt h)
theorem DF.alloc {W : World} {D : Nat} (h : DF W D) (o : Obj) : DF (W.alloc o) D := h.below (zal _ _) h.lt
theorem DF.drew {W : World} {D : Nat} (h : DF W D) : DF W.drew D := h
theorem DF.rowOther {W : World} {D k : Nat} {cs : Array Value} (h : DF W D) (e : D ≠ k) : DF (W.setRow k cs) D := h.of (setRow_other _ _ _ _ e)
theorem DF.grown {W W1 : World} {D : Nat} {row : Option Nat} (h : DF W D) (hg : W.grownBy W1 row) (hr : ∀ r, row = some r → ∃ cur t f, W.heap[r]? = some (.cells cur t f)) : DF W1 D :=
 h.of (hg.block D h.lt (fun e => by
  obtain ⟨cur, t, f, hc⟩ := hr D e.symm
  unfold DF at h
  rw [h] at hc; cases hc))
end Go.Proofs.Ytobcdekochenfaa
end
section
namespace Go.Proofs.Ytobcdekochenfaa
open Go Go.RowKit Go.Shelf
set_option linter.unusedVariables false
set_option linter.unusedSimpArgs false
attribute [local go_sem] Oper.semAt_some
/-- the numbers from a on, k of them -/
abbrev NumN (a k : Nat) := { N : Nat // N ∈ List.range' a k }
def vals {a k : Nat} (l : List (NumN a k)) : List Nat := l.map (·.1)
/-- the captured cells stay -/
def KpN (ba bb bp : Nat) (W W' : World) : Prop := W'.heap[ba]? = W.heap[ba]? ∧ W'.heap[bb]? = W.heap[bb]? ∧ W'.heap[bp]? = W.heap[bp]?
theorem KpN.refl (ba bb bp : Nat) (W : World) : KpN ba bb bp W W := ⟨rfl, rfl, rfl⟩
theorem KpN.trans {ba bb bp : Nat} {A B C : World} (h : KpN ba bb bp A B) (k : KpN ba bb bp B C) : KpN ba bb bp A C := ⟨k.1.trans h.1, k.2.1.trans h.2.1, k.2.2.trans h.2.2⟩
theorem KpN.put {ba bb bp : Nat} {w : World} (h0 : ba < w.heap.size) (h1 : bb < w.heap.size) (h2 : bp < w.heap.size) (W : World) (l : Nat) (o o' : Obj) (hl : w.heap.size ≤ l) (_ : W.heap[l]? = some o) (_ : o.isCells = false) (_ : o.isWalk = false) : KpN ba bb bp W (W.putObj l o') :=
 ⟨World.putObj_heap_other (by omega), World.putObj_heap_other (by omega), World.putObj_heap_other (by omega)⟩
theorem One.same {w w' : World} {b : Nat} {t : TypeId} {v : Value} (h : One w b t v) (h' : One w' b t v) : w'.heap[b]? = w.heap[b]? := by unfold One at *; rw [h, h']
end Go.Proofs.Ytobcdekochenfaa
end
section
namespace Go.Proofs.Ytobcdekochenfaa
open Go Go.RowKit
set_option linter.unusedVariables false
set_option linter.unusedSimpArgs false
attribute [local irreducible] deg invN dS qS stp quoP resP ofN dvo run monL
/-- the cells of a factor -/
def facC (f : Nat → Nat) (k : Nat) : List Value := bl 64 f ++ [.int .i64 (k : Int)]
def facRows (p : Nat) (L : List (Nat × Nat)) : List (List Value) := L.map fun x => facC (ofN p x.1) x.2
/-- the heap has at least n blocks -/
def SzG (n : Nat) (W : World) : Prop := n ≤ W.heap.size
theorem SzG.lt {n : Nat} {W : World} (h : SzG n W) : n ≤ W.heap.size := h
theorem SzG.below {n B : Nat} {W W' : World} (h : SzG n W) (hb : Below B W W') (_ : n ≤ W.heap.size) : SzG n W' := Nat.le_trans h hb.size
theorem SzG.zw {n : Nat} {W W' : World} (h : SzG n W) (hb : Below W.heap.size W W') : SzG n W' := SzG.below h hb (SzG.lt h)
theorem SzG.alloc {n : Nat} {W : World} (h : SzG n W) (o : Obj) : SzG n (W.alloc o) := h.below (zal _ _) h
theorem SzG.drew {n : Nat} {W : World} (h : SzG n W) : SzG n W.drew := h
theorem SzG.rowOther {n k : Nat} {W : World} {cs : Array Value} (h : SzG n W) (_ : 0 ≤ k) : SzG n (W.setRow k cs) := by unfold SzG at *; simpa [World.setRow] using h
theorem SzG.setOther {n : Nat} {W : World} {a : Addr} {v : Value} (h : SzG n W) (_ : 0 ≤ a.block) : SzG n (W.setCell a v) := by unfold SzG at *; simpa using h
end Go.Proofs.Ytobcdekochenfaa
namespace Go.Proofs.Ytobcdekochenfaa
open Go Go.RowKit
set_option linter.unusedVariables false
set_option linter.unusedSimpArgs false
attribute [local irreducible] deg invN dS qS stp quoP resP ofN dvo run monL
def FV (p : Nat) (n0 : Nat) (x : Nat × Nat) (l : List (Nat × Nat)) (y : Value) (w : World) : Prop := SlL w n0 149 65 y (facRows p (x :: l))
theorem FV.below {p n0 : Nat} {x : Nat × Nat} {l : List (Nat × Nat)} {y : Value} {w w' : World} (h : FV p n0 x l y w) (hb : Below w.heap.size w w') : FV p n0 x l y w' := SlL.below h hb h.lt
end Go.Proofs.Ytobcdekochenfaa
end
section
namespace Go.Proofs.Ytobcdekochenfaa
open Go Go.RowKit
set_option linter.unusedVariables false
/-- the blocks of w, those of S aside, are in w' as they were -/
def Kx (S : List Nat) (w w' : World) : Prop := w.heap.size ≤ w'.heap.size ∧ ∀ b, b < w.heap.size → b ∉ S → w'.heap[b]? = w.heap[b]?
theorem Kx.start (S : List Nat) (w : World) : Kx S w w.drew := ⟨Nat.le_refl _, fun _ _ _ => rfl⟩
theorem Kx.below {S : List Nat} {w w1 w2 : World} (h : Kx S w w1) (hy : Below w1.heap.size w1 w2) : Kx S w w2 :=
 ⟨Nat.le_trans h.1 hy.size, fun b hb hs => (hy.block b (Nat.lt_of_lt_of_le hb h.1)).trans (h.2 b hb hs)⟩
theorem Kx.alloc {S : List Nat} {w w1 : World} (h : Kx S w w1) (o : Obj) : Kx S w (w1.alloc o) := h.below (zal _ _)
theorem Kx.row {S : List Nat} {w w1 : World} (h : Kx S w w1) {s : Nat} (hs : s ∈ S) (cs : Array Value) : Kx S w (w1.setRow s cs) :=
 ⟨by simpa [World.setRow] using h.1, fun b hb hn => by rw [setRow_other _ _ _ _ (fun e => hn (by rw [e]; exact hs))]; exact h.2 b hb hn⟩
theorem Blk.kx {S : List Nat} {w w' : World} {b n : Nat} {t : TypeId} {f : Nat → Nat} (h : Blk w b n t f) (hX : Kx S w w') (hn : b ∉ S) : Blk w' b n t f := by
 have hl := h.lt
 unfold Blk at *; rw [hX.2 b hl hn]; exact h
theorem Row.kx {S : List Nat} {w w' : World} {b : Nat} {t : TypeId} {cs : Array Value} (h : Row w b t cs) (hX : Kx S w w') (hn : b ∉ S) : Row w' b t cs := h.of (hX.2 b h.lt hn)
theorem One.kx {S : List Nat} {w w' : World} {b : Nat} {t : TypeId} {v : Value} (h : One w b t v) (hX : Kx S w w') (hn : b ∉ S) : One w' b t v := h.of (hX.2 b h.lt hn)
end Go.Proofs.Ytobcdekochenfaa
end
section
namespace Go.Proofs.Ytobcdekochenfaa
open Go Go.RowKit
set_option linter.unusedVariables false
section
variable {P : Program}
theorem run_loadVar_any (w : World) (b n : Nat) (t ty : TypeId) (f : Nat → Nat) (hb : Blk w b n t f) (d : TypeDesc) (hu : P.underlying ty = some d) (hd : (match d with | .struct _ | .array _ _ => true | _ => false) = true) (hi : (P.info? ty).map (·.size) = some n) :
 (loadVar ty ⟨b, 0, none⟩).run P w = .ok (.agg (zb n f)) w := by
 have hb' : w.heap[b]? = some (.cells (zb n f) t (0, 0)) := by unfold Blk at hb; exact hb
 exact run_loadVar_row w b t ty _ (0, 0) d hb' hu hd (by rw [zbs]; exact hi)
theorem results_any {fn : Func} {p : Tmp} {ty : TypeId} (h : fn.results = #[.cell p ty]) (tmps : Array Value) (w : World) (b n : Nat) (t : TypeId) (f : Nat → Nat)
 (hp : tmps.getD p undef = .pointer (some ⟨b, 0, none⟩)) (hb : Blk w b n t f) (d : TypeDesc) (hu : P.underlying ty = some d) (hd : (match d with | .struct _ | .array _ _ => true | _ => false) = true) (hi : (P.info? ty).map (·.size) = some n) :
 (results fn tmps).run P w = .ok (.agg (zb n f)) w := by
 have hp' : tmps[p]?.getD undef = .pointer (some ⟨b, 0, none⟩) := by simpa using hp
 simp [results, h, hp', asAddr, run_loadVar_any w b n t ty f hb d hu hd hi]
theorem zrt {fn : Func} {p q : Tmp} {ty : TypeId} (h : fn.results = #[.cell p ty, .tmp q]) (tmps : Array Value) (w : World) (b n : Nat) (t : TypeId) (f : Nat → Nat)
 (hp : tmps.getD p undef = .pointer (some ⟨b, 0, none⟩)) (hb : Blk w b n t f) (d : TypeDesc) (hu : P.underlying ty = some d) (hd : (match d with | .struct _ | .array _ _ => true | _ => false) = true) (hi : (P.info? ty).map (·.size) = some n) :
 (results fn tmps).run P w = .ok (.tuple #[.agg (zb n f), tmps.getD q undef]) w := by
 have hp' : tmps[p]?.getD undef = .pointer (some ⟨b, 0, none⟩) := by simpa using hp
 simp [results, h, hp', asAddr, run_loadVar_any w b n t ty f hb d hu hd hi]
end
end Go.Proofs.Ytobcdekochenfaa
end
section
namespace Go.Proofs.Ytobcdekochenfaa
open Go Go.RowKit
set_option linter.unusedVariables false
set_option linter.unusedSimpArgs false
set_option maxRecDepth 100000 in
set_option maxHeartbeats 400000 in
theorem toRow_any (f : Nat → Nat) (hf : byte f) (w : World) : Calls Try.prog 59 #[.agg (zb 6 f)] w fun e w' => e = .returned (.agg (zb 6 f)) ∧ Below w.heap.size w w' := by
 go_enter Try.func59, Try.ntmps59
 go_wp2_with fail
 rw [← zero6]
 go_loopw [4] (fun i wr => ∃ k : Nat, k ≤ 6 ∧ i = .int .i64 (k : Int) ∧ Below w.heap.size w wr ∧ Blk wr w.heap.size 6 63 f ∧ Blk wr (w.heap.size + 1) 6 64 (fun _ => 0) ∧ Blk wr (w.heap.size + 1 + 1) 6 64 (fun i => if i < k then f i else 0)) (fun i _ => 6 - (intOf i).toNat)
 case atStart =>
  refine ⟨0, by omega, rfl, (((Below.refl _ _).alloc (Nat.le_refl _) _).alloc (by simp) _).alloc (by simp; omega) _, ?_, ?_, ?_⟩
  · exact (((Blk.new w _ _ _).alloc _).alloc _)
  · have := ((Blk.new (w.alloc (.cells (zb 6 f) 63)) 6 64 (fun _ => 0)).alloc (.cells (zb 6 fun _ => 0) 64)); simpa using this
  · have := (Blk.new ((w.alloc (.cells (zb 6 f) 63)).alloc (.cells (zb 6 fun _ => 0) 64)) 6 64 (fun _ => 0)); simpa using this
 case round =>
  obtain ⟨k, hk, rfl, hb, h0, h1, h2⟩ := hrel
  by_cases hlt : k < 6
  · have c4 := h0.cell hlt
    have c5 := h2.cell hlt
    have z4 := h2.frozen k
    have b1 := byteOk f hf k
    go_wp2_with fail
    go_roundw
    case rel =>
     refine ⟨k + 1, by omega, by go_num, hb.setCell (by simp; omega) _, ?_, ?_, ?_⟩
     · exact h0.setOther (by simp; omega)
     · exact h1.setOther (by simp)
     · exact (h2.set (v := f k) rfl).congr (fun i _ => upd_lt (a := f) rfl i)
    case measure => simp [intOf]; omega
  · have e : k = 6 := by omega
    subst e
    go_wp2_with (first | refine zlb rfl 64 _ rfl _ rfl 6 64 _ (h2) 5 Try.underlying64 Try.size64 ?_ | refine wpList_store_blk rfl 64 _ _ rfl _ 6 ((fun i => if i < 6 then f i else 0)) rfl rfl 64 _ (h1) Try.size64 ?_)
    refine bodyPost_ret (zrb rfl _ _ _ 6 64 5 _ rfl (h1.row _) Try.underlying64 Try.size64) rfl ⟨?_, ?_⟩
    · rw [zbc (g := f)]
      intro i hi; simp [hi]
    · exact below_setRow hb (by omega) _

/-- entry i of a vector is as it must be -/
def vc (p n : Int) (v : Nat → Nat) (i : Nat) : Prop := (v i : Int) < p ∧ ((i : Int) < n ∨ v i = 0)
open Classical in
noncomputable def vB (p n : Int) (v : Nat → Nat) : Bool := decide (∀ i, i < 6 → vc p n v i)
theorem vB_no {p n : Int} {v : Nat → Nat} {i : Nat} (hi : i < 6) (h : ¬ vc p n v i) : vB p n v = false := by
 unfold vB; rw [decide_eq_false_iff_not]; exact fun a => h (a i hi)
theorem vB_yes {p n : Int} {v : Nat → Nat} (h : ∀ i, i < 6 → vc p n v i) : vB p n v = true := by
 unfold vB; simp only [decide_eq_true_eq]; exact h
/-- row i of a square is as it must be -/
def sc (p n : Int) (S : Nat → Nat → Nat) (i : Nat) : Prop := vB p n (S i) = true ∧ ((i : Int) < n ∨ eqN 6 (S i) (fun _ => 0) = true)
open Classical in
noncomputable def sqB (p n : Int) (S : Nat → Nat → Nat) : Bool := decide ((∀ i, i < 6 → sc p n S i) ∧ okP p = true ∧ 1 ≤ n ∧ n ≤ 6)
theorem sqB_no {p n : Int} {S : Nat → Nat → Nat} {i : Nat} (hi : i < 6) (h : ¬ sc p n S i) : sqB p n S = false := by
 unfold sqB; rw [decide_eq_false_iff_not]; exact fun a => h (a.1 i hi)
theorem sqB_p {p n : Int} {S : Nat → Nat → Nat} (h : okP p = false) : sqB p n S = false := by
 unfold sqB; rw [decide_eq_false_iff_not]; exact fun a => by rw [a.2.1] at h; cases h
theorem sqB_n {p n : Int} {S : Nat → Nat → Nat} (h : ¬ (1 ≤ n ∧ n ≤ 6)) : sqB p n S = false := by
 unfold sqB; rw [decide_eq_false_iff_not]; exact fun a => h a.2.2
theorem sqB_yes {p n : Int} {S : Nat → Nat → Nat} (h : ∀ i, i < 6 → sc p n S i) (hp : okP p = true) (hn : 1 ≤ n ∧ n ≤ 6) : sqB p n S = true := by
 unfold sqB; simp only [decide_eq_true_eq]; exact ⟨h, hp, hn⟩
attribute [irreducible] vB sqB
set_option maxRecDepth 100000 in
set_option maxHeartbeats 1600000 in
theorem l05Row_any (p n : Int) (u : Nat → Nat) (hu : byte u) (w : World) :
 Calls Try.prog 120 #[.int .i64 p, .int .i64 n, .agg (zb 6 u)] w fun e w' => e = .returned (.bool (vB p n u)) ∧ Below w.heap.size w w' := by
 go_enter Try.func120, Try.ntmps120
 go_upto_region 1 with (fail)
 obtain ⟨W1, hwo⟩ : ∃ v : World, v = (w.alloc (.cells (zb 6 (u)) 64)) := ⟨_, rfl⟩
 have B0 : Blk W1 (w.heap.size) 6 64 (u) := by subst hwo; have := (Blk.new w 6 64 (u)); simpa using this
 have hb : Below w.heap.size w W1 := by subst hwo; exact ((Below.refl _ _).alloc (Nat.le_refl _) _)
 rw [← hwo]
 clear hwo
 go_wp2_with fail
 go_loopw [7] (fun c wr => ∃ i : Nat, c = .int .i64 (i : Int) ∧ i ≤ 6 ∧ Hid (∀ j, j < i → vc p n u j) ∧ Below w.heap.size w wr ∧ Blk wr (w.heap.size) 6 64 u) (fun c _ => 6 - (intOf c).toNat)
 case atStart => exact ⟨0, rfl, by omega, Lib.hid (fun j hj => absurd hj (Nat.not_lt_zero j)), hb, B0⟩
 case round =>
  clear hb B0
  obtain ⟨i, rfl, hi6, hA, hb, B0⟩ := hrel
  by_cases hi : i < 6
  · have hiI : (i : Int) < 6 := by omega
    have hbv := byteOk u hu i
    have cc := B0.cell hi
    by_cases h1 : (u i : Int) < p
    · have h1n : ¬ ((u i : Int) ≥ p) := by omega
      by_cases h2 : (i : Int) < n
      · have h2n : ¬ ((i : Int) ≥ n) := by omega
        have HC := Lib.hid (show vc p n u i from ⟨h1, .inl h2⟩)
        go_wp2_with fail
        go_roundw
        case rel => exact ⟨i + 1, by go_num, by omega, Lib.hid (fun j hj => by
         by_cases e : j = i
         · subst e; exact HC.out
         · exact hA.out j (by omega)), hb, B0⟩
        case measure => simp [intOf] <;> omega
      · have h2n : (i : Int) ≥ n := by omega
        by_cases h3 : u i = 0
        · have h3n : ((u i : Int) != 0) = false := by simp [h3]
          have HC := Lib.hid (show vc p n u i from ⟨h1, .inr h3⟩)
          clear h3
          go_wp2_with fail
          go_roundw
          case rel => exact ⟨i + 1, by go_num, by omega, Lib.hid (fun j hj => by
           by_cases e : j = i
           · subst e; exact HC.out
           · exact hA.out j (by omega)), hb, B0⟩
          case measure => simp [intOf] <;> omega
        · have h3n : ((u i : Int) != 0) = true := by simp; omega
          have HC := Lib.hid (show ¬ vc p n u i from fun a => by rcases a.2 with a | a <;> omega)
          clear h3
          have HV := Lib.hid (vB_no hi HC.out)
          clear hA HC
          go_wp2_with fail
          go_ret
          exact ⟨by rw [HV.out]; rfl, hb⟩
    · have h1n : (u i : Int) ≥ p := by omega
      have HC := Lib.hid (show ¬ vc p n u i from fun a => by have := a.1; omega)
      have HV := Lib.hid (vB_no hi HC.out)
      clear hA HC
      go_wp2_with fail
      go_ret
      exact ⟨by rw [HV.out]; rfl, hb⟩
  · have hiI : ¬ (i : Int) < 6 := by omega
    have HV := Lib.hid (vB_yes (p := p) (n := n) (v := u) (fun j hj => hA.out j (by omega)))
    clear hA
    go_wp2_with fail
    go_ret
    exact ⟨by rw [HV.out]; rfl, hb⟩
set_option maxRecDepth 100000 in
set_option maxHeartbeats 1600000 in
theorem isVector_any (p n : Int) (u : Nat → Nat) (hu : byte u) (w : World) :
 Calls Try.prog 125 #[.int .i64 p, .int .i64 n, .agg (zb 6 u)] w fun e w' => e = .returned (.bool (vB p n u)) ∧ Below w.heap.size w w' := by
 go_enter Try.func125, Try.ntmps125
 go_upto_region 1 with (fail)
 obtain ⟨W1, hwo⟩ : ∃ v : World, v = (w.alloc (.cells (zb 6 (u)) 64)) := ⟨_, rfl⟩
 have B0 : Blk W1 (w.heap.size) 6 64 (u) := by subst hwo; have := (Blk.new w 6 64 (u)); simpa using this
 have hb : Below w.heap.size w W1 := by subst hwo; exact ((Below.refl _ _).alloc (Nat.le_refl _) _)
 rw [← hwo]
 clear hwo
 go_upto_region 99 with (first | (refine zla (.tmp 5) B0 Try.underlying64 Try.size64 ?_))
 go_loopw [10] (fun c wr => ∃ i : Nat, c = .int .i64 (i : Int) ∧ i ≤ 6 ∧ Hid (∀ j, j < i → vc p n u j) ∧ Below w.heap.size w wr ∧ Blk wr (w.heap.size) 6 64 u) (fun c _ => 6 - (intOf c).toNat)
 case atStart => exact ⟨0, rfl, by omega, Lib.hid (fun j hj => absurd hj (Nat.not_lt_zero j)), hb, B0⟩
 case round =>
  clear hb B0
  obtain ⟨i, rfl, hi6, hA, hb, B0⟩ := hrel
  by_cases hi : i < 6
  · have hiI : (i : Int) < 6 := by omega
    have hbv := byteOk u hu i
    have hx := fun W => run_index_blk (P := Try.prog) 64 5 6 u .i64 i Try.underlying64 Try.underlying5 Try.size5 hi W
    by_cases h1 : (u i : Int) < p
    · have h1n : ¬ ((u i : Int) ≥ p) := by omega
      by_cases h2 : (i : Int) < n
      · have h2n : ¬ ((i : Int) ≥ n) := by omega
        have HC := Lib.hid (show vc p n u i from ⟨h1, .inl h2⟩)
        go_wp2_with fail
        go_roundw
        case rel => exact ⟨i + 1, by go_num, by omega, Lib.hid (fun j hj => by
         by_cases e : j = i
         · subst e; exact HC.out
         · exact hA.out j (by omega)), hb, B0⟩
        case measure => simp [intOf] <;> omega
      · have h2n : (i : Int) ≥ n := by omega
        by_cases h3 : u i = 0
        · have h3n : ((u i : Int) != 0) = false := by simp [h3]
          have HC := Lib.hid (show vc p n u i from ⟨h1, .inr h3⟩)
          clear h3
          go_wp2_with fail
          go_roundw
          case rel => exact ⟨i + 1, by go_num, by omega, Lib.hid (fun j hj => by
           by_cases e : j = i
           · subst e; exact HC.out
           · exact hA.out j (by omega)), hb, B0⟩
          case measure => simp [intOf] <;> omega
        · have h3n : ((u i : Int) != 0) = true := by simp; omega
          have HC := Lib.hid (show ¬ vc p n u i from fun a => by rcases a.2 with a | a <;> omega)
          clear h3
          have HV := Lib.hid (vB_no hi HC.out)
          clear hA HC
          go_wp2_with fail
          go_ret
          exact ⟨by rw [HV.out]; rfl, hb⟩
    · have h1n : (u i : Int) ≥ p := by omega
      have HC := Lib.hid (show ¬ vc p n u i from fun a => by have := a.1; omega)
      have HV := Lib.hid (vB_no hi HC.out)
      clear hA HC
      go_wp2_with fail
      go_ret
      exact ⟨by rw [HV.out]; rfl, hb⟩
  · have hiI : ¬ (i : Int) < 6 := by omega
    have HV := Lib.hid (vB_yes (p := p) (n := n) (v := u) (fun j hj => hA.out j (by omega)))
    clear hA
    go_wp2_with fail
    go_ret
    exact ⟨by rw [HV.out]; rfl, hb⟩
set_option maxRecDepth 100000 in
set_option maxHeartbeats 1600000 in
theorem toSquare_any (F : Nat → Nat → Nat) (hF : ∀ i, byte (F i)) (w : World) : Calls Try.prog 58 #[.agg (zb 36 (fl 6 F))] w fun e w' => e = .returned (.agg (zb 36 (fl 6 F))) ∧ Below w.heap.size w w' := by
 have HTP := Lib.hid (fun i W => toRow_any (F i) (hF i) W)
 have HU := Lib.hid (fun j (G : Nat → Nat → Nat) (hG : ∀ i, i < j → G i = F i) => show ∀ i, i < j + 1 → updR G j (F j) i = F i from fun i hi => by
  by_cases e : i = j
  · subst e; exact updR_same _ _ _
  · rw [updR_other e]; exact hG i (by omega))
 have HV := Lib.hid (fun (G : Nat → Nat → Nat) (hG : ∀ i, i < 6 → G i = F i) => zbc (n := 36) (fl_congr (n := 6) (c := 6) (F := G) (G := F) (by decide) (fun i hi j _ => by rw [hG i hi])))
 go_enter Try.func58, Try.ntmps58
 go_upto_region 1 with (fail)
 rw [← zero36]
 obtain ⟨W1, hwo⟩ : ∃ v : World, v = ((w.alloc (.cells (zb 36 (fl 6 F)) 70)).alloc (.cells (zb 36 (fl 6 (fun _ _ => 0))) 66)) := ⟨_, rfl⟩
 have B0 : Blk W1 (w.heap.size) 36 70 (fl 6 F) := by subst hwo; have := ((Blk.new w 36 70 (fl 6 F)).alloc (.cells (zb 36 (fl 6 (fun _ _ => 0))) 66)); simpa using this
 have B1 : Blk W1 (w.heap.size + 1) 36 66 (fl 6 (fun _ _ => 0)) := by subst hwo; have := (Blk.new (w.alloc (.cells (zb 36 (fl 6 F)) 70)) 36 66 (fl 6 (fun _ _ => 0))); simpa using this
 have hb : Below w.heap.size w W1 := by subst hwo; exact (((Below.refl _ _).alloc (Nat.le_refl _) _).alloc (by simp) _)
 rw [← hwo]
 clear hwo
 go_upto_region 2 with (first | rw [← z64] | rw [← zero36])
 have lt_B0 := B0.lt
 have lt_B1 := B1.lt
 have lhb := hb.size
 obtain ⟨W2, hwo, hzQ⟩ : ∃ v : World, v = (W1.alloc (.cells (zb 36 (fl 6 (fun _ _ => 0))) 66)) ∧ Blk v (w.heap.size) 36 70 (fl 6 F) ∧ Blk v (w.heap.size + 1) 36 66 (fl 6 (fun _ _ => 0)) ∧ Blk v (W1.heap.size) 36 66 (fl 6 (fun _ _ => 0)) ∧ Below w.heap.size w v := ⟨_, rfl, (B0.alloc (.cells (zb 36 (fl 6 (fun _ _ => 0))) 66)), (B1.alloc (.cells (zb 36 (fl 6 (fun _ _ => 0))) 66)), (Blk.new W1 36 66 (fl 6 (fun _ _ => 0))), (hb.alloc (by have := hb.size; simp; omega) (.cells (zb 36 (fl 6 (fun _ _ => 0))) 66))⟩
 rw [← hwo]
 clear hwo B0 B1 hb
 obtain ⟨B0, B1, B2, hb⟩ := hzQ
 obtain ⟨N1, hNN⟩ : ∃ n : Nat, n = W1.heap.size := ⟨_, rfl⟩
 rw [← hNN] at lt_B0 lt_B1 lhb B2 ⊢
 clear hNN
 have zN1_0 := lt_B0
 have zN1_1 := lt_B1
 have zN1 := lhb
 clear lt_B0 lt_B1 lhb
 try simp only [Act.put, pA, pB, pC]
 go_wp2_with fail
 go_loopw [4] (fun c wr => ∃ (j : Nat) (G : Nat → Nat → Nat), c = .int .i64 (j : Int) ∧ j ≤ 6 ∧ Hid (∀ i, i < j → G i = F i) ∧ Below w.heap.size w wr ∧ Blk wr (w.heap.size) 36 70 (fl 6 F) ∧ Blk wr (w.heap.size + 1) 36 66 (fl 6 (fun _ _ => 0)) ∧ Blk wr (N1) 36 66 (fl 6 G)) (fun c _ => 6 - (intOf c).toNat)
 case atStart => exact ⟨0, _, rfl, by omega, Lib.hid (fun i hi => absurd hi (Nat.not_lt_zero i)), hb, B0, B1, B2⟩
 case round =>
  clear hb B0 B1 B2
  obtain ⟨j, G, rfl, hj6, hG, hb, B0, B1, B2⟩ := hrel
  by_cases hj : j < 6
  · have hjI : (j : Int) < 6 := by omega
    have HT := Lib.hid (HTP.out j)
    have HG2 := Lib.hid (HU.out j G hG.out)
    go_upto_region 5 with (fail)
    have lt_B0 := B0.lt
    have lt_B1 := B1.lt
    have lt_B2 := B2.lt
    go_wp2_with (first | rw [← z64] | rw [← zero6] | (refine wpList_load_mid rfl 63 (.tmp 11) rfl _ (j * 6) rfl (bl 6 (F j)) _ ((B0).sq (by omega)) Try.underlying63 rfl (by rw [zl]; exact Try.size63) ?_) | (go_at_call 59; refine (HT.out _).mono ?_; rintro e W3 ⟨rfl, hW3⟩; replace B0 := B0.zw hW3; replace B1 := B1.zw hW3; replace B2 := B2.zw hW3; replace hb := (hb).trans (hW3.mono (hb).size)) | (refine wpList_store_sq rfl 64 (.tmp 14) (.tmp 13) rfl _ (j) (F j) rfl rfl 66 _ (B2) (by omega) Try.size64 ?_; try simp only [Act.put]))
    obtain ⟨W4, hwo, hzQ⟩ : ∃ v : World, v = (W3.setRow (N1) (zb 36 (fl 6 (updR G j (F j))))) ∧ Blk v (w.heap.size) 36 70 (fl 6 F) ∧ Blk v (w.heap.size + 1) 36 66 (fl 6 (fun _ _ => 0)) ∧ Blk v (N1) 36 66 (fl 6 (updR G j (F j))) ∧ Below w.heap.size w v := ⟨_, rfl, (B0.rowOther (by omega)), (B1.rowOther (by omega)), (B2.row (fl 6 (updR G j (F j)))), (zr hb (by omega) _)⟩
    rw [← hwo]
    clear hwo B0 B1 B2 hb
    obtain ⟨B0, B1, B2, hb⟩ := hzQ
    try simp only [Act.put, pA, pB, pC]
    go_roundw
    case rel => exact ⟨j + 1, _, by go_num, by omega, HG2, hb, B0, B1, B2⟩
    case measure => simp [intOf] <;> omega
  · have hjI : ¬ (j : Int) < 6 := by omega
    obtain rfl : j = 6 := by omega
    have HE := Lib.hid (HV.out G hG.out)
    go_upto_region 6 with (fail)
    have lt_B0 := B0.lt
    have lt_B1 := B1.lt
    have lt_B2 := B2.lt
    go_wp2_with (first | rw [← z64] | rw [← zero36] | (refine zla (.tmp 3) B2 Try.underlying66 Try.size66 ?_) | (refine zsr (.tmp 2) (.tmp 15) (fl 6 G) B1 Try.size66 ?_; try simp only [Act.put]))
    obtain ⟨W3, hwo, hzQ⟩ : ∃ v : World, v = (wr.setRow (w.heap.size + 1) (zb 36 (fl 6 G))) ∧ Blk v (w.heap.size) 36 70 (fl 6 F) ∧ Blk v (w.heap.size + 1) 36 66 (fl 6 G) ∧ Blk v (N1) 36 66 (fl 6 G) ∧ Below w.heap.size w v := ⟨_, rfl, (B0.rowOther (by omega)), (B1.row (fl 6 G)), (B2.rowOther (by omega)), (zr hb (by omega) _)⟩
    rw [← hwo]
    clear hwo B0 B1 B2 hb
    obtain ⟨B0, B1, B2, hb⟩ := hzQ
    try simp only [Act.put, pA, pB, pC]
    refine bodyPost_ret (results_any rfl _ _ _ 36 _ _ rfl B1 _ Try.underlying66 rfl Try.size66) rfl ⟨by rw [HE.out], hb⟩
set_option maxRecDepth 100000 in
set_option maxHeartbeats 1600000 in
theorem l05Is_any (p n : Int) (S : Nat → Nat → Nat) (hS : ∀ i, byte (S i)) (w : World) :
 Calls Try.prog 119 #[.int .i64 p, .int .i64 n, .agg (zb 36 (fl 6 S))] w fun e w' => e = .returned (.bool (sqB p n S)) ∧ Below w.heap.size w w' := by
 have HVC := Lib.hid (fun i W => l05Row_any p n (S i) (hS i) W)
 go_enter Try.func119, Try.ntmps119
 go_upto_region 1 with (fail)
 obtain ⟨W1, hwo⟩ : ∃ v : World, v = (w.alloc (.cells (zb 36 (fl 6 S)) 66)) := ⟨_, rfl⟩
 have B0 : Blk W1 (w.heap.size) 36 66 (fl 6 S) := by subst hwo; have := (Blk.new w 36 66 (fl 6 S)); simpa using this
 have hb : Below w.heap.size w W1 := by subst hwo; exact ((Below.refl _ _).alloc (Nat.le_refl _) _)
 rw [← hwo]
 clear hwo
 go_wp2_with fail
 go_loopw [7] (fun c wr => ∃ i : Nat, c = .int .i64 (i : Int) ∧ i ≤ 6 ∧ Hid (∀ j, j < i → sc p n S j) ∧ Below w.heap.size w wr ∧ Blk wr (w.heap.size) 36 66 (fl 6 S)) (fun c _ => 6 - (intOf c).toNat)
 case atStart => exact ⟨0, rfl, by omega, Lib.hid (fun j hj => absurd hj (Nat.not_lt_zero j)), hb, B0⟩
 case round =>
  clear hb B0
  obtain ⟨i, rfl, hi6, hA, hb, B0⟩ := hrel
  by_cases hi : i < 6
  · have hiI : (i : Int) < 6 := by omega
    cases hv : vB p n (S i) with
    | false =>
     have HV := Lib.hid (sqB_no hi (show ¬ sc p n S i from fun a => by rw [a.1] at hv; cases hv))
     go_upto_region 4 with (fail)
     go_wp2_with (first | rw [← zero6] | (refine wpList_load_mid rfl 64 (.tmp 15) rfl _ (i * 6) rfl (bl 6 (S i)) _ ((B0).sq (by omega)) Try.underlying64 rfl (by rw [zl]; exact Try.size64) ?_) | (go_at_call 120; refine (HVC.out i _).mono ?_; rintro e W2 ⟨rfl, hW2⟩; replace B0 := B0.zw hW2; replace hb := (hb).trans (hW2.mono (hb).size); rw [hv]) | (refine wpList_load_mid_g rfl 64 (.tmp 25) rfl _ (i * 6) rfl (bl 6 (S i)) _ ((B0).sq (by omega)) Try.underlying64 rfl (by rw [zl]; exact Try.size64) ?_))
     go_ret
     exact ⟨by rw [HV.out]; rfl, hb⟩
    | true =>
     by_cases h2 : (i : Int) < n
     · have h2n : ¬ ((i : Int) ≥ n) := by omega
       have HC := Lib.hid (show sc p n S i from ⟨hv, .inl h2⟩)
       go_upto_region 4 with (fail)
       go_wp2_with (first | rw [← zero6] | (refine wpList_load_mid rfl 64 (.tmp 15) rfl _ (i * 6) rfl (bl 6 (S i)) _ ((B0).sq (by omega)) Try.underlying64 rfl (by rw [zl]; exact Try.size64) ?_) | (go_at_call 120; refine (HVC.out i _).mono ?_; rintro e W2 ⟨rfl, hW2⟩; replace B0 := B0.zw hW2; replace hb := (hb).trans (hW2.mono (hb).size); rw [hv]) | (refine wpList_load_mid_g rfl 64 (.tmp 25) rfl _ (i * 6) rfl (bl 6 (S i)) _ ((B0).sq (by omega)) Try.underlying64 rfl (by rw [zl]; exact Try.size64) ?_))
       go_roundw
       case rel => exact ⟨i + 1, by go_num, by omega, Lib.hid (fun j hj => by
        by_cases e : j = i
        · subst e; exact HC.out
        · exact hA.out j (by omega)), hb, B0⟩
       case measure => simp [intOf] <;> omega
     · have h2n : (i : Int) ≥ n := by omega
       have hgd := Try.noGuard64
       have heq := fun W => zeb (P := Try.prog) W 9998 64 5 6 (S i) (fun _ => 0) Try.underlying64 Try.underlying5 Try.size5
       cases hz : eqN 6 (S i) (fun _ => 0) with
       | true =>
        rw [hz] at heq
        have HC := Lib.hid (show sc p n S i from ⟨hv, .inr hz⟩)
        clear hz
        go_upto_region 4 with (fail)
        go_wp2_with (first | rw [← zero6] | (refine wpList_load_mid rfl 64 (.tmp 15) rfl _ (i * 6) rfl (bl 6 (S i)) _ ((B0).sq (by omega)) Try.underlying64 rfl (by rw [zl]; exact Try.size64) ?_) | (go_at_call 120; refine (HVC.out i _).mono ?_; rintro e W2 ⟨rfl, hW2⟩; replace B0 := B0.zw hW2; replace hb := (hb).trans (hW2.mono (hb).size); rw [hv]) | (refine wpList_load_mid_g rfl 64 (.tmp 25) rfl _ (i * 6) rfl (bl 6 (S i)) _ ((B0).sq (by omega)) Try.underlying64 rfl (by rw [zl]; exact Try.size64) ?_))
        go_roundw
        case rel => exact ⟨i + 1, by go_num, by omega, Lib.hid (fun j hj => by
         by_cases e : j = i
         · subst e; exact HC.out
         · exact hA.out j (by omega)), hb, B0⟩
        case measure => simp [intOf] <;> omega
       | false =>
        rw [hz] at heq
        have HV := Lib.hid (sqB_no hi (show ¬ sc p n S i from fun a => by
         rcases a.2 with a | a
         · omega
         · rw [hz] at a; cases a))
        clear hz
        go_upto_region 4 with (fail)
        go_wp2_with (first | rw [← zero6] | (refine wpList_load_mid rfl 64 (.tmp 15) rfl _ (i * 6) rfl (bl 6 (S i)) _ ((B0).sq (by omega)) Try.underlying64 rfl (by rw [zl]; exact Try.size64) ?_) | (go_at_call 120; refine (HVC.out i _).mono ?_; rintro e W2 ⟨rfl, hW2⟩; replace B0 := B0.zw hW2; replace hb := (hb).trans (hW2.mono (hb).size); rw [hv]) | (refine wpList_load_mid_g rfl 64 (.tmp 25) rfl _ (i * 6) rfl (bl 6 (S i)) _ ((B0).sq (by omega)) Try.underlying64 rfl (by rw [zl]; exact Try.size64) ?_))
        go_ret
        exact ⟨by rw [HV.out]; rfl, hb⟩
  · have hiI : ¬ (i : Int) < 6 := by omega
    have HA := Lib.hid (show ∀ j, j < 6 → sc p n S j from fun j hj => hA.out j (by omega))
    clear hA
    go_upto_region 6 with (fail)
    cases hp : okP p with
    | false =>
     have HV := Lib.hid (sqB_p (n := n) (S := S) hp)
     go_wp2_with (first | (go_at_call 134; refine (l01Prime_any p _).mono ?_; rintro e wS ⟨rfl, rfl⟩; rw [hp]))
     go_ret
     exact ⟨by rw [HV.out]; rfl, hb⟩
    | true =>
     by_cases hn : 1 ≤ n ∧ n ≤ 6
     · have HV := Lib.hid (sqB_yes HA.out hp hn)
       have HIN := Lib.hid (show ∀ W, Calls Try.prog 85 #[.int .i64 n, .int .i64 1, .int .i64 6] W fun e w' => e = .returned (.bool true) ∧ W = w' from fun W => by have h := l01In_any n 1 6 W; rwa [decide_eq_true hn] at h)
       go_wp2_with (first | (go_at_call 134; refine (l01Prime_any p _).mono ?_; rintro e wS ⟨rfl, rfl⟩; rw [hp]) | (go_at_call 85; refine (HIN.out _).mono ?_; rintro e wS ⟨rfl, rfl⟩))
       go_ret
       exact ⟨by rw [HV.out]; rfl, hb⟩
     · have HV := Lib.hid (sqB_n (p := p) (S := S) hn)
       have HIN := Lib.hid (show ∀ W, Calls Try.prog 85 #[.int .i64 n, .int .i64 1, .int .i64 6] W fun e w' => e = .returned (.bool false) ∧ W = w' from fun W => by have h := l01In_any n 1 6 W; rwa [decide_eq_false hn] at h)
       go_wp2_with (first | (go_at_call 134; refine (l01Prime_any p _).mono ?_; rintro e wS ⟨rfl, rfl⟩; rw [hp]) | (go_at_call 85; refine (HIN.out _).mono ?_; rintro e wS ⟨rfl, rfl⟩))
       go_ret
       exact ⟨by rw [HV.out]; rfl, hb⟩
set_option maxRecDepth 100000 in
set_option maxHeartbeats 1600000 in
theorem impl_IsSquare_any (p n : Int) (S : Nat → Nat → Nat) (hS : ∀ i, byte (S i)) (w : World) :
 Calls Try.prog 170 #[.int .i64 p, .int .i64 n, .agg (zb 36 (fl 6 S))] w fun e w' => e = .returned (.bool (sqB p n S)) ∧ Below w.heap.size w w' := by
 have HVC := Lib.hid (fun i W => isVector_any p n (S i) (hS i) W)
 go_enter Try.func170, Try.ntmps170
 go_upto_region 1 with (fail)
 obtain ⟨W1, hwo⟩ : ∃ v : World, v = (w.alloc (.cells (zb 36 (fl 6 S)) 66)) := ⟨_, rfl⟩
 have B0 : Blk W1 (w.heap.size) 36 66 (fl 6 S) := by subst hwo; have := (Blk.new w 36 66 (fl 6 S)); simpa using this
 have hb : Below w.heap.size w W1 := by subst hwo; exact ((Below.refl _ _).alloc (Nat.le_refl _) _)
 rw [← hwo]
 clear hwo
 cases hp : okP p with
 | false =>
  have HV := Lib.hid (sqB_p (n := n) (S := S) hp)
  go_wp2_with (first | (go_at_call 66; refine (isPrime_any p _).mono ?_; rintro e wS ⟨rfl, rfl⟩; rw [hp]))
  go_ret
  exact ⟨by rw [HV.out]; rfl, hb⟩
 | true =>
  by_cases hn1 : n < 1
  · have HV := Lib.hid (sqB_n (p := p) (S := S) (show ¬ (1 ≤ n ∧ n ≤ 6) by omega))
    go_wp2_with (first | (go_at_call 66; refine (isPrime_any p _).mono ?_; rintro e wS ⟨rfl, rfl⟩; rw [hp]))
    go_ret
    exact ⟨by rw [HV.out]; rfl, hb⟩
  · by_cases hn2 : n > 6
    · have HV := Lib.hid (sqB_n (p := p) (S := S) (show ¬ (1 ≤ n ∧ n ≤ 6) by omega))
      go_wp2_with (first | (go_at_call 66; refine (isPrime_any p _).mono ?_; rintro e wS ⟨rfl, rfl⟩; rw [hp]))
      go_ret
      exact ⟨by rw [HV.out]; rfl, hb⟩
    · have HN := Lib.hid (show 1 ≤ n ∧ n ≤ 6 by omega)
      have HPP := Lib.hid hp
      go_upto_region 3 with (first | (go_at_call 66; refine (isPrime_any p _).mono ?_; rintro e wS ⟨rfl, rfl⟩; rw [hp]))
      go_upto_region 99 with (first | (refine zla (.tmp 5) B0 Try.underlying66 Try.size66 ?_))
      go_loopw [21] (fun c wr => ∃ i : Nat, c = .int .i64 (i : Int) ∧ i ≤ 6 ∧ Hid (∀ j, j < i → sc p n S j) ∧ Below w.heap.size w wr ∧ Blk wr (w.heap.size) 36 66 (fl 6 S)) (fun c _ => 6 - (intOf c).toNat)
      case atStart => exact ⟨0, rfl, by omega, Lib.hid (fun j hj => absurd hj (Nat.not_lt_zero j)), hb, B0⟩
      case round =>
       clear hb B0
       obtain ⟨i, rfl, hi6, hA, hb, B0⟩ := hrel
       by_cases hi : i < 6
       · have hiI : (i : Int) < 6 := by omega
         have hx := fun W => run_index_sq (P := Try.prog) 66 64 S .i64 i (.array 6 5) Try.underlying66 Try.underlying64 rfl Try.size64 hi W
         cases hv : vB p n (S i) with
         | false =>
          have HV := Lib.hid (sqB_no hi (show ¬ sc p n S i from fun a => by rw [a.1] at hv; cases hv))
          go_upto_region 5 with (fail)
          have lt_B0 := B0.lt
          go_upto_region 6 with (first | rw [← z64] | rw [← zero6] | (refine wpList_store_blk rfl 64 (.tmp 8) (.tmp 24) rfl _ 6 (S i) rfl rfl 64 _ ((Blk.new wr 6 64 (fun _ => 0))) Try.size64 ?_; try simp only [Act.put]))
          have lt_B0 := B0.lt
          have lhb := hb.size
          obtain ⟨W2, hwo, hzQ⟩ : ∃ v : World, v = ((wr.alloc (.cells (zb 6 (fun _ => 0)) 64)).setRow (wr.heap.size) (zb 6 (S i))) ∧ Blk v (w.heap.size) 36 66 (fl 6 S) ∧ Blk v (wr.heap.size) 6 64 (S i) ∧ Below w.heap.size w v := ⟨_, rfl, ((B0.alloc (.cells (zb 6 (fun _ => 0)) 64)).rowOther (by omega)), ((Blk.new wr 6 64 (fun _ => 0)).row (S i)), (zr (hb.alloc (by have := hb.size; simp; omega) (.cells (zb 6 (fun _ => 0)) 64)) (by omega) _)⟩
          rw [← hwo]
          clear hwo B0 hb
          obtain ⟨B0, B1, hb⟩ := hzQ
          obtain ⟨N1, hNN⟩ : ∃ n : Nat, n = wr.heap.size := ⟨_, rfl⟩
          rw [← hNN] at lt_B0 lhb B1 ⊢
          clear hNN
          have zN1_0 := lt_B0
          have zN1 := lhb
          clear lt_B0 lhb
          try simp only [Act.put, pA, pB, pC]
          go_wp2_with (first | rw [← zero6] | (refine zla (.tmp 8) B1 Try.underlying64 Try.size64 ?_) | (go_at_call 125; refine (HVC.out i _).mono ?_; rintro e W3 ⟨rfl, hW3⟩; replace B0 := B0.zw hW3; replace B1 := B1.zw hW3; replace hb := (hb).trans (hW3.mono (hb).size); rw [hv]) | (refine zlg rfl 64 (.tmp 8) rfl _ rfl 6 64 _ (B1) _ Try.underlying64 rfl Try.size64 ?_))
          go_ret
          exact ⟨by rw [HV.out]; rfl, hb⟩
         | true =>
          by_cases h2 : (i : Int) < n
          · have h2n : ¬ ((i : Int) ≥ n) := by omega
            have HC := Lib.hid (show sc p n S i from ⟨hv, .inl h2⟩)
            go_upto_region 5 with (fail)
            have lt_B0 := B0.lt
            go_upto_region 6 with (first | rw [← z64] | rw [← zero6] | (refine wpList_store_blk rfl 64 (.tmp 8) (.tmp 24) rfl _ 6 (S i) rfl rfl 64 _ ((Blk.new wr 6 64 (fun _ => 0))) Try.size64 ?_; try simp only [Act.put]))
            have lt_B0 := B0.lt
            have lhb := hb.size
            obtain ⟨W2, hwo, hzQ⟩ : ∃ v : World, v = ((wr.alloc (.cells (zb 6 (fun _ => 0)) 64)).setRow (wr.heap.size) (zb 6 (S i))) ∧ Blk v (w.heap.size) 36 66 (fl 6 S) ∧ Blk v (wr.heap.size) 6 64 (S i) ∧ Below w.heap.size w v := ⟨_, rfl, ((B0.alloc (.cells (zb 6 (fun _ => 0)) 64)).rowOther (by omega)), ((Blk.new wr 6 64 (fun _ => 0)).row (S i)), (zr (hb.alloc (by have := hb.size; simp; omega) (.cells (zb 6 (fun _ => 0)) 64)) (by omega) _)⟩
            rw [← hwo]
            clear hwo B0 hb
            obtain ⟨B0, B1, hb⟩ := hzQ
            obtain ⟨N1, hNN⟩ : ∃ n : Nat, n = wr.heap.size := ⟨_, rfl⟩
            rw [← hNN] at lt_B0 lhb B1 ⊢
            clear hNN
            have zN1_0 := lt_B0
            have zN1 := lhb
            clear lt_B0 lhb
            try simp only [Act.put, pA, pB, pC]
            go_wp2_with (first | rw [← zero6] | (refine zla (.tmp 8) B1 Try.underlying64 Try.size64 ?_) | (go_at_call 125; refine (HVC.out i _).mono ?_; rintro e W3 ⟨rfl, hW3⟩; replace B0 := B0.zw hW3; replace B1 := B1.zw hW3; replace hb := (hb).trans (hW3.mono (hb).size); rw [hv]) | (refine zlg rfl 64 (.tmp 8) rfl _ rfl 6 64 _ (B1) _ Try.underlying64 rfl Try.size64 ?_))
            go_roundw
            case rel => exact ⟨i + 1, by go_num, by omega, Lib.hid (fun j hj => by
             by_cases e : j = i
             · subst e; exact HC.out
             · exact hA.out j (by omega)), hb, B0⟩
            case measure => simp [intOf] <;> omega
          · have h2n : (i : Int) ≥ n := by omega
            have hgd := Try.noGuard64
            have heq := fun W => zeb (P := Try.prog) W 9998 64 5 6 (S i) (fun _ => 0) Try.underlying64 Try.underlying5 Try.size5
            cases hz : eqN 6 (S i) (fun _ => 0) with
            | true =>
             rw [hz] at heq
             have HC := Lib.hid (show sc p n S i from ⟨hv, .inr hz⟩)
             clear hz
             go_upto_region 5 with (fail)
             have lt_B0 := B0.lt
             go_upto_region 6 with (first | rw [← z64] | rw [← zero6] | (refine wpList_store_blk rfl 64 (.tmp 8) (.tmp 24) rfl _ 6 (S i) rfl rfl 64 _ ((Blk.new wr 6 64 (fun _ => 0))) Try.size64 ?_; try simp only [Act.put]))
             have lt_B0 := B0.lt
             have lhb := hb.size
             obtain ⟨W2, hwo, hzQ⟩ : ∃ v : World, v = ((wr.alloc (.cells (zb 6 (fun _ => 0)) 64)).setRow (wr.heap.size) (zb 6 (S i))) ∧ Blk v (w.heap.size) 36 66 (fl 6 S) ∧ Blk v (wr.heap.size) 6 64 (S i) ∧ Below w.heap.size w v := ⟨_, rfl, ((B0.alloc (.cells (zb 6 (fun _ => 0)) 64)).rowOther (by omega)), ((Blk.new wr 6 64 (fun _ => 0)).row (S i)), (zr (hb.alloc (by have := hb.size; simp; omega) (.cells (zb 6 (fun _ => 0)) 64)) (by omega) _)⟩
             rw [← hwo]
             clear hwo B0 hb
             obtain ⟨B0, B1, hb⟩ := hzQ
             obtain ⟨N1, hNN⟩ : ∃ n : Nat, n = wr.heap.size := ⟨_, rfl⟩
             rw [← hNN] at lt_B0 lhb B1 ⊢
             clear hNN
             have zN1_0 := lt_B0
             have zN1 := lhb
             clear lt_B0 lhb
             try simp only [Act.put, pA, pB, pC]
             go_wp2_with (first | rw [← zero6] | (refine zla (.tmp 8) B1 Try.underlying64 Try.size64 ?_) | (go_at_call 125; refine (HVC.out i _).mono ?_; rintro e W3 ⟨rfl, hW3⟩; replace B0 := B0.zw hW3; replace B1 := B1.zw hW3; replace hb := (hb).trans (hW3.mono (hb).size); rw [hv]) | (refine zlg rfl 64 (.tmp 8) rfl _ rfl 6 64 _ (B1) _ Try.underlying64 rfl Try.size64 ?_))
             go_roundw
             case rel => exact ⟨i + 1, by go_num, by omega, Lib.hid (fun j hj => by
              by_cases e : j = i
              · subst e; exact HC.out
              · exact hA.out j (by omega)), hb, B0⟩
             case measure => simp [intOf] <;> omega
            | false =>
             rw [hz] at heq
             have HV := Lib.hid (sqB_no hi (show ¬ sc p n S i from fun a => by
              rcases a.2 with a | a
              · omega
              · rw [hz] at a; cases a))
             clear hz
             go_upto_region 5 with (fail)
             have lt_B0 := B0.lt
             go_upto_region 6 with (first | rw [← z64] | rw [← zero6] | (refine wpList_store_blk rfl 64 (.tmp 8) (.tmp 24) rfl _ 6 (S i) rfl rfl 64 _ ((Blk.new wr 6 64 (fun _ => 0))) Try.size64 ?_; try simp only [Act.put]))
             have lt_B0 := B0.lt
             have lhb := hb.size
             obtain ⟨W2, hwo, hzQ⟩ : ∃ v : World, v = ((wr.alloc (.cells (zb 6 (fun _ => 0)) 64)).setRow (wr.heap.size) (zb 6 (S i))) ∧ Blk v (w.heap.size) 36 66 (fl 6 S) ∧ Blk v (wr.heap.size) 6 64 (S i) ∧ Below w.heap.size w v := ⟨_, rfl, ((B0.alloc (.cells (zb 6 (fun _ => 0)) 64)).rowOther (by omega)), ((Blk.new wr 6 64 (fun _ => 0)).row (S i)), (zr (hb.alloc (by have := hb.size; simp; omega) (.cells (zb 6 (fun _ => 0)) 64)) (by omega) _)⟩
             rw [← hwo]
             clear hwo B0 hb
             obtain ⟨B0, B1, hb⟩ := hzQ
             obtain ⟨N1, hNN⟩ : ∃ n : Nat, n = wr.heap.size := ⟨_, rfl⟩
             rw [← hNN] at lt_B0 lhb B1 ⊢
             clear hNN
             have zN1_0 := lt_B0
             have zN1 := lhb
             clear lt_B0 lhb
             try simp only [Act.put, pA, pB, pC]
             go_wp2_with (first | rw [← zero6] | (refine zla (.tmp 8) B1 Try.underlying64 Try.size64 ?_) | (go_at_call 125; refine (HVC.out i _).mono ?_; rintro e W3 ⟨rfl, hW3⟩; replace B0 := B0.zw hW3; replace B1 := B1.zw hW3; replace hb := (hb).trans (hW3.mono (hb).size); rw [hv]) | (refine zlg rfl 64 (.tmp 8) rfl _ rfl 6 64 _ (B1) _ Try.underlying64 rfl Try.size64 ?_))
             go_ret
             exact ⟨by rw [HV.out]; rfl, hb⟩
       · have hiI : ¬ (i : Int) < 6 := by omega
         have HA := Lib.hid (show ∀ j, j < 6 → sc p n S j from fun j hj => hA.out j (by omega))
         clear hA
         have HV := Lib.hid (sqB_yes HA.out HPP.out HN.out)
         go_wp2_with fail
         go_ret
         exact ⟨by rw [HV.out]; rfl, hb⟩
end Go.Proofs.Ytobcdekochenfaa
end
section
namespace Go.Proofs.Ytobcdekochenfaa
open Go Go.RowKit
set_option linter.unusedVariables false
set_option linter.unusedSimpArgs false
theorem wp_load_rowv {P : Program} {o : Oper} {a : Act} {w : World} {K : Act → World → Prop} {Q : Exit → Act → World → Prop} (ty : TypeId) (x : Operand) (ho : o.op = .load ty x)
 (b : Nat) (hx : a.eval x = .pointer (some ⟨b, 0, none⟩)) (t : TypeId) (cs : Array Value) (hb : Row w b t cs) (d : TypeDesc)
 (hu : P.underlying ty = some d) (hd : (match d with | .struct _ | .array _ _ => true | _ => false) = true) (n : Nat) (hi : (P.info? ty).map (·.size) = some n) (hn : cs.size = n) (h : K (a.put o.dst (.agg cs)) w) : o.wp P a w K Q := by
 have hb' : w.heap[b]? = some (.cells cs t (0, 0)) := by unfold Row at hb; exact hb
 exact wp_load_row ty x ho b hx t _ (0, 0) d hb' hu hd (by rw [hi, hn]) h
attribute [local irreducible] deg invN dS qS stp quoP resP
end Go.Proofs.Ytobcdekochenfaa
end
section
namespace Go.Proofs.Ytobcdekochenfaa
open Go Go.RowKit
set_option linter.unusedVariables false
set_option linter.unusedSimpArgs false
theorem results_bc {P : Program} {fn : Func} {p q : Tmp} {ty ty2 : TypeId} (h : fn.results = #[.cell p ty, .cell q ty2]) (tmps : Array Value) (w : World) (b n : Nat) (t e : TypeId) (f : Nat → Nat) (b2 : Nat) (t2 : TypeId) (v : Value)
 (hp : tmps.getD p undef = .pointer (some ⟨b, 0, none⟩)) (hb : Blk w b n t f) (hu : P.underlying ty = some (.array n e)) (hi : (P.info? ty).map (·.size) = some n)
 (hq : tmps.getD q undef = .pointer (some ⟨b2, 0, none⟩)) (hb2 : One w b2 t2 v) (k : IntKind) (hu2 : P.underlying ty2 = some (.int k)) :
 (results fn tmps).run P w = .ok (.tuple #[.agg (zb n f), v]) w := by
 have hp' : tmps[p]?.getD undef = .pointer (some ⟨b, 0, none⟩) := by simpa using hp
 have hq' : tmps[q]?.getD undef = .pointer (some ⟨b2, 0, none⟩) := by simpa using hq
 have hc := hb2.cell
 have hagg : (isAgg ty2).run P w = .ok false w := by
  unfold isAgg
  rw [Sem.run_bind, run_underlying hu2 w]
  rfl
 have hl : (loadVar ty2 ⟨b2, 0, none⟩).run P w = .ok v w := by
  simp [loadVar, Sem.run_bind, hagg, go_sem, hc]
 simp [results, h, hp', hq', asAddr, run_loadVar_blk w b n t ty e f hb hu hi, hl]
theorem One.setc {w : World} {b : Nat} {t : TypeId} {v x : Value} (h : One w b t v) : One (w.setCell ⟨b, 0, none⟩ x) b t x := by
 unfold One at *
 rw [heap_setCell_same _ _ _ _ _ _ h]; rfl
end Go.Proofs.Ytobcdekochenfaa
end
section
namespace Go.Proofs.Ytobcdekochenfaa
set_option linter.unusedVariables false
set_option linter.unusedSimpArgs false
/-- the same modulo p -/
def em (p a b : Int) : Prop := p ∣ a - b
/-- products over a list -/
def pl (l : List Nat) (f : Nat → Int) : Int := l.foldr (fun x a => f x * a) 1
/-- the leading place and coefficient -/
def ldc (p : Int) (f : Nat → Int) (n : Nat) (c : Int) : Prop := (∀ k, n < k → p ∣ f k) ∧ ¬ p ∣ c ∧ em p (f n) c
open Classical in
/-- the leading coefficient, 1 of nothing -/
noncomputable def lc (p : Int) (f : Nat → Int) : Int := if h : ∃ c, ∃ n, ldc p f n c then h.choose else 1
end Go.Proofs.Ytobcdekochenfaa
end
section
namespace Go.Proofs.Ytobcdekochenfaa
set_option linter.unusedVariables false
set_option linter.unusedSimpArgs false
/-- the digits of a number -/
def dg (p N : Nat) : Nat → Int := fun k => (ofN p N k : Int)
/-- the monic ones of lesser degrees -/
def ML (p : Nat) : Nat → List Nat
 | 0 => []
 | d + 1 => ML p d ++ monL p d
open Classical in
/-- the rest -/
noncomputable def rst (p d : Nat) (m f : Nat → Int) : Nat → Int := if h : ∃ g : Nat → Int, (∀ k, 0 ≤ g k ∧ g k < p) ∧ (∀ k, d ≤ k → g k = 0) ∧ rm p m f g then h.choose else zS
open Classical in
/-- the product of the leading coefficients -/
noncomputable def gs (p d : Nat) (m a : Nat → Int) : Int := pl (ML p d) fun N => lc p (rst p d m (mz a (dg p N)))
end Go.Proofs.Ytobcdekochenfaa
end
section
namespace Go.Proofs.Ytobcdekochenfaa
open Go Go.RowKit
set_option linter.unusedVariables false
set_option linter.unusedSimpArgs false
set_option maxRecDepth 100000 in
set_option maxHeartbeats 1600000 in
theorem eqRow_same (f g : Nat → Nat) (hfg : ∀ i, i < 6 → f i = g i) (w : World) : Calls Try.prog 61 #[.agg (zb 6 f), .agg (zb 6 g)] w fun e w' => e = .returned (.bool true) ∧ Below w.heap.size w w' := by
 rw [zbc (fun i hi => (hfg i hi).symm)]
 go_enter Try.func61, Try.ntmps61
 go_wp2_with fail
 clear hfg
 go_loopw [5] (fun i wr => ∃ k : Nat, k ≤ 6 ∧ i = .int .i64 (k : Int) ∧ Below w.heap.size w wr ∧ Blk wr w.heap.size 6 64 f ∧ Blk wr (w.heap.size + 1) 6 64 f) (fun i _ => 6 - (intOf i).toNat)
 case atStart =>
  refine ⟨0, by omega, rfl, ((Below.refl _ _).alloc (Nat.le_refl _) _).alloc (by simp) _, (Blk.new w _ _ _).alloc _, ?_⟩
  have := Blk.new (w.alloc (.cells (zb 6 f) 64)) 6 64 f; simpa using this
 case round =>
  obtain ⟨k, hk, rfl, hb, h0, h1⟩ := hrel
  by_cases hlt : k < 6
  · have c4 := h0.cell hlt
    have c5 := h1.cell hlt
    have hk0 : (0 : Int) ≤ (k : Int) := by omega
    have hk1 : (k : Int) < 6 := by omega
    have hne : ((f k : Int) != (f k : Int)) = false := by simp
    go_wp2_with fail
    go_quiet (fail)
    go_wp2_with fail
    go_roundw
    case rel => exact ⟨k + 1, by omega, by go_num, below_drewN' hb _, h0.drewN _, h1.drewN _⟩
    case measure => simp [intOf]; omega
  · go_wp2_with fail
    go_ret
    exact ⟨rfl, hb⟩

set_option maxRecDepth 100000 in
set_option maxHeartbeats 1600000 in
theorem rowOfPoly_any (f : Nat → Nat) (w : World) : Calls Try.prog 126 #[.agg (zb 64 f)] w fun e w' => e = .returned (.agg (zb 6 f)) ∧ Below w.heap.size w w' := by
 have hsl : ∀ (b : Nat) (w : World), (Instr.sliceAt 23 (.pointer (some ⟨b, 0, none⟩)) none (some (.int .i64 6)) none).run Try.prog w = .ok (.slice (some ⟨b, 0, none⟩) 6 64) w := fun b w => by
  have hs := Try.size5
  simp only [Instr.sliceAt, Sem.run_bind, run_underlying Try.underlying23 w]
  simp [Instr.sliceBounds, Instr.sliceBound, Instr.sureAddr, asIntOf, sizeOf, typeInfo, Sem.run_bind, go_sem]
  cases hq : Try.prog.info? 5 with
  | none => rw [hq] at hs; cases hs
  | some i => rfl
 have har : ∀ (b : Nat) (w : World), (Instr.arrayAt 64 (.slice (some ⟨b, 0, none⟩) 6 64)).run Try.prog w = .ok (.pointer (some ⟨b, 0, none⟩)) w := fun b w => by
  simp [Instr.arrayAt, Sem.run_bind, run_underlying Try.underlying64 w]
 go_enter Try.func126, Try.ntmps126
 go_upto_region 1 with (fail)
 rw [← zero6]
 obtain ⟨W1, hwo⟩ : ∃ v : World, v = ((w.alloc (.cells (zb 64 (f)) 23)).alloc (.cells (zb 6 (fun _ => 0)) 64)) := ⟨_, rfl⟩
 have B0 : Blk W1 (w.heap.size) 64 23 (f) := by subst hwo; have := ((Blk.new w 64 23 (f)).alloc (.cells (zb 6 (fun _ => 0)) 64)); simpa using this
 have B1 : Blk W1 (w.heap.size + 1) 6 64 (fun _ => 0) := by subst hwo; have := (Blk.new (w.alloc (.cells (zb 64 (f)) 23)) 6 64 (fun _ => 0)); simpa using this
 have hb : Below w.heap.size w W1 := by subst hwo; exact (((Below.refl _ _).alloc (Nat.le_refl _) _).alloc (by simp) _)
 rw [← hwo]
 clear hwo
 have lt_B0 := B0.lt
 have lt_B1 := B1.lt
 go_wp2_with (first | rw [← z64] | rw [← zero6] | (refine wpList_load_mid rfl 64 (.tmp 4) rfl _ 0 rfl (bl 6 (f)) _ ((B0).mid (by omega) (fun k _ => by rw [Nat.zero_add])) Try.underlying64 rfl (by rw [zl]; exact Try.size64) ?_) | (refine zsr (.tmp 2) (.tmp 5) (f) B1 Try.size64 ?_; try simp only [Act.put]))
 obtain ⟨W2, hwo, hzQ⟩ : ∃ v : World, v = (W1.setRow (w.heap.size + 1) (zb 6 (f))) ∧ Blk v (w.heap.size) 64 23 (f) ∧ Blk v (w.heap.size + 1) 6 64 (f) ∧ Below w.heap.size w v := ⟨_, rfl, (B0.rowOther (by omega)), (B1.row (f)), (zr hb (by omega) _)⟩
 rw [← hwo]
 clear hwo B0 B1 hb
 obtain ⟨B0, B1, hb⟩ := hzQ
 try simp only [Act.put, pA, pB, pC]
 refine bodyPost_ret (results_any rfl _ _ _ 6 _ _ rfl B1 _ Try.underlying64 rfl Try.size64) rfl ⟨rfl, hb⟩
attribute [local irreducible] deg resP
set_option maxRecDepth 100000 in
set_option maxHeartbeats 1600000 in
theorem refuseUnless_ok (w : World) : Calls Try.prog 112 #[.bool true] w fun e w' => e = .returned (.tuple #[]) ∧ w = w' := by
 go_enter Try.func112, Try.ntmps112
 go_wp2_with fail
 first | exact bodyPost_end0 rfl rfl ⟨rfl, rfl⟩ | exact bodyPost_end (results_none rfl _ _ _) rfl ⟨rfl, rfl⟩
set_option maxRecDepth 100000 in
set_option maxHeartbeats 1600000 in
theorem refuseUnless_no (w : World) : Calls Try.prog 112 #[.bool false] w fun e w' => e = .panicked [{ v := .iface 174 (.int .i64 1), recovered := false }] ∧ w = w' := by
 go_enter Try.func112, Try.ntmps112
 go_wp2_with fail
 exact ⟨rfl, rfl, rfl⟩
attribute [local irreducible] okA
end Go.Proofs.Ytobcdekochenfaa
end
section
namespace Go.Proofs.Ytobcdekochenfaa
open Go Go.RowKit
set_option linter.unusedVariables false
section
variable {P : Program}
theorem wp_load_rowc {o : Oper} {a : Act} {w : World} {K : Act → World → Prop} {Q : Exit → Act → World → Prop} (ty : TypeId) (x : Operand) (ho : o.op = .load ty x)
 (b i : Nat) (hx : a.eval x = .pointer (some ⟨b, i, none⟩)) (t : TypeId) (cs : Array Value) (hb : Row w b t cs) (v : Value) (hi : cs[i]? = some v) (d : TypeDesc)
 (hu : P.underlying ty = some d) (hd : (match d with | .struct _ | .array _ _ => true | _ => false) = false) (h : K (a.put o.dst v) w) : o.wp P a w K Q := by
 have hc := hb.cell hi
 have hagg : (isAgg ty).run P w = .ok false w := by
  unfold isAgg
  rw [Sem.run_bind, run_underlying hu w]
  cases d <;> simp_all
 unfold Oper.wp execOp
 simp only [ho, hx, Instr.loadAt, Instr.sureAddr, Sem.run_bind, Sem.run_pure, Result.andThen_ok, loadVar, hagg, Bool.false_eq_true, if_false, Sem.run_ite, run_load, hc]
 exact h
theorem wpList_load_rowc {ops : Array Oper} {rest : List Oper} {o : Oper} {a : Act} {w : World} {Q : Exit → Act → World → Prop} (hgd : o.guard = none) (ty : TypeId) (x : Operand) (ho : o.op = .load ty x)
 (b i : Nat) (hx : a.eval x = .pointer (some ⟨b, i, none⟩)) (t : TypeId) (cs : Array Value) (hb : Row w b t cs) (v : Value) (hi : cs[i]? = some v) (d : TypeDesc)
 (hu : P.underlying ty = some d) (hd : (match d with | .struct _ | .array _ _ => true | _ => false) = false) (h : wpList P ops Q rest (a.put o.dst v) w) : wpList P ops Q (o :: rest) a w :=
 wpList_plain hgd fun _ hK => wp_load_rowc ty x ho b i hx t cs hb v hi d hu hd (hK _ _ h)
end
section
variable {P : Program}
theorem results_row {fn : Func} {p : Tmp} {ty : TypeId} (h : fn.results = #[.cell p ty]) (tmps : Array Value) (w : World) (b : Nat) (t : TypeId) (cs : Array Value)
 (hp : tmps.getD p undef = .pointer (some ⟨b, 0, none⟩)) (hb : Row w b t cs) (d : TypeDesc) (hu : P.underlying ty = some d) (hd : (match d with | .struct _ | .array _ _ => true | _ => false) = true) (hi : (P.info? ty).map (·.size) = some cs.size) :
 (results fn tmps).run P w = .ok (.agg cs) w := by
 have hp' : tmps[p]?.getD undef = .pointer (some ⟨b, 0, none⟩) := by simpa using hp
 have hb' : w.heap[b]? = some (.cells cs t (0, 0)) := by unfold Row at hb; exact hb
 simp [results, h, hp', asAddr, run_loadVar_row w b t ty _ (0, 0) d hb' hu hd hi]
end
end Go.Proofs.Ytobcdekochenfaa
end
section
namespace Go.Proofs.Ytobcdekochenfaa
open Go Go.RowKit
set_option linter.unusedVariables false
set_option linter.unusedSimpArgs false
/-- a module: the prime, the number of its dimension, what T does -/
def moC (p n : Int) (f : Value) : List Value := [.int .i64 p, .int .i64 n, f]
theorem moC_len (p n : Int) (f : Value) : (moC p n f).length = 3 := rfl
theorem moC_at (p n : Int) (f : Value) : (moC p n f).toArray[0]? = some (.int .i64 p) := rfl
theorem moC_at2 (p n : Int) (f : Value) : (moC p n f).toArray[2]? = some f := rfl
theorem moC_all (p n : Int) (f : Value) (h : f.oneCell' = true) : (moC p n f).toArray.all (·.oneCell') = true := by
 have e1 : (Value.int .i64 p).oneCell' = true := rfl
 have e2 : (Value.int .i64 n).oneCell' = true := rfl
 simp only [moC, List.all_toArray, List.all_cons, List.all_nil, e1, e2, h, Bool.and_self]
theorem Try.size133 : (Try.prog.info? 133).map (·.size) = some 3 := by kernel_rfl
theorem built_mo (p n : Int) (fn : Fn) (a b : Array Value) : Try.prog.built 133 [(0, .int .i64 p), (1, .int .i64 n), (2, .func fn a b)] = some (moC p n (.func fn a b)).toArray := by unfold moC; kernel_rfl
attribute [local irreducible] deg resP
end Go.Proofs.Ytobcdekochenfaa
end
section
namespace Go.Proofs.Ytobcdekochenfaa
open Go.ChangeShapes Go.WideShapes Go.ChangeAt Go.RowKit
section
variable {H : Type} {enc : TypeId × Value → H} {P : Program}
theorem trod_int_to {e : TypeId} {k : IntKind} (he : P.underlying e = some (.int k)) {w : World} (w' : World) {b : Nat} (b' : Nat) {s : Nat → Bool} (s' : Nat → Bool) {h : Bool} (h' : Bool) {m : Nat} {c : List Value} {x : DataW H × List MemPlace}
 (hx : DataW.trod enc P w b s h m e c = some x) : DataW.trod enc P w' b' s' h' m e c = some x := by
 cases m with
 | zero => simp [DataW.trod] at hx
 | succ m =>
  obtain ⟨n, rfl, rfl, hw⟩ := DataW.trod_int he hx
  unfold DataW.trod
  rw [he]
  simp [hw]
theorem trod_int_same {e : TypeId} {k : IntKind} (he : P.underlying e = some (.int k)) (w w' : World) (b b' : Nat) (s s' : Nat → Bool) (h h' : Bool) (m : Nat) (c : List Value) :
 DataW.trod enc P w b s h m e c = DataW.trod enc P w' b' s' h' m e c := by
 cases h1 : DataW.trod enc P w b s h m e c with
 | some x => rw [trod_int_to he w' b' s' h' h1]
 | none =>
  cases h2 : DataW.trod enc P w' b' s' h' m e c with
  | none => rfl
  | some x => rw [trod_int_to he w b s h h2] at h1; cases h1
theorem open_barr {t e : TypeId} {n : Nat} {w : World} {r : Reach} {b0 base : Nat} {spare : Nat → Bool} {held : Bool} {v : Value} {d : DataW H} {p : List MemPlace}
 (ht : P.underlying t = some (.array n e)) (he : P.underlying e = some (.int .u8)) (hC : P.cellsOf t = n) (hCe : P.cellsOf e = 1)
 (hv : Value.okWide P w r b0 t v) (h : DataW.Trod enc P w base spare held t v d p) :
 ∃ f : Nat → Nat, byte f ∧ v = .agg (zb n f) ∧ p = [] ∧ ∀ (w' : World) (base' : Nat) (spare' : Nat → Bool) (held' : Bool), DataW.Trod enc P w' base' spare' held' t v d [] := by
 unfold Value.okWide at hv
 rw [ht] at hv
 obtain ⟨cs, rfl, hsz, _⟩ := hv
 obtain ⟨fuel, hf⟩ := h
 obtain ⟨xs, m, hm, hx, hlen, hxl, hel⟩ := DataW.trod_array ht hf
 subst hm
 have hcs : cs.size = n := by rw [hsz, hC]
 have each : ∀ i, i < n → ∃ k : Nat, k < 256 ∧ cs[i]? = some (.int .u8 (k : Int)) ∧ xs[i]? = some (.lit (.int .u8 (k : Int)), []) := by
  intro i hi
  have h1 := hel i hi
  have hxi : xs[i]? = some (xs[i]'(by omega)) := List.getElem?_eq_getElem (by omega)
  rw [hxi, hCe] at h1
  obtain ⟨z, hz1, hz2, hz3⟩ := DataW.trod_int he h1
  have hb := bounds_u8 hz3
  obtain ⟨k, rfl⟩ := Int.eq_ofNat_of_zero_le hb.1
  refine ⟨k, by omega, ?_, by rw [hxi, hz2]⟩
  have h2 : ((cs.toList.drop (i * 1)).take 1)[0]? = some (.int .u8 (k : Int)) := by
   have h3 : (Value.agg cs).cells.toList = cs.toList := rfl
   rw [← h3, hz1]; rfl
  simpa using h2
 refine ⟨fun i => match cs[i]? with | some (.int _ z) => if i < n then z.toNat else 0 | _ => 0, ?_, ?_, ?_, ?_⟩
 · intro i
   by_cases hi : i < n
   · obtain ⟨k, hk, hc, _⟩ := each i hi
     simp only [hc, hi, if_true, Int.toNat_natCast]
     exact hk
   · have : cs[i]? = none := Array.getElem?_eq_none (by omega)
     simp [this]
 · congr 1
   apply Array.ext_getElem?
   intro i
   by_cases hi : i < n
   · obtain ⟨k, hk, hc, _⟩ := each i hi
     rw [bcells_get hi]
     simp only [hc, hi, if_true, Int.toNat_natCast]
   · rw [Array.getElem?_eq_none (by omega), Array.getElem?_eq_none (by rw [zbs]; omega)]
 · have hp : p = xs.flatMap (·.2) := by simpa using congrArg Prod.snd hx
   rw [hp]
   rw [List.flatMap_eq_nil_iff]
   intro x hxm
   obtain ⟨i, hi⟩ := List.getElem?_of_mem hxm
   have hin : i < n := by rw [← hxl]; exact (List.getElem?_eq_some_iff.1 hi).1
   obtain ⟨k, _, _, h2⟩ := each i hin
   rw [hi] at h2
   injection h2 with h2
   rw [h2]
 · intro w' base' spare' held'
   refine ⟨m + 1, ?_⟩
   have e1 : DataW.trod enc P w' base' spare' held' (m + 1) t (Value.agg cs).cells.toList = DataW.trod enc P w base spare held (m + 1) t (Value.agg cs).cells.toList := by
    unfold DataW.trod
    rw [ht]
    simp only [trod_int_same he w' w base' base spare' spare held' held m]
   rw [e1, hf]
   have hp : p = xs.flatMap (·.2) := by simpa using congrArg Prod.snd hx
   have : p = [] := by
    rw [hp, List.flatMap_eq_nil_iff]
    intro x hxm
    obtain ⟨i, hi⟩ := List.getElem?_of_mem hxm
    have hin : i < n := by rw [← hxl]; exact (List.getElem?_eq_some_iff.1 hi).1
    obtain ⟨k, _, _, h2⟩ := each i hin
    rw [hi] at h2
    injection h2 with h2
    rw [h2]
   rw [this]
/-- the row's last step where the call has only made new memory, and the row does not say 'again' -/
theorem post_of_below0 {f : Func} {s : ChangeSpec} {apart fresh handsOn : Bool} {W W' : World} {args : Array Value} {v : Value} {ds gs : List (DataW H)} {before pa pv : List MemPlace}
 (hW : DataW.Whole enc P f.params.toList s.vars apart W args.toList ds gs before)
 (hres : ∀ (b : Nat) (sp : Nat → Bool) (hd : Bool), DataW.TrodAll enc P W' b sp hd f.resultTypes.toList (v.resultList f.resultTypes.size) (s.fn H (ds ++ gs)).results [])
 (hargs : ∀ sp : Nat → Bool, (∀ p ∈ before, sp p.block = true) → DataW.TrodAll enc P W' 0 sp true f.params.toList args.toList (s.fn H (ds ++ gs)).args pa)
 (hvars : ∀ sp : Nat → Bool, (∀ p ∈ before, sp p.block = true) → DataW.TrodVars enc P W' sp s.vars (s.fn H (ds ++ gs)).vars pv)
 (hps : before = pa ++ pv) (hb : Below W.heap.size W W') : s.post enc P f apart fresh handsOn false W args v W' := by
 have held : ∀ p ∈ before, (fun b => decide (b < W.heap.size)) p.block = true := fun p hp => by simpa using hW.lt p hp
 refine ⟨ds, gs, before, [], pa, pv, hW, hres _ _ _, hargs _ held, hvars _ held, ?_, fun h => by cases h⟩
 refine World.keptBut_mono (fun p hp => ⟨hp, .inr ?_⟩) (hb.frame (· ∈ before))
 rw [hps, List.mem_append] at hp
 exact hp
end
end Go.Proofs.Ytobcdekochenfaa
end
section
namespace Go.Proofs.Ytobcdekochenfaa
open Go.ChangeShapes Go.WideShapes Go.ChangeAt Go.RowKit
set_option linter.unusedVariables false
section
variable {H : Type} {enc : TypeId × Value → H} {P : Program}
theorem trod_barr_same {e u n : Nat} {k : IntKind} (he : P.underlying e = some (.array n u)) (hu : P.underlying u = some (.int k)) (w w' : World) (b b' : Nat) (s s' : Nat → Bool) (h h' : Bool) (m : Nat) (c : List Value) :
 DataW.trod enc P w b s h m e c = DataW.trod enc P w' b' s' h' m e c := by
 cases m with
 | zero => simp [DataW.trod]
 | succ m =>
  unfold DataW.trod
  rw [he]
  simp only [trod_int_same hu w w' b b' s s' h h' m]
end
end Go.Proofs.Ytobcdekochenfaa
end
section
namespace Go.Proofs.Ytobcdekochenfaa
open Go Go.RowKit
set_option linter.unusedVariables false
/-- the address of a slice whose first A rows are F -/
def SlR (w : World) (a : Option Addr) (A : Nat) (F : Nat → Nat → Nat) : Prop :=
 A = 0 ∨ ∃ b n t, a = some ⟨b, 0, none⟩ ∧ A ≤ n ∧ Blk w b (n * 64) t (fl 64 F)
theorem SlR.has {w : World} {a : Option Addr} {A : Nat} {F : Nat → Nat → Nat} (h : SlR w a A F) (hA : 0 < A) : ∃ b n t, a = some ⟨b, 0, none⟩ ∧ A ≤ n ∧ Blk w b (n * 64) t (fl 64 F) := by
 rcases h with h | h
 · omega
 · exact h
theorem SlR.of {w : World} {b n A : Nat} {t : TypeId} {F : Nat → Nat → Nat} (h : Blk w b (n * 64) t (fl 64 F)) (hA : A ≤ n) : SlR w (some ⟨b, 0, none⟩) A F := .inr ⟨b, n, t, rfl, hA, h⟩
theorem SlR.nil (w : World) (F : Nat → Nat → Nat) : SlR w none 0 F := .inl rfl
theorem SlR.below {w w' : World} {a : Option Addr} {A : Nat} {F : Nat → Nat → Nat} (h : SlR w a A F) (hb : Below w.heap.size w w') : SlR w' a A F := by
 rcases h with h | ⟨b, n, t, e, hA, h⟩
 · exact .inl h
 · exact .inr ⟨b, n, t, e, hA, h.zw hb⟩
attribute [irreducible] SlR
end Go.Proofs.Ytobcdekochenfaa
end
section
namespace Go.Proofs.Ytobcdekochenfaa
open Go Go.RowKit
set_option linter.unusedVariables false
theorem range_part {w : World} {b : Nat} {t : TypeId} {pre c post : List Value} (h : Row w b t (pre ++ (c ++ post)).toArray) : w.rangeAt b pre.length c := by
 intro j v hv
 have := h.range (pre.length + j) v (by
  have hj : j < c.length := (List.getElem?_eq_some_iff.1 hv).1
  rw [List.getElem?_append_right (by omega), Nat.add_sub_cancel_left, List.getElem?_append_left hj]; exact hv)
 rwa [Nat.zero_add] at this
end Go.Proofs.Ytobcdekochenfaa
end
section
namespace Go.Proofs.Ytobcdekochenfaa
set_option linter.unusedVariables false
/-- the entry at j of a vector times the first i rows -/
def ldS (S : Nat → Nat → Nat) (v : Nat → Nat) : Nat → Nat → Nat
 | 0, _ => 0
 | i + 1, j => ldS S v i j + v i * S i j
def ldN (p : Nat) (S : Nat → Nat → Nat) (v : Nat → Nat) : Nat → Nat := fun j => ldS S v 6 j % p
/-- Horner's way -/
def apN (p N : Nat) (S : Nat → Nat → Nat) (a v : Nat → Nat) : Nat → Nat → Nat
 | 0 => fun _ => 0
 | j + 1 => fun k => (ldN p S (apN p N S a v j) k + a (N - 1 - j) * v k) % p
/-- six cells, and 0 behind -/
def rp (f : Nat → Nat) : Nat → Nat := fun k => if k < 6 then f k else 0
theorem ldS_s (S : Nat → Nat → Nat) (v : Nat → Nat) (i j : Nat) : ldS S v (i + 1) j = ldS S v i j + v i * S i j := rfl
theorem ldS_z (S : Nat → Nat → Nat) (v : Nat → Nat) (j : Nat) : ldS S v 0 j = 0 := rfl
theorem apN_s (p N : Nat) (S : Nat → Nat → Nat) (a v : Nat → Nat) (j : Nat) : apN p N S a v (j + 1) = fun k => (ldN p S (apN p N S a v j) k + a (N - 1 - j) * v k) % p := rfl
theorem apN_z (p N : Nat) (S : Nat → Nat → Nat) (a v : Nat → Nat) : apN p N S a v 0 = fun _ => 0 := rfl
theorem mul36 {a b p : Nat} (p7 : p ≤ 7) (ha : a < p) (hb : b < p) : a * b ≤ 36 :=
 Nat.le_trans (Nat.mul_le_mul (show a ≤ 6 by omega) (show b ≤ 6 by omega)) (by decide)
theorem ldS_le {p : Nat} {S : Nat → Nat → Nat} {v : Nat → Nat} (p7 : p ≤ 7) (hv : ∀ i, i < 6 → v i < p) (hS : ∀ i, i < 6 → ∀ j, j < 6 → S i j < p) (j : Nat) (hj : j < 6) : ∀ i, i ≤ 6 → ldS S v i j ≤ 36 * i
 | 0, _ => by rw [ldS_z]; omega
 | i + 1, h => by
  have h1 := ldS_le p7 hv hS j hj i (by omega)
  have h2 := mul36 p7 (hv i (by omega)) (hS i (by omega) j hj)
  rw [ldS_s]; omega
theorem ldS_stop {n j : Nat} {S : Nat → Nat → Nat} {v : Nat → Nat} (h : ∀ i, n ≤ i → i < 6 → v i = 0) : ∀ d, n + d ≤ 6 → ldS S v (n + d) j = ldS S v n j
 | 0, _ => rfl
 | d + 1, hd => by
  rw [← Nat.add_assoc, ldS_s, h (n + d) (by omega) (by omega), Nat.zero_mul, Nat.add_zero]
  exact ldS_stop h d (by omega)
theorem ldS_congr {j : Nat} {S : Nat → Nat → Nat} {u v : Nat → Nat} (h : ∀ i, i < 6 → u i = v i) : ∀ i, i ≤ 6 → ldS S u i j = ldS S v i j
 | 0, _ => rfl
 | i + 1, hi => by rw [ldS_s, ldS_s, ldS_congr h i (by omega), h i (by omega)]
theorem ldN_congr {p j : Nat} {S : Nat → Nat → Nat} {u v : Nat → Nat} (h : ∀ i, i < 6 → u i = v i) : ldN p S u j = ldN p S v j := by
 unfold ldN; rw [ldS_congr h 6 (Nat.le_refl _)]
theorem rp_in {f : Nat → Nat} {k : Nat} (h : k < 6) : rp f k = f k := by unfold rp; rw [if_pos h]
theorem rp_out {f : Nat → Nat} {k : Nat} (h : 6 ≤ k) : rp f k = 0 := by unfold rp; rw [if_neg (by omega)]
theorem rp_lt {p : Nat} {f : Nat → Nat} (hp : 0 < p) (h : ∀ k, k < 6 → f k < p) (k : Nat) : rp f k < p := by
 by_cases c : k < 6
 · rw [rp_in c]; exact h k c
 · rw [rp_out (by omega)]; exact hp
theorem ldN_lt {p : Nat} (hp : 0 < p) (S : Nat → Nat → Nat) (v : Nat → Nat) (j : Nat) : ldN p S v j < p := Nat.mod_lt _ hp
theorem apN_lt {p N : Nat} (hp : 0 < p) (S : Nat → Nat → Nat) (a v : Nat → Nat) : ∀ (j k : Nat), apN p N S a v j k < p
 | 0, _ => hp
 | j + 1, _ => Nat.mod_lt _ hp
theorem ldS_col {n : Nat} {S : Nat → Nat → Nat} (hc : ∀ i, i < 6 → ∀ j, n ≤ j → j < 6 → S i j = 0) (v : Nat → Nat) (j : Nat) (h1 : n ≤ j) (h2 : j < 6) : ∀ i, i ≤ 6 → ldS S v i j = 0
 | 0, _ => rfl
 | i + 1, h => by rw [ldS_s, ldS_col hc v j h1 h2 i (by omega), hc i (by omega) j h1 h2, Nat.mul_zero]
theorem apN_zero {p N n : Nat} {S : Nat → Nat → Nat} {a v : Nat → Nat} (hc : ∀ i, i < 6 → ∀ j, n ≤ j → j < 6 → S i j = 0) (hv : ∀ j, n ≤ j → j < 6 → v j = 0) : ∀ (j k : Nat), n ≤ k → k < 6 → apN p N S a v j k = 0
 | 0, _, _, _ => rfl
 | j + 1, k, h1, h2 => by
  rw [apN_s]
  show (ldN p S _ k + a (N - 1 - j) * v k) % p = 0
  unfold ldN
  rw [ldS_col hc _ k h1 h2 6 (Nat.le_refl _), hv k h1 h2, Nat.mul_zero, Nat.zero_mod, Nat.zero_add, Nat.zero_mod]
/-- a round of the model's: a row more -/
theorem led_round {p : Nat} (S : Nat → Nat → Nat) (v : Nat → Nat) (i j : Nat) : (ldS S v i j % p + v i * S i j) % p = ldS S v (i + 1) j % p := by
 rw [ldS_s, Nat.mod_add_mod]
/-- a round of the program's -/
theorem ap_round {p N : Nat} (hp : 0 < p) (S : Nat → Nat → Nat) (a v : Nat → Nat) (j k : Nat) : (rp (ldN p S (rp (apN p N S a v j))) k + sclP p (rp v) (a (N - 1 - j)) k) % p = rp (apN p N S a v (j + 1)) k := by
 unfold sclP
 by_cases c : k < 6
 · rw [rp_in c, rp_in c, rp_in c, apN_s]
   show _ = (ldN p S (apN p N S a v j) k + a (N - 1 - j) * v k) % p
   rw [ldN_congr (fun i hi => rp_in hi), Nat.add_mod_mod, Nat.mul_comm]
 · rw [rp_out (by omega), rp_out (by omega), rp_out (by omega), Nat.zero_mul, Nat.zero_mod, Nat.zero_add, Nat.zero_mod]
end Go.Proofs.Ytobcdekochenfaa
end
