/-
  Maps keyed by arrays that the call itself makes: the block's entries as a list, with laws for the operations.
-/
import Derived.Test.YtpeehpaghdddgaaPol
import Derived.Maps.OwnOps
import Derived.DeepKeys4
import Derived.Carry
namespace Go.Proofs.Ytpeehpaghdddgaa
open Go Go.RowKit Go.ChangeMaps
open Go.Maps (Keyed)
/-- block b is a map with the entries L, keys of type k -/
def MapG (P : Program) (k : TypeId) (w : World) (b : Nat) (L : List (Value × Value)) : Prop :=
  ∃ es clock, w.heap[b]? = some (.map es clock) ∧ es.toList.map (fun e => (e.key, e.val)) = L ∧ ∀ e ∈ es.toList, ∃ l, keyOf P k e.key = some l
theorem MapG.lt {P : Program} {k : TypeId} {w : World} {b : Nat} {L : List (Value × Value)} (h : MapG P k w b L) : b < w.heap.size := by
  obtain ⟨es, clock, hb, _⟩ := h
  exact (Array.getElem?_eq_some_iff.1 hb).1
theorem MapG.new (P : Program) (k : TypeId) (w : World) : MapG P k (w.alloc (.map #[] 0)) w.heap.size [] := ⟨#[], 0, (MapKept.heap_alloc w _).1, rfl, by simp⟩
theorem MapG.of {P : Program} {k : TypeId} {w w' : World} {b : Nat} {L : List (Value × Value)} (h : MapG P k w b L) (e : w'.heap[b]? = w.heap[b]?) : MapG P k w' b L := by
  obtain ⟨es, clock, hb, r⟩ := h
  exact ⟨es, clock, e.trans hb, r⟩
theorem MapG.alloc {P : Program} {k : TypeId} {w : World} {b : Nat} {L : List (Value × Value)} (h : MapG P k w b L) (o : Obj) : MapG P k (w.alloc o) b L := h.of (Below.heap_alloc _ _ _ h.lt)
theorem MapG.drew {P : Program} {k : TypeId} {w : World} {b : Nat} {L : List (Value × Value)} (h : MapG P k w b L) : MapG P k w.drew b L := h
theorem MapG.below {P : Program} {k : TypeId} {w w' : World} {B b : Nat} {L : List (Value × Value)} (h : MapG P k w b L) (hb : Below B w w') (e : b < B) : MapG P k w' b L := h.of (hb.block b e)
theorem MapG.setOther {P : Program} {k : TypeId} {w : World} {b : Nat} {L : List (Value × Value)} (h : MapG P k w b L) {a : Addr} {v : Value} (e : b ≠ a.block) : MapG P k (w.setCell a v) b L := h.of (heap_setCell_other _ _ _ _ e)
theorem MapG.rowOther {P : Program} {k : TypeId} {w : World} {b : Nat} {L : List (Value × Value)} (h : MapG P k w b L) {j : Nat} {cs : Array Value} (e : b ≠ j) : MapG P k (w.setRow j cs) b L := h.of (setRow_other _ _ _ _ e)
/-- block b is one cell that holds v -/
def One (w : World) (b : Nat) (t : TypeId) (v : Value) : Prop := w.heap[b]? = some (.cells #[v] t (0, 0))
theorem One.new (w : World) (t : TypeId) (v : Value) : One (w.alloc (.cells #[v] t)) w.heap.size t v := heap_alloc_last w _
theorem One.lt {w : World} {b : Nat} {t : TypeId} {v : Value} (h : One w b t v) : b < w.heap.size := by
  unfold One at h
  exact (Array.getElem?_eq_some_iff.1 h).1
theorem One.cell {w : World} {b : Nat} {t : TypeId} {v : Value} (h : One w b t v) : w.cell? ⟨b, 0, none⟩ = some v := by
  rw [cell_of_row _ _ _ _ _ _ h]; rfl
theorem One.frozen {w : World} {b : Nat} {t : TypeId} {v : Value} (h : One w b t v) (i : Nat) : w.frozen? ⟨b, i, none⟩ = false := frozen_of_row _ _ _ _ _ h
theorem One.of {w w' : World} {b : Nat} {t : TypeId} {v : Value} (h : One w b t v) (e : w'.heap[b]? = w.heap[b]?) : One w' b t v := by unfold One at *; rw [e]; exact h
theorem One.alloc {w : World} {b : Nat} {t : TypeId} {v : Value} (h : One w b t v) (o : Obj) : One (w.alloc o) b t v := h.of (Below.heap_alloc _ _ _ h.lt)
theorem One.drew {w : World} {b : Nat} {t : TypeId} {v : Value} (h : One w b t v) : One w.drew b t v := h
theorem One.below {w w' : World} {B b : Nat} {t : TypeId} {v : Value} (h : One w b t v) (hb : Below B w w') (e : b < B) : One w' b t v := h.of (hb.block b e)
theorem One.setOther {w : World} {b : Nat} {t : TypeId} {v x : Value} (h : One w b t v) {a : Addr} (e : b ≠ a.block) : One (w.setCell a x) b t v := h.of (heap_setCell_other _ _ _ _ e)
theorem One.rowOther {w : World} {b : Nat} {t : TypeId} {v : Value} (h : One w b t v) {j : Nat} {cs : Array Value} (e : b ≠ j) : One (w.setRow j cs) b t v := h.of (setRow_other _ _ _ _ e)
theorem One.grown {w w' : World} {b j : Nat} {t : TypeId} {v : Value} (h : One w b t v) (hg : w.grownBy w' (some j)) (e : b ≠ j) : One w' b t v := h.of (hg.block b h.lt (fun x => e (by cases x; rfl)))
theorem wp_load_one {P : Program} {o : Oper} {a : Act} {w : World} {K : Act → World → Prop} {Q : Exit → Act → World → Prop} (ty : TypeId) (x : Operand) (ho : o.op = .load ty x)
    (b : Nat) (hx : a.eval x = .pointer (some ⟨b, 0, none⟩)) (t : TypeId) (v : Value) (hb : One w b t v) (d : TypeDesc)
    (hu : P.underlying ty = some d) (hd : (match d with | .struct _ | .array _ _ => true | _ => false) = false) (h : K (a.put o.dst v) w) : o.wp P a w K Q := by
  have hc := hb.cell
  have hagg : (isAgg ty).run P w = .ok false w := by
    unfold isAgg
    rw [Sem.run_bind, run_underlying hu w]
    cases d <;> simp_all
  unfold Oper.wp execOp
  simp only [ho, hx, Instr.loadAt, Instr.sureAddr, Sem.run_bind, Sem.run_pure, Result.andThen_ok, loadVar, hagg, Bool.false_eq_true, if_false, Sem.run_ite, run_load, hc]
  exact h
theorem wpList_load_one {P : Program} {ops : Array Oper} {rest : List Oper} {o : Oper} {a : Act} {w : World} {Q : Exit → Act → World → Prop} (hgd : o.guard = none) (ty : TypeId) (x : Operand) (ho : o.op = .load ty x)
    (b : Nat) (hx : a.eval x = .pointer (some ⟨b, 0, none⟩)) (t : TypeId) (v : Value) (hb : One w b t v) (d : TypeDesc)
    (hu : P.underlying ty = some d) (hd : (match d with | .struct _ | .array _ _ => true | _ => false) = false) (h : wpList P ops Q rest (a.put o.dst v) w) : wpList P ops Q (o :: rest) a w :=
  wpList_plain hgd fun _ hK => wp_load_one ty x ho b hx t v hb d hu hd (hK _ _ h)
/-- the look-up at a key -/
theorem MapG.look {P : Program} {k e t : TypeId} (K : Keyed P k) (ht : P.underlying t = some (.map k e)) {w : World} {b : Nat} {L : List (Value × Value)} (h : MapG P k w b L) {z : Value} (hz : (zeroValue e).run P w = .ok z w) (c : Bool) {key : Value} {kl : Lit} (hkey : keyOf P k key = some kl) :
    ((Instr.lookup t (.map (some b)) key c).run P w = .ok (if c then .tuple #[z, .bool false] else z) w ∧ ∀ q ∈ L, q.1 ≠ key) ∨
    ∃ v, (key, v) ∈ L ∧ (Instr.lookup t (.map (some b)) key c).run P w = .ok (if c then .tuple #[v, .bool true] else v) w := by
  obtain ⟨es, clock, hb, rfl, hr⟩ := h
  rcases K.find w hkey es.toList hr with ⟨h1, h2⟩ | ⟨j, e0, h1, h2, h3⟩
  · refine .inl ⟨by simp [Instr.lookup, run_underlying ht, MapKept.run_getObj_map hb, K.check w _ hkey, h1, hz, Result.andThen], ?_⟩
    intro q hq
    obtain ⟨e, he, rfl⟩ := List.mem_map.1 hq
    exact h2 e he
  · refine .inr ⟨e0.val, ?_, by simp [Instr.lookup, run_underlying ht, MapKept.run_getObj_map hb, K.check w _ hkey, h1, Result.andThen]⟩
    exact List.mem_map.2 ⟨e0, List.mem_of_getElem? h2, by rw [h3]⟩
/-- a new key -/
theorem MapG.put {P : Program} {k e t : TypeId} (K : Keyed P k) (ht : P.underlying t = some (.map k e)) {w : World} {b : Nat} {L : List (Value × Value)} (h : MapG P k w b L) {key val : Value} {kl : Lit} (hkey : keyOf P k key = some kl) (hn : ∀ q ∈ L, q.1 ≠ key) :
    ∃ w', (Instr.mapUpdate t (.map (some b)) key val).run P w = .ok () w' ∧ MapG P k w' b (L ++ [(key, val)]) ∧ w.grownBy w' (some b) := by
  obtain ⟨es, clock, hb, rfl, hr⟩ := h
  rcases K.find w hkey es.toList hr with ⟨h1, h2⟩ | ⟨j, e0, h1, h2, h3⟩
  · refine ⟨setBlock w b (.map (es.push ⟨key, val, clock⟩) (clock + 1)), ?_, ⟨_, _, heap_setBlock_same hb _, by simp, ?_⟩, ⟨rfl, rfl, rfl, by simp [setBlock], fun i _ hi => heap_setBlock_other hb _ (fun e => hi (by rw [e]))⟩⟩
    · simp [Instr.mapUpdate, run_underlying ht, MapKept.run_getObj_map hb, K.check w false hkey, h1, MapKept.run_setObj_map _ hb, Result.andThen, setBlock]
    · intro x hx
      simp only [Array.toList_push, List.mem_append, List.mem_singleton] at hx
      rcases hx with hx | rfl
      · exact hr x hx
      · exact ⟨_, hkey⟩
  · exact absurd h3 (hn (e0.key, e0.val) (List.mem_map.2 ⟨e0, List.mem_of_getElem? h2, rfl⟩))
theorem mapM_ex {α β : Type} (f : α → Option β) : ∀ l : List α, (∀ x ∈ l, ∃ y, f x = some y) → ∃ ys, l.mapM f = some ys
  | [], _ => ⟨[], rfl⟩
  | a :: l, h => by
    obtain ⟨y, hy⟩ := h a (by simp)
    obtain ⟨ys, hys⟩ := mapM_ex f l fun x hx => h x (by simp [hx])
    exact ⟨y :: ys, by simp [List.mapM_cons, hy, hys]⟩
/-- an array of bytes is a key -/
theorem keyOf_bytes {P : Program} {k u : TypeId} {n : Nat} (hk : P.underlying k = some (.array n u)) (hu : P.underlying u = some (.int .u8)) (hc : P.cellsOf k = n) (hc1 : P.cellsOf u = 1) (hkt : P.keyType k = true) (hsz : 0 < P.types.size)
    {f : Nat → Nat} (hf : ∀ i, i < n → f i < 256) : ∃ l, keyOf P k (.agg (bcells n f)) = some l := by
  obtain ⟨d, hd⟩ : ∃ d, P.types.size = d + 1 := ⟨P.types.size - 1, by omega⟩
  have hform : (Value.agg (bcells n f)).formed P k = true := by simp [Value.formed, hk, hc, bl]
  have hlen : (Value.agg (bcells n f)).cells.toList.length = P.cellsOf k := by simp [Value.cells, bl, hc]
  obtain ⟨ys, hys⟩ := mapM_ex (fun i => P.keyLits (d + 1) u (((Value.agg (bcells n f)).cells.toList.drop (i * P.cellsOf u)).take (P.cellsOf u))) (List.range n) (by
    intro i hi
    have hi' : i < n := by simpa using hi
    refine ⟨[.int .u8 (f i : Int)], ?_⟩
    have e : ((Value.agg (bcells n f)).cells.toList.drop (i * P.cellsOf u)).take (P.cellsOf u) = [.int .u8 (f i : Int)] := by
      rw [hc1, Nat.mul_one]
      show (List.drop i (bl n f)).take 1 = _
      have hl : i < (bl n f).length := by rw [bl_length]; exact hi'
      rw [List.drop_eq_getElem_cons hl]
      simp [bl]
    rw [e]
    have hw : (Lit.int .u8 (f i : Int)).wf = true := by
      have := hf i hi'
      simp only [Lit.wf, Bool.and_eq_true, decide_eq_true_eq]
      have e1 : IntKind.u8.min = 0 := by decide
      have e2 : IntKind.u8.max = 255 := by decide
      rw [e1, e2]
      omega
    simp [Program.keyLits, hu, hw])
  have hl2 : P.keyLits (P.types.size + 1) k (Value.agg (bcells n f)).cells.toList = some ys.flatten := by
    rw [hd]
    unfold Program.keyLits
    rw [hk]
    dsimp only
    rw [if_pos hlen, hys]
    rfl
  refine ⟨.string (keyBytes ys.flatten), ?_⟩
  unfold keyOf
  rw [hk]
  simp only [hkt, hform, Bool.and_self, if_true]
  rw [hl2]
  rfl
/-- what a store into the map leaves of another block -/
theorem Blk.grown {w w' : World} {b n j : Nat} {t : TypeId} {f : Nat → Nat} (h : Blk w b n t f) (hg : w.grownBy w' (some j)) (e : b ≠ j) : Blk w' b n t f := by
  have hl := h.lt
  unfold Blk at *; rw [hg.block b hl (fun x => e (by cases x; rfl))]; exact h
theorem wpList_look {P : Program} (w : World) {ops : Array Oper} {rest : List Oper} {o : Oper} {a : Act} {Q : Exit → Act → World → Prop}
    (hg : o.guard = none) (m x : Operand) (t : TypeId) (c : Bool) (hop : o.op = Op.lookup t m x c) (mv : Value) (hm : a.eval m = mv) (key : Value) (hx : a.eval x = key) (v : Value) (hrun : (Instr.lookup t mv key c).run P w = .ok v w)
    (hK : wpList P ops Q rest (a.put o.dst v) w) : wpList P ops Q (o :: rest) a w := by
  refine wpList_plain hg fun K' hK' => ?_
  unfold Oper.wp
  simp [execOp, hop, hm, hx, hrun, Result.andThen]
  exact hK' _ _ hK
theorem wpList_put {P : Program} (w : World) {ops : Array Oper} {rest : List Oper} {o : Oper} {a : Act} {Q : Exit → Act → World → Prop}
    (hg : o.guard = none) (m x v : Operand) (t : TypeId) (hop : o.op = Op.mapUpdate t m x v) (mv : Value) (hm : a.eval m = mv) (key : Value) (hx : a.eval x = key) (val : Value) (hv : a.eval v = val) (w' : World) (hrun : (Instr.mapUpdate t mv key val).run P w = .ok () w')
    (hK : wpList P ops Q rest (a.put o.dst undef) w') : wpList P ops Q (o :: rest) a w := by
  refine wpList_plain hg fun K' hK' => ?_
  unfold Oper.wp
  simp [execOp, hop, hm, hx, hv, hrun, Result.andThen]
  exact hK' _ _ hK
attribute [irreducible] MapG One
end Go.Proofs.Ytpeehpaghdddgaa
