/-
  Loads of whole rows, of arrays and of structs.
-/
import Derived.Test.YtbjpkmbhbpcbgaaEqb
import Derived.Laws.Tables
namespace Go.Proofs.Ytbjpkmbhbpcbgaa
open Go Go.RowKit
section
variable {P : Program}
theorem wp_load_any {o : Oper} {a : Act} {w : World} {K : Act → World → Prop} {Q : Exit → Act → World → Prop} (ty : TypeId) (x : Operand) (ho : o.op = .load ty x)
    (b : Nat) (hx : a.eval x = .pointer (some ⟨b, 0, none⟩)) (n : Nat) (t : TypeId) (f : Nat → Nat) (hb : Blk w b n t f) (d : TypeDesc)
    (hu : P.underlying ty = some d) (hd : (match d with | .struct _ | .array _ _ => true | _ => false) = true) (hi : (P.info? ty).map (·.size) = some n) (h : K (a.put o.dst (.agg (bcells n f))) w) : o.wp P a w K Q := by
  have hb' : w.heap[b]? = some (.cells (bcells n f) t (0, 0)) := by unfold Blk at hb; exact hb
  exact wp_load_row ty x ho b hx t _ (0, 0) d hb' hu hd (by rw [bcells_size]; exact hi) h
theorem wpList_load_any {ops : Array Oper} {rest : List Oper} {o : Oper} {a : Act} {w : World} {Q : Exit → Act → World → Prop} (hgd : o.guard = none) (ty : TypeId) (x : Operand) (ho : o.op = .load ty x)
    (b : Nat) (hx : a.eval x = .pointer (some ⟨b, 0, none⟩)) (n : Nat) (t : TypeId) (f : Nat → Nat) (hb : Blk w b n t f) (d : TypeDesc)
    (hu : P.underlying ty = some d) (hd : (match d with | .struct _ | .array _ _ => true | _ => false) = true) (hi : (P.info? ty).map (·.size) = some n)
    (h : wpList P ops Q rest (a.put o.dst (.agg (bcells n f))) w) : wpList P ops Q (o :: rest) a w := by
  have hb' : w.heap[b]? = some (.cells (bcells n f) t (0, 0)) := by unfold Blk at hb; exact hb
  exact wpList_load_row hgd ty x ho b hx t _ (0, 0) d hb' hu hd (by rw [bcells_size]; exact hi) h
theorem wpList_load_any_g {ops : Array Oper} {rest : List Oper} {o : Oper} {a : Act} {w : World} {Q : Exit → Act → World → Prop} (hw : Region.wanted o (yielded ops a.tmps) = true) (ty : TypeId) (x : Operand) (ho : o.op = .load ty x)
    (b : Nat) (hx : a.eval x = .pointer (some ⟨b, 0, none⟩)) (n : Nat) (t : TypeId) (f : Nat → Nat) (hb : Blk w b n t f) (d : TypeDesc)
    (hu : P.underlying ty = some d) (hd : (match d with | .struct _ | .array _ _ => true | _ => false) = true) (hi : (P.info? ty).map (·.size) = some n)
    (h : wpList P ops Q rest (a.put o.dst (.agg (bcells n f))) w) : wpList P ops Q (o :: rest) a w := by
  unfold wpList
  rw [if_pos hw]
  exact Or.inl (wp_load_any ty x ho b hx n t f hb d hu hd hi h)
theorem wp_build_of {o : Oper} {a : Act} {w : World} {K : Act → World → Prop} {Q : Exit → Act → World → Prop} (t : TypeId) (parts : Array (Nat × Operand)) (ho : o.op = .build t parts)
    (cells : Array Value) (hc : P.built t (parts.map fun (i, x) => (i, a.eval x)).toList = some cells) (h : K (a.put o.dst (.agg cells)) w) : o.wp P a w K Q := by
  refine wp_build t parts ho (by rw [hc]; rfl) ?_
  rw [hc]; exact h
theorem wpList_build_of {ops : Array Oper} {rest : List Oper} {o : Oper} {a : Act} {w : World} {Q : Exit → Act → World → Prop} (hg : o.guard = none) (t : TypeId) (parts : Array (Nat × Operand)) (ho : o.op = .build t parts)
    (cells : Array Value) (hc : P.built t (parts.map fun (i, x) => (i, a.eval x)).toList = some cells) (h : wpList P ops Q rest (a.put o.dst (.agg cells)) w) : wpList P ops Q (o :: rest) a w :=
  wpList_plain hg fun _ hK => wp_build_of t parts ho cells hc (hK _ _ h)
end
end Go.Proofs.Ytbjpkmbhbpcbgaa
