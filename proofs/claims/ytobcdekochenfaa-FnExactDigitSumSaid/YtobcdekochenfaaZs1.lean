/-
  What the rows of this claim rest on: arrays of bytes, walks of the functions, plain mathematics.
-/
import Derived.WalkKit
import Derived.WalkSpells
import Derived.WalkLawsBesides
import Derived.Lib.Hide
import Derived.Laws.Rows
import Derived.Laws.CopyOwn
import Derived.Deep.QuietTactic
import Derived.Deep.WholeRow
import Derived.Deep.Draws
import Derived.Deep.MidRow
import Derived.Deep.CutRange
import Derived.Deep.DeepCutAuto
import Derived.Deep.RegionHeld3
import Derived.BigQuiet
import Derived.BigRegion
import Derived.Great.BuildSlice
import Derived.Test.YtobcdekochenfaaRows
import Derived.ScopeJumps
import Derived.Maps.OwnOps
import Derived.DeepKeys4
import Derived.Carry
import Derived.Test.YtobcdekochenfaaProg
import Derived.Laws.Tables
import Derived.Laws.StructEq
import Derived.OwnWalk
import Derived.RangeFuncNested
import Derived.RangeFuncBound
import Derived.RangeFuncCalls
import Derived.RangeFuncLeaves
import Derived.Shelf.Abstract
import Derived.Shelf.RegionOpen
import Derived.OwnWalkIn
import Derived.TacticsInMore
import Derived.LoopNIn
import Derived.LoopIn
import Derived.Deep.CutBlock
import Derived.OpenShut
import Derived.ProofKit
import Derived.JoinedOf
section
namespace Go.Proofs.Ytobcdekochenfaa
open Go.RowKit
/-- the cells of an array of n bytes -/
def bl (n : Nat) (f : Nat → Nat) : List Value := (List.range n).map fun i => Value.int .u8 (f i : Int)
abbrev zb (n : Nat) (f : Nat → Nat) : Array Value := (bl n f).toArray
theorem zl (n : Nat) (f : Nat → Nat) : (bl n f).length = n := by simp [bl]
theorem zbs (n : Nat) (f : Nat → Nat) : (zb n f).size = n := by simp [bl]
theorem bcells_get {n : Nat} {f : Nat → Nat} {i : Nat} (h : i < n) : (zb n f)[i]? = some (.int .u8 (f i : Int)) := by
 simp [bl, h]
/-- block b holds the bytes f -/
def Blk (w : World) (b n : Nat) (t : TypeId) (f : Nat → Nat) : Prop := w.heap[b]? = some (.cells (zb n f) t (0, 0))

theorem Blk.new (w : World) (n : Nat) (t : TypeId) (f : Nat → Nat) : Blk (w.alloc (.cells (zb n f) t)) w.heap.size n t f := heap_alloc_last w _
theorem Blk.lt {w : World} {b n : Nat} {t : TypeId} {f : Nat → Nat} (h : Blk w b n t f) : b < w.heap.size := by
 unfold Blk at h
 exact (Array.getElem?_eq_some_iff.1 h).1
theorem Blk.cell {w : World} {b n : Nat} {t : TypeId} {f : Nat → Nat} (h : Blk w b n t f) {i : Nat} (hi : i < n) : w.cell? ⟨b, i, none⟩ = some (.int .u8 (f i : Int)) := by
 rw [cell_of_row _ _ _ _ _ _ h]; exact bcells_get hi
theorem Blk.alloc {w : World} {b n : Nat} {t : TypeId} {f : Nat → Nat} (h : Blk w b n t f) (o : Obj) : Blk (w.alloc o) b n t f := by
 have := h.lt
 unfold Blk at *; rw [Below.heap_alloc _ _ _ this]; exact h
theorem Blk.row {w : World} {b n : Nat} {t : TypeId} {f : Nat → Nat} (h : Blk w b n t f) (g : Nat → Nat) : Blk (w.setRow b (zb n g)) b n t g := setRow_heap _ _ _ _ _ _ h
theorem Blk.rowOther {w : World} {b n : Nat} {t : TypeId} {f : Nat → Nat} (h : Blk w b n t f) {k : Nat} {cs : Array Value} (e : b ≠ k) : Blk (w.setRow k cs) b n t f := by
 unfold Blk at *; rw [setRow_other _ _ _ _ e]; exact h
theorem Blk.below {w w' : World} {B b n : Nat} {t : TypeId} {f : Nat → Nat} (h : Blk w b n t f) (hb : Below B w w') (e : b < B) : Blk w' b n t f := by
 unfold Blk at *; rw [hb.block b e]; exact h

theorem Blk.zw {w w' : World} {b n : Nat} {t : TypeId} {f : Nat → Nat} (h : Blk w b n t f) (hb : Below w.heap.size w w') : Blk w' b n t f := Blk.below h hb (Blk.lt h)
theorem Blk.range {w : World} {b n : Nat} {t : TypeId} {f : Nat → Nat} (h : Blk w b n t f) : w.rangeAt b 0 (bl n f) := by
 intro j v hv
 rw [Nat.zero_add, cell_of_row _ _ _ _ _ _ h]
 simpa using hv
theorem zal (w : World) (o : Obj) : Below w.heap.size w (w.alloc o) := (Below.refl _ _).alloc (Nat.le_refl _) _
/-- y points to a block from N on that holds g -/
def PF (y : Value) (w : World) (N n : Nat) (t : TypeId) (g : Nat → Nat) : Prop := ∃ b, y = .pointer (some ⟨b, 0, none⟩) ∧ N ≤ b ∧ Blk w b n t g
def AF (y : Value) (w : World) (N n : Nat) (t : TypeId) : Prop := ∃ g, PF y w N n t g
theorem PF.below {y : Value} {w w' : World} {N n : Nat} {t : TypeId} {g : Nat → Nat} (h : PF y w N n t g) (hb : Below w.heap.size w w') : PF y w' N n t g := by
 obtain ⟨b, e, hN, hk⟩ := h
 exact ⟨b, e, hN, hk.zw hb⟩
theorem AF.below {y : Value} {w w' : World} {N n : Nat} {t : TypeId} (h : AF y w N n t) (hb : Below w.heap.size w w') : AF y w' N n t := by
 obtain ⟨g, h⟩ := h
 exact ⟨g, h.below hb⟩
theorem PF.new (w : World) {N : Nat} (n : Nat) (t : TypeId) (g : Nat → Nat) (h : N ≤ w.heap.size) : PF (.pointer (some ⟨w.heap.size, 0, none⟩)) (w.alloc (.cells (zb n g) t)) N n t g := ⟨_, rfl, h, Blk.new _ _ _ _⟩
theorem PF.row {w : World} {b N n : Nat} {t : TypeId} {f : Nat → Nat} (hb : Blk w b n t f) (hN : N ≤ b) (g : Nat → Nat) : PF (.pointer (some ⟨b, 0, none⟩)) (w.setRow b (zb n g)) N n t g := ⟨b, rfl, hN, hb.row g⟩
theorem PF.rowOther {y : Value} {w : World} {b N n : Nat} {t : TypeId} {g : Nat → Nat} {cs : Array Value} (h : PF y w N n t g) (e : y ≠ .pointer (some ⟨b, 0, none⟩)) : PF y (w.setRow b cs) N n t g := by
 obtain ⟨b', e', hN, hk⟩ := h
 refine ⟨b', e', hN, hk.rowOther ?_⟩
 rintro rfl
 exact e e'
theorem AF.row {y : Value} {w : World} {b N n m : Nat} {t u : TypeId} {f g : Nat → Nat} (h : AF y w N n t) (hb : Blk w b m u f) : AF y (w.setRow b (zb m g)) N n t := by
 obtain ⟨g', b', e', hN, hk⟩ := h
 by_cases e : b' = b
 · subst e
   have h1 := hk.symm.trans hb
   simp only [Option.some.injEq, Obj.cells.injEq, and_true] at h1
   obtain ⟨h1, h2⟩ := h1
   have h3 : n = m := by have := congrArg Array.size h1; rwa [zbs, zbs] at this
   subst h3; subst h2
   exact ⟨g, b', e', hN, hk.row g⟩
 · exact ⟨g', b', e', hN, hk.rowOther e⟩
theorem PF.out {y : Value} {w : World} {N n : Nat} {t : TypeId} {g : Nat → Nat} (h : PF y w N n t g) : ∃ b, y = .pointer (some ⟨b, 0, none⟩) ∧ N ≤ b ∧ Blk w b n t g := h
theorem AF.out {y : Value} {w : World} {N n : Nat} {t : TypeId} (h : AF y w N n t) : ∃ g b, y = .pointer (some ⟨b, 0, none⟩) ∧ N ≤ b ∧ Blk w b n t g := h
attribute [irreducible] Blk PF AF bl
end Go.Proofs.Ytobcdekochenfaa
end
section
namespace Go.Proofs.Ytobcdekochenfaa
def okP (p : Int) : Bool := p == 2 || p == 3 || p == 5 || p == 7
theorem okP_cases {p : Int} (h : okP p = true) : p = 2 ∨ p = 3 ∨ p = 5 ∨ p = 7 := by
 simp only [okP, Bool.or_eq_true, beq_iff_eq] at h
 rcases h with ((h | h) | h) | h <;> simp [h]
theorem okP_false {p : Int} (h : okP p = false) : (p == 2) = false ∧ (p == 3) = false ∧ (p == 5) = false ∧ (p == 7) = false := by
 simp only [okP, Bool.or_eq_false_iff] at h
 exact ⟨h.1.1.1, h.1.1.2, h.1.2, h.2⟩
theorem okP_le {p : Int} (h : okP p = true) : 2 ≤ p ∧ p ≤ 7 := by rcases okP_cases h with h | h | h | h <;> subst h <;> decide
/-- f cut off at 64 -/
def cut (f : Nat → Nat) : Nat → Nat := fun i => if i < 64 then f i else 0
end Go.Proofs.Ytobcdekochenfaa
end
section
namespace Go.Proofs.Ytobcdekochenfaa
open Go.RowKit
/-- block b holds the polynomials fs, one behind the other -/
def PolS (w : World) (b : Nat) (fs : List (Nat → Nat)) : Prop := w.heap[b]? = some (.cells ((fs.map (bl 64)).flatten).toArray 23 (0, 0))
theorem PolS.lt {w : World} {b : Nat} {fs : List (Nat → Nat)} (h : PolS w b fs) : b < w.heap.size := by
 unfold PolS at h
 exact (Array.getElem?_eq_some_iff.1 h).1
theorem PolS.below {w w' : World} {B b : Nat} {fs : List (Nat → Nat)} (h : PolS w b fs) (hb : Below B w w') (e : b < B) : PolS w' b fs := by
 unfold PolS at *; rw [hb.block b e]; exact h
theorem PolS.zw {w w' : World} {b : Nat} {fs : List (Nat → Nat)} (h : PolS w b fs) (hb : Below w.heap.size w w') : PolS w' b fs := PolS.below h hb (PolS.lt h)
theorem flat_get : ∀ (fs : List (Nat → Nat)) (i : Nat) (f : Nat → Nat) (j : Nat), fs[i]? = some f → j < 64 → ((fs.map (bl 64)).flatten)[i * 64 + j]? = some (.int .u8 (f j : Int))
 | [], _, _, _, h, _ => by simp at h
 | g :: fs, 0, f, j, h, hj => by
  simp only [List.getElem?_cons_zero, Option.some.injEq] at h
  subst h
  rw [List.map_cons, List.flatten_cons, Nat.zero_mul, Nat.zero_add, List.getElem?_append_left (by rw [zl]; exact hj)]
  simp [bl, hj]
 | g :: fs, i + 1, f, j, h, hj => by
  rw [List.map_cons, List.flatten_cons, List.getElem?_append_right (by rw [zl]; omega), zl]
  have := flat_get fs i f j (by simpa using h) hj
  rw [show (i + 1) * 64 + j - 64 = i * 64 + j by omega]
  exact this
theorem PolS.range {w : World} {b : Nat} {fs : List (Nat → Nat)} (h : PolS w b fs) {i : Nat} {f : Nat → Nat} (hi : fs[i]? = some f) : w.rangeAt b (i * 64) (bl 64 f) := by
 intro j v hv
 have hj : j < 64 := by
  have := (List.getElem?_eq_some_iff.1 hv).1
  rwa [zl] at this
 rw [cell_of_row _ _ _ _ _ _ h]
 have e : (bl 64 f)[j]? = some (.int .u8 (f j : Int)) := by simp [bl, hj]
 rw [e] at hv
 injection hv with hv
 subst hv
 simpa using flat_get fs i f j hi hj
attribute [irreducible] PolS
end Go.Proofs.Ytobcdekochenfaa
end
section
namespace Go.Proofs.Ytobcdekochenfaa
open Go.RowKit
theorem ret_bool {a b : Bool} (h : a = b) : Ending.returned (.bool a) = .returned (.bool b) := by rw [h]

theorem isPrime_any (p : Int) (w : World) : Calls Try.prog 66 #[.int .i64 p] w fun e w' => e = .returned (.bool (okP p)) ∧ w = w' := by
 cases hp : okP p with
 | true =>
  rcases okP_cases hp with rfl | rfl | rfl | rfl <;>
  · go_enter Try.func66, Try.ntmps66
    go_wp2
    go_ret
    exact ⟨rfl, rfl⟩
 | false =>
  obtain ⟨h2, h3, h5, h7⟩ := okP_false hp
  go_enter Try.func66, Try.ntmps66
  go_wp2
  go_ret
  exact ⟨rfl, rfl⟩
theorem l01Prime_any (p : Int) (w : World) : Calls Try.prog 134 #[.int .i64 p] w fun e w' => e = .returned (.bool (okP p)) ∧ w = w' := by
 cases hp : okP p with
 | true =>
  rcases okP_cases hp with rfl | rfl | rfl | rfl <;>
  · go_enter Try.func134, Try.ntmps134
    go_wp2
    go_ret
    exact ⟨rfl, rfl⟩
 | false =>
  obtain ⟨h2, h3, h5, h7⟩ := okP_false hp
  go_enter Try.func134, Try.ntmps134
  go_wp2
  go_ret
  exact ⟨rfl, rfl⟩

end Go.Proofs.Ytobcdekochenfaa
end
section
namespace Go.Proofs.Ytobcdekochenfaa
open Go.RowKit
set_option linter.unusedVariables false
theorem okP_nat {p : Int} (h : okP p = true) : ∃ n : Nat, p = (n : Int) ∧ 2 ≤ n ∧ n ≤ 7 := by
 have := okP_le h
 exact ⟨p.toNat, by omega, by omega, by omega⟩
end Go.Proofs.Ytobcdekochenfaa
end
section
namespace Go.Proofs.Ytobcdekochenfaa
open Go.RowKit
set_option linter.unusedVariables false
set_option maxHeartbeats 400000 in
theorem l01In_any (n l h : Int) (w : World) : Calls Try.prog 85 #[.int .i64 n, .int .i64 l, .int .i64 h] w fun e w' => e = .returned (.bool (decide (l ≤ n ∧ n ≤ h))) ∧ w = w' := by
 by_cases h1 : l ≤ n
 · by_cases h2 : n ≤ h
   · go_enter Try.func85, Try.ntmps85
     go_wp2
     go_ret
     exact ⟨ret_bool (by simp [h1, h2]), rfl⟩
   · go_enter Try.func85, Try.ntmps85
     go_wp2
     go_ret
     exact ⟨ret_bool (by simp [h2]), rfl⟩
 · go_enter Try.func85, Try.ntmps85
   go_wp2
   go_ret
   exact ⟨ret_bool (by simp; omega), rfl⟩
theorem l01In_yes (n l h : Int) (h1 : l ≤ n ∧ n ≤ h) (w : World) : Calls Try.prog 85 #[.int .i64 n, .int .i64 l, .int .i64 h] w fun e w' => e = .returned (.bool true) ∧ w = w' :=
 (l01In_any n l h w).mono fun _ _ ⟨a, b⟩ => ⟨by rw [a, decide_eq_true h1], b⟩
theorem l01In_no (n l h : Int) (h1 : ¬ (l ≤ n ∧ n ≤ h)) (w : World) : Calls Try.prog 85 #[.int .i64 n, .int .i64 l, .int .i64 h] w fun e w' => e = .returned (.bool false) ∧ w = w' :=
 (l01In_any n l h w).mono fun _ _ ⟨a, b⟩ => ⟨by rw [a, decide_eq_false h1], b⟩
end Go.Proofs.Ytobcdekochenfaa
end
section
namespace Go.Proofs.Ytobcdekochenfaa
open Go.RowKit
set_option linter.unusedVariables false
/-- digit i of n at base p -/
def dgt (p n i : Nat) : Nat := n / p ^ i % p
def ofN (p : Nat) (n : Nat) : Nat → Nat := fun i => dgt p n i
end Go.Proofs.Ytobcdekochenfaa
end
section
namespace Go.Proofs.Ytobcdekochenfaa
open Go.RowKit
def setL (L : Nat → Bool) (i : Nat) : Nat → Bool := fun j => if j = i then true else L j
def updV (v : Nat → Value) (i : Nat) (y : Value) : Nat → Value := fun j => if j = i then y else v j
end Go.Proofs.Ytobcdekochenfaa
end
section
namespace Go.Proofs.Ytobcdekochenfaa
open Go Go.RowKit
def VF (L : Nat → Bool) (v : Nat → Value) (vals : List (Option Value)) : Prop := ∀ i x, vals[i]? = some (some x) → L i = true → v i = x
theorem VF.at {L : Nat → Bool} {v : Nat → Value} {vals : List (Option Value)} (h : VF L v vals) {i : Nat} {x : Value} (hL : L i = true) (e : vals[i]? = some (some x)) : v i = x := h i x e hL
theorem VF.step {L : Nat → Bool} {v : Nat → Value} {vals : List (Option Value)} (h : VF L v vals) (i : Nat) {y : Value} (e : vals[i]? = some (some y)) : VF (setL L i) (updV v i y) vals := fun j x hj hL => by
 unfold setL at hL
 unfold updV
 by_cases c : j = i
 · subst c
   rw [e] at hj
   injection hj with hj
   injection hj with hj
   rw [if_pos rfl]; exact hj
 · rw [if_neg c] at hL ⊢
   exact h j x hj hL
theorem VF.skip {L : Nat → Bool} {v : Nat → Value} {vals : List (Option Value)} (h : VF L v vals) (i : Nat) {y : Value} (e : vals[i]? = some none) : VF (setL L i) (updV v i y) vals := fun j x hj hL => by
 unfold setL at hL
 unfold updV
 by_cases c : j = i
 · subst c
   rw [e] at hj
   injection hj with hj
   cases hj
 · rw [if_neg c] at hL ⊢
   exact h j x hj hL
attribute [irreducible] VF
end Go.Proofs.Ytobcdekochenfaa
end
section
namespace Go.Proofs.Ytobcdekochenfaa
open Go.RowKit
set_option linter.unusedVariables false
set_option linter.unusedSimpArgs false
/-- the first scope within a code -/
def scopeIn : Code → Option Code
 | .seq a b => match scopeIn a with
  | some c => some c
  | none => scopeIn b
 | .scope c => some c
 | _ => none
/-- what stands behind a label of the first scope -/
def behind (fn : Func) (l : Nat) : Code := (findLabel ((fn.body.bind scopeIn).getD .skip) l).getD .skip
end Go.Proofs.Ytobcdekochenfaa
end
section
namespace Go.Proofs.Ytobcdekochenfaa
/-- the sum of t below n -/
def cs : Nat → (Nat → Int) → Int
 | 0, _ => 0
 | n + 1, t => cs n t + t n
end Go.Proofs.Ytobcdekochenfaa
end
section
namespace Go.Proofs.Ytobcdekochenfaa
/-- sums and products as in the whole numbers -/
class Rg (R : Type) extends Add R, Mul R, Neg R where
 o : R
 e : R
 acomm : ∀ a b : R, a + b = b + a
 aassoc : ∀ a b c : R, a + b + c = a + (b + c)
 oadd : ∀ a : R, o + a = a
 nadd : ∀ a : R, -a + a = o
 mcomm : ∀ a b : R, a * b = b * a
 massoc : ∀ a b c : R, a * b * c = a * (b * c)
 emul : ∀ a : R, e * a = a
 madd : ∀ a b c : R, a * (b + c) = a * b + a * c
namespace Rg
variable {R : Type} [Rg R]
def pas : Nat → List Nat → List Nat
 | q, [] => [q]
 | q, c :: cs => (q + c) :: pas c cs
def row : Nat → List Nat
 | 0 => [1]
 | n + 1 => pas 0 (row n)
end Rg
end Go.Proofs.Ytobcdekochenfaa
set_option linter.unusedVariables false
set_option linter.unusedVariables false
set_option linter.unusedVariables false
set_option linter.unusedVariables false
set_option linter.unusedVariables false
set_option linter.unusedVariables false
set_option linter.unusedVariables false
set_option linter.unusedVariables false
end
section
namespace Go.Proofs.Ytobcdekochenfaa
open Go Go.RowKit Go.ChangeMaps
open Go.Maps (Keyed)
/-- block b is a map with the entries L, keys of type k -/
def MapG (P : Program) (k : TypeId) (w : World) (b : Nat) (L : List (Value × Value)) : Prop :=
 ∃ es clock, w.heap[b]? = some (.map es clock) ∧ es.toList.map (fun e => (e.key, e.val)) = L ∧ ∀ e ∈ es.toList, ∃ l, keyOf P k e.key = some l
theorem MapG.lt {P : Program} {k : TypeId} {w : World} {b : Nat} {L : List (Value × Value)} (h : MapG P k w b L) : b < w.heap.size := by
 obtain ⟨es, clock, hb, _⟩ := h
 exact (Array.getElem?_eq_some_iff.1 hb).1
theorem MapG.new (P : Program) (k : TypeId) (w : World) : MapG P k (w.alloc (.map #[] 0)) w.heap.size [] := ⟨#[], 0, (MapKept.heap_alloc w _).1, rfl, by simp⟩
theorem MapG.of {P : Program} {k : TypeId} {w w' : World} {b : Nat} {L : List (Value × Value)} (h : MapG P k w b L) (e : w'.heap[b]? = w.heap[b]?) : MapG P k w' b L := by
 obtain ⟨es, clock, hb, r⟩ := h
 exact ⟨es, clock, e.trans hb, r⟩
theorem MapG.alloc {P : Program} {k : TypeId} {w : World} {b : Nat} {L : List (Value × Value)} (h : MapG P k w b L) (o : Obj) : MapG P k (w.alloc o) b L := h.of (Below.heap_alloc _ _ _ h.lt)
theorem MapG.below {P : Program} {k : TypeId} {w w' : World} {B b : Nat} {L : List (Value × Value)} (h : MapG P k w b L) (hb : Below B w w') (e : b < B) : MapG P k w' b L := h.of (hb.block b e)
theorem MapG.zw {P : Program} {k : TypeId} {w w' : World} {b : Nat} {L : List (Value × Value)} (h : MapG P k w b L) (hb : Below w.heap.size w w') : MapG P k w' b L := MapG.below h hb (MapG.lt h)
theorem MapG.rowOther {P : Program} {k : TypeId} {w : World} {b : Nat} {L : List (Value × Value)} (h : MapG P k w b L) {j : Nat} {cs : Array Value} (e : b ≠ j) : MapG P k (w.setRow j cs) b L := h.of (setRow_other _ _ _ _ e)
/-- block b is one cell that holds v -/
def One (w : World) (b : Nat) (t : TypeId) (v : Value) : Prop := w.heap[b]? = some (.cells #[v] t (0, 0))
theorem One.new (w : World) (t : TypeId) (v : Value) : One (w.alloc (.cells #[v] t)) w.heap.size t v := heap_alloc_last w _
theorem One.lt {w : World} {b : Nat} {t : TypeId} {v : Value} (h : One w b t v) : b < w.heap.size := by
 unfold One at h
 exact (Array.getElem?_eq_some_iff.1 h).1
theorem One.cell {w : World} {b : Nat} {t : TypeId} {v : Value} (h : One w b t v) : w.cell? ⟨b, 0, none⟩ = some v := by
 rw [cell_of_row _ _ _ _ _ _ h]; rfl
theorem One.of {w w' : World} {b : Nat} {t : TypeId} {v : Value} (h : One w b t v) (e : w'.heap[b]? = w.heap[b]?) : One w' b t v := by unfold One at *; rw [e]; exact h
theorem One.alloc {w : World} {b : Nat} {t : TypeId} {v : Value} (h : One w b t v) (o : Obj) : One (w.alloc o) b t v := h.of (Below.heap_alloc _ _ _ h.lt)
theorem One.below {w w' : World} {B b : Nat} {t : TypeId} {v : Value} (h : One w b t v) (hb : Below B w w') (e : b < B) : One w' b t v := h.of (hb.block b e)
theorem One.zw {w w' : World} {b : Nat} {t : TypeId} {v : Value} (h : One w b t v) (hb : Below w.heap.size w w') : One w' b t v := One.below h hb (One.lt h)
theorem One.rowOther {w : World} {b : Nat} {t : TypeId} {v : Value} (h : One w b t v) {j : Nat} {cs : Array Value} (e : b ≠ j) : One (w.setRow j cs) b t v := h.of (setRow_other _ _ _ _ e)
theorem One.grown {w w' : World} {b j : Nat} {t : TypeId} {v : Value} (h : One w b t v) (hg : w.grownBy w' (some j)) (e : b ≠ j) : One w' b t v := h.of (hg.block b h.lt (fun x => e (by cases x; rfl)))
/-- what a store into the map leaves of another block -/
theorem Blk.grown {w w' : World} {b n j : Nat} {t : TypeId} {f : Nat → Nat} (h : Blk w b n t f) (hg : w.grownBy w' (some j)) (e : b ≠ j) : Blk w' b n t f := by
 have hl := h.lt
 unfold Blk at *; rw [hg.block b hl (fun x => e (by cases x; rfl))]; exact h
attribute [irreducible] MapG One
end Go.Proofs.Ytobcdekochenfaa
end
section
namespace Go.Proofs.Ytobcdekochenfaa
open Go Go.RowKit
set_option linter.unusedVariables false
/-- v is a slice of the rows cs, each of so many cells, in a block from base on (or nil) -/
def SlL (w : World) (base : Nat) (e : TypeId) (size : Nat) (v : Value) (cs : List (List Value)) : Prop := base ≤ w.heap.size ∧ (∀ c ∈ cs, c.length = size) ∧ w.ownsRow base e size v cs.length cs.flatten
theorem SlL.lt {w : World} {base : Nat} {e : TypeId} {size : Nat} {v : Value} {cs : List (List Value)} (h : SlL w base e size v cs) : base ≤ w.heap.size := h.1
theorem SlL.nil {w : World} {base : Nat} (e : TypeId) (size : Nat) (h : base ≤ w.heap.size) : SlL w base e size (.slice none 0 0) [] := ⟨h, by simp, World.ownsRow_nil _ _ _ _⟩
theorem SlL.grown {w w' : World} {base : Nat} {e : TypeId} {size : Nat} {v : Value} {cs : List (List Value)} {row : Option Nat} (h : SlL w base e size v cs) (hg : w.grownBy w' row) (hr : ∀ r, row = some r → r < base) : SlL w' base e size v cs :=
 ⟨Nat.le_trans h.1 hg.size, h.2.1, h.2.2.kept hg (by
  cases hv : v.ownBlock with
  | none => exact .inl rfl
  | some k =>
   right
   intro he
   have h1 := (h.2.2.lt k hv).1
   have h2 := hr k he.symm
   omega)⟩
theorem SlL.alloc {w : World} {base : Nat} {e : TypeId} {size : Nat} {v : Value} {cs : List (List Value)} (h : SlL w base e size v cs) (o : Obj) : SlL (w.alloc o) base e size v cs := h.grown (World.grownBy_alloc w o none) (fun r e => by cases e)
theorem SlL.below {w w' : World} {base : Nat} {e : TypeId} {size : Nat} {v : Value} {cs : List (List Value)} (h : SlL w base e size v cs) (hb : Below w.heap.size w w') (_ : base ≤ w.heap.size) : SlL w' base e size v cs :=
 h.grown (row := none) ⟨hb.os, hb.tape, hb.output, hb.size, fun k hk _ => hb.block k hk⟩ (fun r e => by cases e)
theorem SlL.zw {w w' : World} {base : Nat} {e : TypeId} {size : Nat} {v : Value} {cs : List (List Value)} (h : SlL w base e size v cs) (hb : Below w.heap.size w w') : SlL w' base e size v cs := SlL.below h hb (SlL.lt h)
theorem SlL.rowOther {w : World} {base : Nat} {e : TypeId} {size : Nat} {v : Value} {cs : List (List Value)} (h : SlL w base e size v cs) {k : Nat} {xs : Array Value} (hk : k < base) : SlL (w.setRow k xs) base e size v cs :=
 h.grown (row := some k) ⟨rfl, rfl, rfl, by simp [World.setRow], fun j _ hj => setRow_other _ _ _ _ (fun e => hj (by rw [e]))⟩ (fun r e => by cases e; exact hk)
theorem SlL.own {w : World} {base : Nat} {e : TypeId} {size : Nat} {v : Value} {cs : List (List Value)} (h : SlL w base e size v cs) : ∀ r, v.ownBlock = some r → base ≤ r := fun r hr => (h.2.2.lt r hr).1
theorem SlL.shape {w : World} {base : Nat} {e : TypeId} {size : Nat} {v : Value} {cs : List (List Value)} (h : SlL w base e size v cs) : (v = .slice none 0 0 ∧ cs = []) ∨ ∃ g cap, v = .slice (some ⟨g, 0, none⟩) cs.length cap := by
 obtain ⟨_, _, _, h | ⟨g, cap, cur, rfl, _⟩⟩ := h
 · exact .inl ⟨h.1, List.eq_nil_of_length_eq_zero h.2⟩
 · exact .inr ⟨g, cap, rfl⟩
theorem flat_at : ∀ (cs : List (List Value)) (size i : Nat) (c : List Value) (j : Nat) (u : Value), (∀ c ∈ cs, c.length = size) → cs[i]? = some c → c[j]? = some u → cs.flatten[i * size + j]? = some u
 | [], _, _, _, _, _, _, h, _ => by simp at h
 | g :: cs, size, 0, c, j, u, _, h, hj => by
  simp only [List.getElem?_cons_zero, Option.some.injEq] at h
  subst h
  rw [List.flatten_cons, Nat.zero_mul, Nat.zero_add, List.getElem?_append_left (List.getElem?_eq_some_iff.1 hj).1]
  exact hj
 | g :: cs, size, i + 1, c, j, u, hs, h, hj => by
  have hg : g.length = size := hs g (by simp)
  have e1 : (i + 1) * size = i * size + size := Nat.succ_mul i size
  rw [List.flatten_cons, List.getElem?_append_right (by rw [hg]; omega), hg]
  have := flat_at cs size i c j u (fun c hc => hs c (by simp [hc])) (by simpa using h) hj
  rw [show (i + 1) * size + j - size = i * size + j by omega]
  exact this
/-- the cells of one element -/
theorem SlL.range {w : World} {base : Nat} {e : TypeId} {size g n cap : Nat} {cs : List (List Value)} (h : SlL w base e size (.slice (some ⟨g, 0, none⟩) n cap) cs) {i : Nat} {c : List Value} (hi : cs[i]? = some c) : w.rangeAt g (i * size) c := by
 intro j u hu
 obtain ⟨_, hs, hl, h | ⟨g', cap', cur, hv, hg, hh, h1, h2, h3, h4⟩⟩ := h
 · cases h.1
 · injection hv with e1 e2 e3
   injection e1 with e1
   injection e1 with e1
   subst e1
   rw [cell_of_row _ _ _ _ _ _ hh]
   have hc : cs.flatten[i * size + j]? = some u := flat_at cs size i c j u hs hi hu
   rw [← h4] at hc
   have hlt : i * size + j < cs.length * size := by
    have := (List.getElem?_eq_some_iff.1 hc).1
    rw [List.length_take] at this
    omega
   rw [List.getElem?_take_of_lt hlt] at hc
   rw [← Array.getElem?_toList]
   exact hc
theorem One.row {w : World} {b : Nat} {t : TypeId} {v : Value} (h : One w b t v) (u : Value) : One (w.setRow b #[u]) b t u := by
 unfold One at *
 exact setRow_heap _ _ _ _ _ _ h
theorem SlL.one {w : World} {base : Nat} {e : TypeId} {size : Nat} {v : Value} {cs : List (List Value)} (h : SlL w base e size v cs) : v.oneCell' = true := by
 rcases h.shape with ⟨rfl, _⟩ | ⟨g, cap, rfl⟩ <;> rfl
theorem SlL.base {w : World} {base base' : Nat} {e : TypeId} {size : Nat} {v : Value} {cs : List (List Value)} (h : SlL w base e size v cs) (hb : base' ≤ base) : SlL w base' e size v cs := ⟨Nat.le_trans hb h.1, h.2.1, by
 obtain ⟨_, _, hl, h | ⟨g, cap, cur, hv, hg', r⟩⟩ := h
 · exact ⟨hl, .inl h⟩
 · exact ⟨hl, .inr ⟨g, cap, cur, hv, Nat.le_trans hb hg', r⟩⟩⟩
/-- .. whose block lies below top -/
def SlT (w : World) (base top : Nat) (e : TypeId) (size : Nat) (v : Value) (cs : List (List Value)) : Prop := SlL w base e size v cs ∧ ∀ r, v.ownBlock = some r → r < top
theorem SlL.top {w : World} {base : Nat} {e : TypeId} {size : Nat} {v : Value} {cs : List (List Value)} (h : SlL w base e size v cs) : SlT w base w.heap.size e size v cs := ⟨h, fun r hr => (h.2.2.lt r hr).2⟩
theorem SlT.lt {w : World} {base top : Nat} {e : TypeId} {size : Nat} {v : Value} {cs : List (List Value)} (h : SlT w base top e size v cs) : base ≤ w.heap.size := h.1.1
theorem SlT.alloc {w : World} {base top : Nat} {e : TypeId} {size : Nat} {v : Value} {cs : List (List Value)} (h : SlT w base top e size v cs) (o : Obj) : SlT (w.alloc o) base top e size v cs := ⟨h.1.alloc o, h.2⟩
theorem SlT.below {w w' : World} {base top : Nat} {e : TypeId} {size : Nat} {v : Value} {cs : List (List Value)} (h : SlT w base top e size v cs) (hb : Below w.heap.size w w') (hl : base ≤ w.heap.size) : SlT w' base top e size v cs := ⟨h.1.below hb hl, h.2⟩
theorem SlT.zw {w w' : World} {base top : Nat} {e : TypeId} {size : Nat} {v : Value} {cs : List (List Value)} (h : SlT w base top e size v cs) (hb : Below w.heap.size w w') : SlT w' base top e size v cs := SlT.below h hb (SlT.lt h)
theorem SlT.rowOther {w : World} {base top : Nat} {e : TypeId} {size : Nat} {v : Value} {cs : List (List Value)} (h : SlT w base top e size v cs) {k : Nat} {xs : Array Value} (hk : k < base ∨ top ≤ k) : SlT (w.setRow k xs) base top e size v cs :=
 ⟨⟨by simpa [World.setRow] using h.1.1, h.1.2.1, h.1.2.2.kept (row := some k) ⟨rfl, rfl, rfl, by simp [World.setRow], fun j _ hj => setRow_other _ _ _ _ (fun e => hj (by rw [e]))⟩ (by
  cases hv : v.ownBlock with
  | none => exact .inl rfl
  | some j =>
   right
   intro he
   cases he
   have h1 := (h.1.2.2.lt k hv).1
   have h2 := h.2 k hv
   omega)⟩, h.2⟩
theorem SlL.some {w : World} {base : Nat} {e : TypeId} {size n cap : Nat} {ad : Option Addr} {cs : List (List Value)} (h : SlL w base e size (.slice ad n cap) cs) (hn : 0 < cs.length) : ∃ g, ad = some ⟨g, 0, none⟩ := by
 rcases h.shape with ⟨_, h2⟩ | ⟨g, cap', h1⟩
 · rw [h2] at hn; simp at hn
 · injection h1 with h1; exact ⟨g, h1⟩
/-- block b is the row cs -/
def Row (w : World) (b : Nat) (t : TypeId) (cs : Array Value) : Prop := w.heap[b]? = some (.cells cs t (0, 0))
theorem Row.new (w : World) (t : TypeId) (cs : Array Value) : Row (w.alloc (.cells cs t)) w.heap.size t cs := heap_alloc_last w _
theorem Row.lt {w : World} {b : Nat} {t : TypeId} {cs : Array Value} (h : Row w b t cs) : b < w.heap.size := by
 unfold Row at h
 exact (Array.getElem?_eq_some_iff.1 h).1
theorem Row.of {w w' : World} {b : Nat} {t : TypeId} {cs : Array Value} (h : Row w b t cs) (e : w'.heap[b]? = w.heap[b]?) : Row w' b t cs := by unfold Row at *; rw [e]; exact h
theorem Row.alloc {w : World} {b : Nat} {t : TypeId} {cs : Array Value} (h : Row w b t cs) (o : Obj) : Row (w.alloc o) b t cs := h.of (Below.heap_alloc _ _ _ h.lt)
theorem Row.below {w w' : World} {B b : Nat} {t : TypeId} {cs : Array Value} (h : Row w b t cs) (hb : Below B w w') (e : b < B) : Row w' b t cs := h.of (hb.block b e)
theorem Row.zw {w w' : World} {b : Nat} {t : TypeId} {cs : Array Value} (h : Row w b t cs) (hb : Below w.heap.size w w') : Row w' b t cs := Row.below h hb (Row.lt h)
theorem Row.rowOther {w : World} {b : Nat} {t : TypeId} {cs : Array Value} (h : Row w b t cs) {j : Nat} {xs : Array Value} (e : b ≠ j) : Row (w.setRow j xs) b t cs := h.of (setRow_other _ _ _ _ e)
theorem Row.row {w : World} {b : Nat} {t : TypeId} {cs : Array Value} (h : Row w b t cs) (xs : Array Value) : Row (w.setRow b xs) b t xs := by
 unfold Row at *
 exact setRow_heap _ _ _ _ _ _ h
theorem Row.cell {w : World} {b : Nat} {t : TypeId} {cs : Array Value} (h : Row w b t cs) {i : Nat} {v : Value} (hi : cs[i]? = some v) : w.cell? ⟨b, i, none⟩ = some v := by
 rw [cell_of_row _ _ _ _ _ _ h]; exact hi
theorem Row.range {w : World} {b : Nat} {t : TypeId} {c : List Value} (h : Row w b t c.toArray) : w.rangeAt b 0 c := by
 intro j v hv
 rw [Nat.zero_add, cell_of_row _ _ _ _ _ _ h]
 simpa using hv
attribute [irreducible] Row
attribute [irreducible] SlL
end Go.Proofs.Ytobcdekochenfaa
namespace Go.Proofs.Ytobcdekochenfaa
open Go Go.RowKit
set_option linter.unusedVariables false
/-- what is no cells from B on lies as it lay -/
def KF (B : Nat) (W W' : World) : Prop := KeepsFrom B W W'
theorem KF.refl (B : Nat) (W : World) : KF B W W := KeepsFrom.refl B W
theorem KF.lt {B : Nat} {W W' : World} (h : KF B W W') : W.heap.size ≤ W'.heap.size := h.size
theorem KF.below {B : Nat} {W W1 W2 : World} (h : KF B W W1) (hb : Below W1.heap.size W1 W2) (_ : W.heap.size ≤ W1.heap.size) : KF B W W2 :=
 KeepsFrom.trans h ⟨hb.size, fun k _ _ hk _ => (hb.block k (Array.getElem?_eq_some_iff.1 hk).1).trans hk⟩
theorem KF.zw {B : Nat} {W W1 W2 : World} (h : KF B W W1) (hb : Below W1.heap.size W1 W2) : KF B W W2 := KF.below h hb (KF.lt h)
theorem KF.alloc {B : Nat} {W W1 : World} (h : KF B W W1) (o : Obj) : KF B W (W1.alloc o) := h.below (zal _ _) h.size
theorem KF.rowOther {B : Nat} {W W1 : World} (h : KF B W W1) {k : Nat} {cs : Array Value} (e : k < B ∨ W.heap.size ≤ k) : KF B W (W1.setRow k cs) :=
 ⟨by simpa [World.setRow] using h.size, fun j o hB hj ho => by
  have hlt := (Array.getElem?_eq_some_iff.1 hj).1
  rw [setRow_other _ _ _ _ (by omega)]
  exact h.same j o hB hj ho⟩
theorem KF.grown {B : Nat} {W W1 W2 : World} {row : Option Nat} (h : KF B W W1) (hg : W1.grownBy W2 row) (hr : ∀ r, row = some r → ∃ cur t f, W1.heap[r]? = some (.cells cur t f)) : KF B W W2 :=
 KeepsFrom.trans h ⟨hg.size, fun k o _ hk ho => (hg.block k (Array.getElem?_eq_some_iff.1 hk).1 (fun e => by
  obtain ⟨cur, t, f, hc⟩ := hr k e.symm
  rw [hk] at hc; cases hc; cases ho)).trans hk⟩
/-- the block for deferred calls -/
def DF (W : World) (D : Nat) : Prop := W.heap[D]? = some (.deferred (some []))
theorem DF.lt {W : World} {D : Nat} (h : DF W D) : D < W.heap.size := (Array.getElem?_eq_some_iff.1 h).1
theorem DF.of {W W' : World} {D : Nat} (h : DF W D) (e : W'.heap[D]? = W.heap[D]?) : DF W' D := by unfold DF at *; rw [e]; exact h
theorem DF.below {W W' : World} {B D : Nat} (h : DF W D) (hb : Below B W W') (e : D < B) : DF W' D := h.of (hb.block D e)
theorem DF.zw {W W' : World} {D : Nat} (h : DF W D) (hb : Below W.heap.size W W') : DF W' D := DF.below h hb (DF.lt h)
theorem DF.alloc {W : World} {D : Nat} (h : DF W D) (o : Obj) : DF (W.alloc o) D := h.below (zal _ _) h.lt
theorem DF.rowOther {W : World} {D k : Nat} {cs : Array Value} (h : DF W D) (e : D ≠ k) : DF (W.setRow k cs) D := h.of (setRow_other _ _ _ _ e)
theorem DF.grown {W W1 : World} {D : Nat} {row : Option Nat} (h : DF W D) (hg : W.grownBy W1 row) (hr : ∀ r, row = some r → ∃ cur t f, W.heap[r]? = some (.cells cur t f)) : DF W1 D :=
 h.of (hg.block D h.lt (fun e => by
  obtain ⟨cur, t, f, hc⟩ := hr D e.symm
  unfold DF at h
  rw [h] at hc; cases hc))
end Go.Proofs.Ytobcdekochenfaa
end
section
namespace Go.Proofs.Ytobcdekochenfaa
open Go Go.RowKit Go.Shelf
set_option linter.unusedVariables false
set_option linter.unusedSimpArgs false
attribute [local go_sem] Oper.semAt_some
/-- the numbers from a on, k of them -/
abbrev NumN (a k : Nat) := { N : Nat // N ∈ List.range' a k }
def vals {a k : Nat} (l : List (NumN a k)) : List Nat := l.map (·.1)
/-- the captured cells stay -/
def KpN (ba bb bp : Nat) (W W' : World) : Prop := W'.heap[ba]? = W.heap[ba]? ∧ W'.heap[bb]? = W.heap[bb]? ∧ W'.heap[bp]? = W.heap[bp]?
theorem KpN.refl (ba bb bp : Nat) (W : World) : KpN ba bb bp W W := ⟨rfl, rfl, rfl⟩
theorem KpN.trans {ba bb bp : Nat} {A B C : World} (h : KpN ba bb bp A B) (k : KpN ba bb bp B C) : KpN ba bb bp A C := ⟨k.1.trans h.1, k.2.1.trans h.2.1, k.2.2.trans h.2.2⟩
theorem One.same {w w' : World} {b : Nat} {t : TypeId} {v : Value} (h : One w b t v) (h' : One w' b t v) : w'.heap[b]? = w.heap[b]? := by unfold One at *; rw [h, h']
end Go.Proofs.Ytobcdekochenfaa
end
section
namespace Go.Proofs.Ytobcdekochenfaa
open Go Go.RowKit
set_option linter.unusedVariables false
set_option linter.unusedSimpArgs false
attribute [local irreducible] ofN
/-- the cells of a factor -/
def facC (f : Nat → Nat) (k : Nat) : List Value := bl 64 f ++ [.int .i64 (k : Int)]
def facRows (p : Nat) (L : List (Nat × Nat)) : List (List Value) := L.map fun x => facC (ofN p x.1) x.2
/-- the heap has at least n blocks -/
def SzG (n : Nat) (W : World) : Prop := n ≤ W.heap.size
theorem SzG.lt {n : Nat} {W : World} (h : SzG n W) : n ≤ W.heap.size := h
theorem SzG.below {n B : Nat} {W W' : World} (h : SzG n W) (hb : Below B W W') (_ : n ≤ W.heap.size) : SzG n W' := Nat.le_trans h hb.size
theorem SzG.zw {n : Nat} {W W' : World} (h : SzG n W) (hb : Below W.heap.size W W') : SzG n W' := SzG.below h hb (SzG.lt h)
theorem SzG.alloc {n : Nat} {W : World} (h : SzG n W) (o : Obj) : SzG n (W.alloc o) := h.below (zal _ _) h
theorem SzG.rowOther {n k : Nat} {W : World} {cs : Array Value} (h : SzG n W) (_ : 0 ≤ k) : SzG n (W.setRow k cs) := by unfold SzG at *; simpa [World.setRow] using h
end Go.Proofs.Ytobcdekochenfaa
namespace Go.Proofs.Ytobcdekochenfaa
open Go Go.RowKit
set_option linter.unusedVariables false
set_option linter.unusedSimpArgs false
attribute [local irreducible] ofN
def FV (p : Nat) (n0 : Nat) (x : Nat × Nat) (l : List (Nat × Nat)) (y : Value) (w : World) : Prop := SlL w n0 149 65 y (facRows p (x :: l))
theorem FV.below {p n0 : Nat} {x : Nat × Nat} {l : List (Nat × Nat)} {y : Value} {w w' : World} (h : FV p n0 x l y w) (hb : Below w.heap.size w w') : FV p n0 x l y w' := SlL.below h hb h.lt
end Go.Proofs.Ytobcdekochenfaa
end
section
namespace Go.Proofs.Ytobcdekochenfaa
open Go Go.RowKit
set_option linter.unusedVariables false
set_option linter.unusedSimpArgs false
/-- the sum of the digits -/
def dgS (p : Nat) : Nat → Nat → Nat
 | 0, _ => 0
 | n + 1, k => if k = 0 then 0 else k % p + dgS p n (k / p)
end Go.Proofs.Ytobcdekochenfaa
end
section
namespace Go.Proofs.Ytobcdekochenfaa
open Go Go.RowKit
set_option linter.unusedVariables false
set_option linter.unusedSimpArgs false
/-- the mark of a cell -/
def mkF (q : Nat) : Value := if q % 65 = 64 then .int .i64 (1 + (q : Int)) else .int .u8 ((1 + (q : Int)) % 256)
/-- the first q cells of a slice are marked -/
def MkF (w : World) (base : Nat) (v : Value) (n q : Nat) : Prop := ∃ ys, w.ownsRow base 149 65 v n ys ∧ ∀ k, k < q → ys[k]? = some (mkF k)
theorem MkF.own {w : World} {base n q : Nat} {v : Value} (h : MkF w base v n q) : ∀ r, v.ownBlock = Option.some r → base ≤ r ∧ r < w.heap.size := by
 obtain ⟨ys, h1, _⟩ := h
 exact fun r hr => h1.lt r hr
theorem MkF.grown {w w' : World} {base n q : Nat} {v : Value} {row : Option Nat} (h : MkF w base v n q) (hg : w.grownBy w' row) (hr : v.ownBlock = none ∨ v.ownBlock ≠ row) : MkF w' base v n q := by
 obtain ⟨ys, h1, h2⟩ := h
 exact ⟨ys, h1.kept hg hr, h2⟩
theorem MkF.below {w w' : World} {base n q : Nat} {v : Value} (h : MkF w base v n q) (hb : Below w.heap.size w w') : MkF w' base v n q :=
 h.grown (row := none) ⟨hb.os, hb.tape, hb.output, hb.size, fun k hk _ => hb.block k hk⟩ (by
  cases hv : v.ownBlock with
  | none => exact .inl rfl
  | some k => exact .inr (by simp))
theorem MkF.step {w : World} {base n q g cap : Nat} (h : MkF w base (.slice (some ⟨g, 0, none⟩) n cap) n q) (hq : q < n * 65) :
 (∃ u, w.cell? ⟨g, q, none⟩ = Option.some u) ∧ w.frozen? ⟨g, q, none⟩ = false ∧ MkF (w.setCell ⟨g, q, none⟩ (mkF q)) base (.slice (some ⟨g, 0, none⟩) n cap) n (q + 1) ∧ w.grownBy (w.setCell ⟨g, q, none⟩ (mkF q)) (Option.some g) := by
 obtain ⟨ys, h1, h2⟩ := h
 have hl : q < ys.length := by rw [h1.1]; exact hq
 obtain ⟨s1, s2⟩ := h1.stored q (mkF q)
 refine ⟨⟨ys[q], by rw [h1.cellAt q hq]; exact List.getElem?_eq_getElem hl⟩, h1.frozenAt q, ⟨_, s1, fun k hk => ?_⟩, s2⟩
 rw [List.getElem?_set]
 by_cases e : q = k
 · subst e; rw [if_pos rfl, if_pos hl]
 · rw [if_neg e]; exact h2 k (by omega)
theorem MkF.cell {w : World} {base n q g cap k : Nat} (h : MkF w base (.slice (some ⟨g, 0, none⟩) n cap) n q) (hk : k < q) (hq : q ≤ n * 65) : w.cell? ⟨g, k, none⟩ = Option.some (mkF k) := by
 obtain ⟨ys, h1, h2⟩ := h
 rw [h1.cellAt k (by omega)]
 exact h2 k hk
theorem MkF.same {w : World} {base n q : Nat} {v : Value} (h : MkF w base v n q) (r : Nat) (e : r = q) : MkF w base v n r := e ▸ h
attribute [local irreducible] mkF MkF
end Go.Proofs.Ytobcdekochenfaa
namespace Go.Proofs.Ytobcdekochenfaa
open Go Go.RowKit
set_option linter.unusedVariables false
set_option linter.unusedSimpArgs false
/-- the mark of a cell -/
def mkW (q : Nat) : Value := .int .u8 ((1 + (q : Int)) % 256)
/-- the first q cells of a slice are marked -/
def MkP (w : World) (base : Nat) (v : Value) (n q : Nat) : Prop := ∃ ys, w.ownsRow base 23 64 v n ys ∧ ∀ k, k < q → ys[k]? = some (mkW k)
theorem MkP.own {w : World} {base n q : Nat} {v : Value} (h : MkP w base v n q) : ∀ r, v.ownBlock = Option.some r → base ≤ r ∧ r < w.heap.size := by
 obtain ⟨ys, h1, _⟩ := h
 exact fun r hr => h1.lt r hr
theorem MkP.grown {w w' : World} {base n q : Nat} {v : Value} {row : Option Nat} (h : MkP w base v n q) (hg : w.grownBy w' row) (hr : v.ownBlock = none ∨ v.ownBlock ≠ row) : MkP w' base v n q := by
 obtain ⟨ys, h1, h2⟩ := h
 exact ⟨ys, h1.kept hg hr, h2⟩
theorem MkP.below {w w' : World} {base n q : Nat} {v : Value} (h : MkP w base v n q) (hb : Below w.heap.size w w') : MkP w' base v n q :=
 h.grown (row := none) ⟨hb.os, hb.tape, hb.output, hb.size, fun k hk _ => hb.block k hk⟩ (by
  cases hv : v.ownBlock with
  | none => exact .inl rfl
  | some k => exact .inr (by simp))
theorem MkP.step {w : World} {base n q g cap : Nat} (h : MkP w base (.slice (some ⟨g, 0, none⟩) n cap) n q) (hq : q < n * 64) :
 (∃ u, w.cell? ⟨g, q, none⟩ = Option.some u) ∧ w.frozen? ⟨g, q, none⟩ = false ∧ MkP (w.setCell ⟨g, q, none⟩ (mkW q)) base (.slice (some ⟨g, 0, none⟩) n cap) n (q + 1) ∧ w.grownBy (w.setCell ⟨g, q, none⟩ (mkW q)) (Option.some g) := by
 obtain ⟨ys, h1, h2⟩ := h
 have hl : q < ys.length := by rw [h1.1]; exact hq
 obtain ⟨s1, s2⟩ := h1.stored q (mkW q)
 refine ⟨⟨ys[q], by rw [h1.cellAt q hq]; exact List.getElem?_eq_getElem hl⟩, h1.frozenAt q, ⟨_, s1, fun k hk => ?_⟩, s2⟩
 rw [List.getElem?_set]
 by_cases e : q = k
 · subst e; rw [if_pos rfl, if_pos hl]
 · rw [if_neg e]; exact h2 k (by omega)
theorem MkP.cell {w : World} {base n q g cap k : Nat} (h : MkP w base (.slice (some ⟨g, 0, none⟩) n cap) n q) (hk : k < q) (hq : q ≤ n * 64) : w.cell? ⟨g, k, none⟩ = Option.some (mkW k) := by
 obtain ⟨ys, h1, h2⟩ := h
 rw [h1.cellAt k (by omega)]
 exact h2 k hk
theorem MkP.same {w : World} {base n q : Nat} {v : Value} (h : MkP w base v n q) (r : Nat) (e : r = q) : MkP w base v n r := e ▸ h
attribute [local irreducible] mkW MkP
end Go.Proofs.Ytobcdekochenfaa
end
section
namespace Go.Proofs.Ytobcdekochenfaa
open Go Go.RowKit
set_option linter.unusedVariables false
set_option linter.unusedSimpArgs false
/-- the mark of a cell -/
def mkI (q : Nat) : Value := .int .i64 (1 + (q : Int))
/-- the first q cells of a slice are marked -/
def MkI (w : World) (base : Nat) (v : Value) (n q : Nat) : Prop := ∃ ys, w.ownsRow base 2 1 v n ys ∧ ∀ k, k < q → ys[k]? = some (mkI k)
theorem MkI.own {w : World} {base n q : Nat} {v : Value} (h : MkI w base v n q) : ∀ r, v.ownBlock = Option.some r → base ≤ r ∧ r < w.heap.size := by
 obtain ⟨ys, h1, _⟩ := h
 exact fun r hr => h1.lt r hr
theorem MkI.grown {w w' : World} {base n q : Nat} {v : Value} {row : Option Nat} (h : MkI w base v n q) (hg : w.grownBy w' row) (hr : v.ownBlock = none ∨ v.ownBlock ≠ row) : MkI w' base v n q := by
 obtain ⟨ys, h1, h2⟩ := h
 exact ⟨ys, h1.kept hg hr, h2⟩
theorem MkI.below {w w' : World} {base n q : Nat} {v : Value} (h : MkI w base v n q) (hb : Below w.heap.size w w') : MkI w' base v n q :=
 h.grown (row := none) ⟨hb.os, hb.tape, hb.output, hb.size, fun k hk _ => hb.block k hk⟩ (by
  cases hv : v.ownBlock with
  | none => exact .inl rfl
  | some k => exact .inr (by simp))
theorem MkI.step {w : World} {base n q g cap : Nat} (h : MkI w base (.slice (some ⟨g, 0, none⟩) n cap) n q) (hq : q < n * 1) :
 (∃ u, w.cell? ⟨g, q, none⟩ = Option.some u) ∧ w.frozen? ⟨g, q, none⟩ = false ∧ MkI (w.setCell ⟨g, q, none⟩ (mkI q)) base (.slice (some ⟨g, 0, none⟩) n cap) n (q + 1) ∧ w.grownBy (w.setCell ⟨g, q, none⟩ (mkI q)) (Option.some g) := by
 obtain ⟨ys, h1, h2⟩ := h
 have hl : q < ys.length := by rw [h1.1]; exact hq
 obtain ⟨s1, s2⟩ := h1.stored q (mkI q)
 refine ⟨⟨ys[q], by rw [h1.cellAt q hq]; exact List.getElem?_eq_getElem hl⟩, h1.frozenAt q, ⟨_, s1, fun k hk => ?_⟩, s2⟩
 rw [List.getElem?_set]
 by_cases e : q = k
 · subst e; rw [if_pos rfl, if_pos hl]
 · rw [if_neg e]; exact h2 k (by omega)
theorem MkI.cell {w : World} {base n q g cap k : Nat} (h : MkI w base (.slice (some ⟨g, 0, none⟩) n cap) n q) (hk : k < q) (hq : q ≤ n * 1) : w.cell? ⟨g, k, none⟩ = Option.some (mkI k) := by
 obtain ⟨ys, h1, h2⟩ := h
 rw [h1.cellAt k (by omega)]
 exact h2 k hk
theorem MkI.same {w : World} {base n q : Nat} {v : Value} (h : MkI w base v n q) (r : Nat) (e : r = q) : MkI w base v n r := e ▸ h
attribute [local irreducible] mkI MkI
end Go.Proofs.Ytobcdekochenfaa
end
section
namespace Go.Proofs.Ytobcdekochenfaa
open Go Go.RowKit
set_option linter.unusedVariables false
set_option linter.unusedSimpArgs false
/-- the code of a prime and a number in a range -/
def rgD (p n lo hi : Int) : Int := if okP p = true then (if lo ≤ n ∧ n ≤ hi then 0 else 2) else 1
theorem rgD_cases {p n lo hi : Int} : (∃ c, rgD p n lo hi = c ∧ c ≠ 0 ∧ (c = 1 ∨ c = 2)) ∨ (rgD p n lo hi = 0 ∧ okP p = true ∧ lo ≤ n ∧ n ≤ hi) := by
 unfold rgD
 by_cases h : okP p = true
 · by_cases h2 : lo ≤ n ∧ n ≤ hi
   · right; rw [if_pos h, if_pos h2]; exact ⟨rfl, h, h2⟩
   · left; rw [if_pos h, if_neg h2]; exact ⟨2, rfl, by omega, .inr rfl⟩
 · left; rw [if_neg h]; exact ⟨1, rfl, by omega, .inl rfl⟩
set_option maxRecDepth 100000 in
set_option maxHeartbeats 3200000 in
theorem l04Rng_any (p n lo hi : Int) (w : World) : Calls Try.prog 70 #[.int .i64 p, .int .i64 n, .int .i64 lo, .int .i64 hi] w fun e w' => e = .returned (.int .i64 (rgD p n lo hi)) ∧ w = w' := by
 go_enter Try.func70, Try.ntmps70
 cases hp : okP p with
 | false =>
  go_wp2_with (first | (go_at_call 134; refine (l01Prime_any p _).mono ?_; rintro e wS ⟨rfl, rfl⟩; rw [hp]))
  go_ret
  exact ⟨by unfold rgD; rw [hp]; rfl, rfl⟩
 | true =>
  by_cases hr : lo ≤ n ∧ n ≤ hi
  · have HV := Lib.hid (show rgD p n lo hi = 0 by unfold rgD; rw [if_pos hp, if_pos hr])
    go_wp2_with (first | (go_at_call 134; refine (l01Prime_any p _).mono ?_; rintro e wS ⟨rfl, rfl⟩; rw [hp]) | (go_at_call 85; refine (l01In_yes n lo hi hr _).mono ?_; rintro e wS ⟨rfl, rfl⟩))
    go_ret
    exact ⟨by rw [HV.out]; rfl, rfl⟩
  · have HV := Lib.hid (show rgD p n lo hi = 2 by unfold rgD; rw [if_pos hp, if_neg hr])
    go_wp2_with (first | (go_at_call 134; refine (l01Prime_any p _).mono ?_; rintro e wS ⟨rfl, rfl⟩; rw [hp]) | (go_at_call 85; refine (l01In_no n lo hi hr _).mono ?_; rintro e wS ⟨rfl, rfl⟩))
    go_ret
    exact ⟨by rw [HV.out]; rfl, rfl⟩
end Go.Proofs.Ytobcdekochenfaa
end
section
namespace Go.Proofs.Ytobcdekochenfaa
open Go Go.RowKit
set_option linter.unusedVariables false
set_option linter.unusedSimpArgs false
theorem dgS_z (p fu : Nat) : dgS p fu 0 = 0 := by cases fu <;> simp [dgS]
theorem dgS_s {p fu m : Nat} (h : 0 < m) : dgS p (fu + 1) m = m % p + dgS p fu (m / p) := by rw [dgS, if_neg (by omega)]
theorem dgS_le {p : Nat} (hp : 2 ≤ p) : ∀ (fu m : Nat), dgS p fu m ≤ m
 | 0, m => by rw [dgS]; omega
 | fu + 1, m => by
  by_cases h : 0 < m
  · rw [dgS_s h]
    have h1 := dgS_le hp fu (m / p)
    have h2 := Nat.div_add_mod m p
    have h3 : m / p ≤ p * (m / p) := Nat.le_mul_of_pos_left _ (by omega)
    omega
  · rw [show m = 0 by omega, dgS_z]; omega
def dgN (p k : Nat) : Nat := dgS p (k + 1) k
theorem dgN_le {p k : Nat} (hp : 2 ≤ p) : dgN p k ≤ k := dgS_le hp _ _
theorem dgN_at (p k : Nat) : dgN p k = dgS p (k + 1) k := rfl
attribute [local irreducible] dgS dgN rgD
set_option maxRecDepth 100000 in
set_option maxHeartbeats 3200000 in
theorem digitSum_any (p k : Nat) (w : World) (p2 : 2 ≤ p) (p7 : p ≤ 7) (hk : k ≤ 1000000000000) : Calls Try.prog 72 #[.int .i64 (p : Int), .int .i64 (k : Int)] w fun e w' => e = .returned (.int .i64 (dgN p k : Nat)) ∧ w = w' := by
 obtain ⟨N, hN⟩ : ∃ N, N = dgN p k := ⟨_, rfl⟩
 have hNk : N ≤ k := by rw [hN]; exact dgN_le p2
 have HN := Lib.hid (show dgS p (k + 1) k = N by rw [hN, dgN_at])
 rw [← hN]
 clear hN
 go_enter Try.func72, Try.ntmps72
 go_wp2_with fail
 go_loopw [1, 5] (fun i x wr => ∃ m t fu : Nat, i = .int .i64 (m : Int) ∧ x = .int .i64 (t : Int) ∧ m < fu ∧ m ≤ k ∧ Hid (t + dgS p fu m = N) ∧ t ≤ N ∧ wr = w) (fun i _ _ => (intOf i).toNat)
 case atStart => exact ⟨k, 0, k + 1, rfl, rfl, by omega, Nat.le_refl _, Lib.hid (by rw [HN.out]; omega), Nat.zero_le _, rfl⟩
 case round =>
  obtain ⟨m, t, fu, rfl, rfl, hmf, hmk, hT, htN, rfl⟩ := hrel
  by_cases h0 : 0 < m
  · obtain ⟨fu, rfl⟩ : ∃ g, fu = g + 1 := ⟨fu - 1, by omega⟩
    have h0i : 0 < (m : Int) := by omega
    have h0j : (m : Int) > 0 := by omega
    have tq1 : (m : Int).tmod (p : Int) = ((m % p : Nat) : Int) := by rw [Int.tmod_eq_emod_of_nonneg (by omega)]; rfl
    have tq2 : (m : Int).tdiv (p : Int) = ((m / p : Nat) : Int) := by rw [Int.tdiv_eq_ediv_of_nonneg (by omega)]; rfl
    have hm2 : m / p < m := Nat.div_lt_self h0 (by omega)
    have hT2 := hT.out
    rw [dgS_s h0] at hT2
    have hR7 : m % p < p := Nat.mod_lt _ (by omega)
    obtain ⟨R, hR⟩ : ∃ R, R = m % p := ⟨_, rfl⟩
    obtain ⟨q, hq⟩ : ∃ q, q = m / p := ⟨_, rfl⟩
    rw [← hR] at tq1 hT2 hR7
    rw [← hq] at tq2 hT2 hm2
    have hT3 := Lib.hid (show (t + R) + dgS p fu q = N by omega)
    have hTR : t + R ≤ N := by omega
    have hpn : ¬ (p : Int) = 0 := by omega
    clear hT hT2 hR hq
    go_wp2_with fail
    go_roundw
    case rel => exact ⟨q, t + R, fu, by go_num, by go_num, by omega, by omega, hT3, hTR, trivial⟩
    case measure => simp [intOf] <;> omega
  · obtain rfl : m = 0 := by omega
    have e : t = N := by have := hT.out; rw [dgS_z] at this; omega
    subst e
    have h0i : ¬ (((0 : Nat) : Int) > 0) := by omega
    clear hT
    go_wp2_with fail
    go_ret
    exact ⟨rfl, rfl⟩
set_option maxRecDepth 100000 in
set_option maxHeartbeats 3200000 in
theorem l08Digits_any (p k : Nat) (w : World) (p2 : 2 ≤ p) (p7 : p ≤ 7) (hk : k ≤ 1000000000000) : Calls Try.prog 71 #[.int .i64 (p : Int), .int .i64 (k : Int)] w fun e w' => e = .returned (.int .i64 (dgN p k : Nat)) ∧ w = w' := by
 obtain ⟨N, hN⟩ : ∃ N, N = dgN p k := ⟨_, rfl⟩
 have hNk : N ≤ k := by rw [hN]; exact dgN_le p2
 have HN := Lib.hid (show dgS p (k + 1) k = N by rw [hN, dgN_at])
 rw [← hN]
 clear hN
 go_enter Try.func71, Try.ntmps71
 go_wp2_with fail
 go_loopw [1, 5] (fun i x wr => ∃ m t fu : Nat, i = .int .i64 (m : Int) ∧ x = .int .i64 (t : Int) ∧ m < fu ∧ m ≤ k ∧ Hid (t + dgS p fu m = N) ∧ t ≤ N ∧ wr = w) (fun i _ _ => (intOf i).toNat)
 case atStart => exact ⟨k, 0, k + 1, rfl, rfl, by omega, Nat.le_refl _, Lib.hid (by rw [HN.out]; omega), Nat.zero_le _, rfl⟩
 case round =>
  obtain ⟨m, t, fu, rfl, rfl, hmf, hmk, hT, htN, rfl⟩ := hrel
  by_cases h0 : 0 < m
  · obtain ⟨fu, rfl⟩ : ∃ g, fu = g + 1 := ⟨fu - 1, by omega⟩
    have h0i : 0 < (m : Int) := by omega
    have h0j : (m : Int) > 0 := by omega
    have tq1 : (m : Int).tmod (p : Int) = ((m % p : Nat) : Int) := by rw [Int.tmod_eq_emod_of_nonneg (by omega)]; rfl
    have tq2 : (m : Int).tdiv (p : Int) = ((m / p : Nat) : Int) := by rw [Int.tdiv_eq_ediv_of_nonneg (by omega)]; rfl
    have hm2 : m / p < m := Nat.div_lt_self h0 (by omega)
    have hT2 := hT.out
    rw [dgS_s h0] at hT2
    have hR7 : m % p < p := Nat.mod_lt _ (by omega)
    obtain ⟨R, hR⟩ : ∃ R, R = m % p := ⟨_, rfl⟩
    obtain ⟨q, hq⟩ : ∃ q, q = m / p := ⟨_, rfl⟩
    rw [← hR] at tq1 hT2 hR7
    rw [← hq] at tq2 hT2 hm2
    have hT3 := Lib.hid (show (t + R) + dgS p fu q = N by omega)
    have hTR : t + R ≤ N := by omega
    have hpn : ¬ (p : Int) = 0 := by omega
    clear hT hT2 hR hq
    go_wp2_with fail
    go_roundw
    case rel => exact ⟨q, t + R, fu, by go_num, by go_num, by omega, by omega, hT3, hTR, trivial⟩
    case measure => simp [intOf] <;> omega
  · obtain rfl : m = 0 := by omega
    have e : t = N := by have := hT.out; rw [dgS_z] at this; omega
    subst e
    have h0i : ¬ (((0 : Nat) : Int) > 0) := by omega
    clear hT
    go_wp2_with fail
    go_ret
    exact ⟨rfl, rfl⟩
/-- both answers -/
def dsV (p k : Int) : Int × Int := if rgD p k 0 1000000000000 = 0 then (((dgN p.toNat k.toNat : Nat) : Int), 0) else (0, rgD p k 0 1000000000000)
theorem dsV_c {p k c : Int} (h : rgD p k 0 1000000000000 = c) (h0 : c ≠ 0) : dsV p k = (0, c) := by unfold dsV; rw [h, if_neg h0]
theorem dsV_0 {p k : Nat} (h : rgD (p : Int) (k : Int) 0 1000000000000 = 0) : dsV (p : Int) (k : Int) = (((dgN p k : Nat) : Int), 0) := by unfold dsV; rw [if_pos h, Int.toNat_natCast, Int.toNat_natCast]
theorem rgD_1 {p n lo hi : Int} (h : okP p = false) : rgD p n lo hi = 1 := by unfold rgD; rw [if_neg (by rw [h]; decide)]
theorem rgD_2 {p n lo hi : Int} (h : okP p = true) (h2 : ¬ (lo ≤ n ∧ n ≤ hi)) : rgD p n lo hi = 2 := by unfold rgD; rw [if_pos h, if_neg h2]
theorem rgD_0 {p n lo hi : Int} (h : okP p = true) (h2 : lo ≤ n ∧ n ≤ hi) : rgD p n lo hi = 0 := by unfold rgD; rw [if_pos h, if_pos h2]
set_option maxRecDepth 100000 in
set_option maxHeartbeats 3200000 in
theorem impl_DigitSum_any (p k : Int) (w : World) : Calls Try.prog 23 #[.int .i64 p, .int .i64 k] w fun e w' => e = .returned (.tuple #[.int .i64 (dsV p k).1, .int .i64 (dsV p k).2]) ∧ w = w' := by
 cases hp : okP p with
 | false =>
  have HP := Lib.hid hp
  have HV := Lib.hid (dsV_c (k := k) (rgD_1 hp) (by decide))
  clear hp
  go_enter Try.func23, Try.ntmps23
  go_wp2_with (go_at_call 66; refine (isPrime_any _ _).mono ?_; rintro e wS ⟨rfl, rfl⟩; rw [HP.out])
  go_ret2
  exact ⟨by first | (rw [HV.out]; rfl) | rw [HV.out], rfl⟩
 | true =>
  have HP := Lib.hid hp
  by_cases hr : 0 ≤ k ∧ k ≤ 1000000000000
  · obtain ⟨p, rfl, p2, p7⟩ := okP_nat hp
    obtain ⟨k, rfl⟩ : ∃ n : Nat, k = (n : Int) := ⟨k.toNat, by omega⟩
    have HV := Lib.hid (dsV_0 (rgD_0 hp hr))
    have HD := Lib.hid (fun W => digitSum_any p k W p2 p7 (by omega))
    have h1 : ¬ (k : Int) < 0 := by omega
    have h2 : ¬ 1000000000000 < (k : Int) := by omega
    clear hp
    go_enter Try.func23, Try.ntmps23
    go_wp2_with (first | (go_at_call 66; refine (isPrime_any _ _).mono ?_; rintro e wS ⟨rfl, rfl⟩; rw [HP.out]) | (go_at_call 72; refine (HD.out _).mono ?_; rintro e wS ⟨rfl, rfl⟩))
    go_ret2
    exact ⟨by first | (rw [HV.out]; rfl) | rw [HV.out], rfl⟩
  · have HV := Lib.hid (dsV_c (rgD_2 hp hr) (by decide))
    clear hp
    by_cases h1 : k < 0
    · go_enter Try.func23, Try.ntmps23
      go_wp2_with (go_at_call 66; refine (isPrime_any _ _).mono ?_; rintro e wS ⟨rfl, rfl⟩; rw [HP.out])
      go_ret2
      exact ⟨by rw [HV.out]; rfl, rfl⟩
    · have h2 : 1000000000000 < k := by omega
      go_enter Try.func23, Try.ntmps23
      go_wp2_with (go_at_call 66; refine (isPrime_any _ _).mono ?_; rintro e wS ⟨rfl, rfl⟩; rw [HP.out])
      go_ret2
      exact ⟨by rw [HV.out]; rfl, rfl⟩
set_option maxRecDepth 100000 in
set_option maxHeartbeats 3200000 in
theorem spec_DigitSum_any (p k : Int) (w : World) : Calls Try.prog 22 #[.int .i64 p, .int .i64 k] w fun e w' => e = .returned (.tuple #[.int .i64 (dsV p k).1, .int .i64 (dsV p k).2]) ∧ w = w' := by
 rcases rgD_cases (p := p) (n := k) (lo := 0) (hi := 1000000000000) with ⟨c, hc, hc0, hc12⟩ | ⟨hc, hp, hr1, hr2⟩
 · have HC := Lib.hid hc
   have HV := Lib.hid (dsV_c hc hc0)
   have hb1 : ((c : Int) != 0) = true := by simp [hc0]
   clear hc
   go_enter Try.func22, Try.ntmps22
   go_wp2_with (go_at_call 70; refine (l04Rng_any _ _ 0 1000000000000 _).mono ?_; rintro e wS ⟨rfl, rfl⟩; rw [HC.out])
   go_ret2
   exact ⟨by first | (rw [HV.out]; rfl) | rw [HV.out], rfl⟩
 · have HC := Lib.hid hc
   obtain ⟨p, rfl, p2, p7⟩ := okP_nat hp
   obtain ⟨k, rfl⟩ : ∃ n : Nat, k = (n : Int) := ⟨k.toNat, by omega⟩
   have HV := Lib.hid (dsV_0 hc)
   have HD := Lib.hid (fun W => l08Digits_any p k W p2 p7 (by omega))
   clear hp hc
   go_enter Try.func22, Try.ntmps22
   go_wp2_with (first | (go_at_call 70; refine (l04Rng_any _ _ 0 1000000000000 _).mono ?_; rintro e wS ⟨rfl, rfl⟩; rw [HC.out]) | (go_at_call 71; refine (HD.out _).mono ?_; rintro e wS ⟨rfl, rfl⟩))
   go_ret2
   exact ⟨by first | (rw [HV.out]; rfl) | rw [HV.out], rfl⟩
theorem impl_DigitSum_b (p k : Int) (w : World) : Calls Try.prog 23 #[.int .i64 p, .int .i64 k] w fun e w' => e = .returned (.tuple #[.int .i64 (dsV p k).1, .int .i64 (dsV p k).2]) ∧ Below w.heap.size w w' :=
 (impl_DigitSum_any p k w).mono (by rintro e w' ⟨h, rfl⟩; exact ⟨h, Below.refl _ _⟩)
theorem spec_DigitSum_b (p k : Int) (w : World) : Calls Try.prog 22 #[.int .i64 p, .int .i64 k] w fun e w' => e = .returned (.tuple #[.int .i64 (dsV p k).1, .int .i64 (dsV p k).2]) ∧ Below w.heap.size w w' :=
 (spec_DigitSum_any p k w).mono (by rintro e w' ⟨h, rfl⟩; exact ⟨h, Below.refl _ _⟩)
end Go.Proofs.Ytobcdekochenfaa
end
section
namespace Go.Proofs.Ytobcdekochenfaa
open Go Go.RowKit
set_option linter.unusedVariables false
set_option linter.unusedSimpArgs false
set_option maxRecDepth 100000 in
set_option maxHeartbeats 1600000 in
theorem FnExactDigitSum_walk (p : Int) (k : Int)  (w : World) :
 Calls Try.prog 4 #[.int .i64 p, .int .i64 k] w fun e w' => e = .returned (.bool true) ∧ Below w.heap.size w w' := by
 go_enter Try.func4, Try.ntmps4
 go_upto_region 1 with (fail)
 have hb : Below w.heap.size w w := Below.refl _ _
 have hne0 : (((dsV p k).1) != ((dsV p k).1)) = false := by simp
 have hne1 : (((dsV p k).2) != ((dsV p k).2)) = false := by simp
 go_upto_region 2 with (first | (go_at_call 22; refine (spec_DigitSum_b p k _).mono ?_; rintro e W1 ⟨rfl, hW1⟩; replace hb := (hb).trans (hW1.mono (hb).size)))
 go_upto_region 3 with (first | (go_at_call 23; refine (impl_DigitSum_b p k _).mono ?_; rintro e W2 ⟨rfl, hW2⟩; replace hb := (hb).trans (hW2.mono (hb).size)))
 go_wp2_with fail
 go_ret
 exact ⟨rfl, hb⟩
end Go.Proofs.Ytobcdekochenfaa
end
section
namespace Go.Proofs.Ytobcdekochenfaa
open Go.ChangeShapes Go.WideShapes Go.ChangeAt Go.RowKit
section
variable {H : Type} {enc : TypeId × Value → H} {P : Program}
/-- the row's last step where the call has only made new memory, and the row does not say 'again' -/
theorem post_of_below0 {f : Func} {s : ChangeSpec} {apart fresh handsOn : Bool} {W W' : World} {args : Array Value} {v : Value} {ds gs : List (DataW H)} {before pa pv : List MemPlace}
 (hW : DataW.Whole enc P f.params.toList s.vars apart W args.toList ds gs before)
 (hres : ∀ (b : Nat) (sp : Nat → Bool) (hd : Bool), DataW.TrodAll enc P W' b sp hd f.resultTypes.toList (v.resultList f.resultTypes.size) (s.fn H (ds ++ gs)).results [])
 (hargs : ∀ sp : Nat → Bool, (∀ p ∈ before, sp p.block = true) → DataW.TrodAll enc P W' 0 sp true f.params.toList args.toList (s.fn H (ds ++ gs)).args pa)
 (hvars : ∀ sp : Nat → Bool, (∀ p ∈ before, sp p.block = true) → DataW.TrodVars enc P W' sp s.vars (s.fn H (ds ++ gs)).vars pv)
 (hps : before = pa ++ pv) (hb : Below W.heap.size W W') : s.post enc P f apart fresh handsOn false W args v W' := by
 have held : ∀ p ∈ before, (fun b => decide (b < W.heap.size)) p.block = true := fun p hp => by simpa using hW.lt p hp
 refine ⟨ds, gs, before, [], pa, pv, hW, hres _ _ _, hargs _ held, hvars _ held, ?_, fun h => by cases h⟩
 refine World.keptBut_mono (fun p hp => ⟨hp, .inr ?_⟩) (hb.frame (· ∈ before))
 rw [hps, List.mem_append] at hp
 exact hp
end
end Go.Proofs.Ytobcdekochenfaa
end
section
namespace Go.Proofs.Ytobcdekochenfaa
open Go
def cutW : List Char := [Char.ofNat 99, Char.ofNat 117, Char.ofNat 116]
theorem strip_cut (rest : List (List Char)) : stripLifts liftWords (cutW :: rest) = ([], cutW :: rest) := by
 have key : ∀ os : List String, (os.all fun o => !(cutW == o.toList)) = true → stripLifts os (cutW :: rest) = ([], cutW :: rest) := by
  intro os
  induction os with
  | nil => intro _; rfl
  | cons o os ih =>
   intro h
   simp only [List.all_cons, Bool.and_eq_true, Bool.not_eq_true'] at h
   unfold stripLifts
   rw [h.1]
   exact ih h.2
 exact key _ (by decide +kernel)
theorem make_cut {P : Program} {rest : List (List Char)} (h : behindMainWord (wordsSigns P.initOrder.toList) = cutW :: rest) : P.make = some .cut := by
 unfold Program.make
 rw [h]
 have e1 : (cutW == "gc".toList || cutW == "spec".toList) = false := by decide +kernel
 have e2 : (cutW == "cut".toList) = true := by decide +kernel
 simp only [e1, e2, Bool.true_or]
 rfl
theorem mayEnter_cut {P : Program} {rest : List (List Char)} (h : behindMainWord (wordsSigns P.initOrder.toList) = cutW :: rest) (h1 : P.laysLater = false) (h2 : P.bearsReflect = false) (h3 : P.doorFits [] = true) : P.mayEnter = true := by
 unfold Program.mayEnter
 rw [h]
 have e2 : (some cutW == some "cut".toList) = true := by decide +kernel
 simp only [strip_cut, h1, h2, h3, List.head?_cons, e2]
 simp
theorem lifts_cut {P : Program} {rest : List (List Char)} (h : behindMainWord (wordsSigns P.initOrder.toList) = cutW :: rest) : P.liftsFinal = false := by
 unfold Program.liftsFinal Program.headLifts
 rw [h]
 have e2 : (some cutW == some "cut".toList) = true := by decide +kernel
 have e3 : (some cutW == some "carried".toList) = false := by decide +kernel
 simp only [strip_cut, List.head?_cons, e2, e3]
 simp
/-- the signs of the head, and its words behind the first three -/
def initRest : List (List Nat) := [[97, 116], [108, 111, 111, 112, 46, 101, 120, 97, 109, 112, 108, 101, 47, 103, 48, 49, 50, 52, 53, 47, 108, 97, 119, 115, 46, 70, 110, 69, 120, 97, 99, 116, 80, 111, 119, 101, 114, 83, 117, 109], [108, 111, 111, 112, 46, 101, 120, 97, 109, 112, 108, 101, 47, 103, 48, 49, 50, 52, 53, 47, 108, 97, 119, 115, 46, 70, 110, 69, 120, 97, 99, 116, 68, 105, 103, 105, 116, 83, 117, 109], [108, 111, 111, 112, 46, 101, 120, 97, 109, 112, 108, 101, 47, 103, 48, 49, 50, 52, 53, 47, 108, 97, 119, 115, 46, 70, 110, 69, 120, 97, 99, 116, 83, 104, 105, 102, 116, 101, 100, 83, 117, 109], [108, 111, 111, 112, 46, 101, 120, 97, 109, 112, 108, 101, 47, 103, 48, 49, 50, 52, 53, 47, 108, 97, 119, 115, 46, 70, 110, 69, 120, 97, 99, 116, 70, 105, 114, 115, 116, 86, 97, 110, 105, 115, 104, 105, 110, 103], [108, 111, 111, 112, 46, 101, 120, 97, 109, 112, 108, 101, 47, 103, 48, 49, 50, 52, 53, 47, 108, 97, 119, 115, 46, 70, 110, 69, 120, 97, 99, 116, 80, 111, 119, 101, 114, 79, 102], [108, 111, 111, 112, 46, 101, 120, 97, 109, 112, 108, 101, 47, 103, 48, 49, 50, 52, 53, 47, 108, 97, 119, 115, 46, 70, 110, 69, 120, 97, 99, 116, 90, 101, 116, 97, 65, 116], [108, 111, 111, 112, 46, 101, 120, 97, 109, 112, 108, 101, 47, 103, 48, 49, 50, 52, 53, 47, 108, 97, 119, 115, 46, 70, 110, 69, 120, 97, 99, 116, 78, 101, 115, 116, 101, 100, 83, 117, 109], [108, 111, 111, 112, 46, 101, 120, 97, 109, 112, 108, 101, 47, 103, 48, 49, 50, 52, 53, 47, 108, 97, 119, 115, 46, 70, 110, 69, 120, 97, 99, 116, 81, 117, 97, 100, 114, 97, 116, 105, 99, 83, 121, 109, 98, 111, 108], [108, 111, 111, 112, 46, 101, 120, 97, 109, 112, 108, 101, 47, 103, 48, 49, 50, 52, 53, 47, 108, 97, 119, 115, 46, 70, 110, 69, 120, 97, 99, 116, 83, 121, 109, 98, 111, 108, 83, 117, 109], [108, 111, 111, 112, 46, 101, 120, 97, 109, 112, 108, 101, 47, 103, 48, 49, 50, 52, 53, 47, 108, 97, 119, 115, 46, 70, 110, 69, 120, 97, 99, 116, 83, 121, 109, 98, 111, 108, 80, 111, 108, 121, 110, 111, 109, 105, 97, 108], [108, 111, 111, 112, 46, 101, 120, 97, 109, 112, 108, 101, 47, 103, 48, 49, 50, 52, 53, 47, 108, 97, 119, 115, 46, 70, 110, 69, 120, 97, 99, 116, 67, 108, 97, 115, 115, 83, 117, 109], [108, 111, 111, 112, 46, 101, 120, 97, 109, 112, 108, 101, 47, 103, 48, 49, 50, 52, 53, 47, 108, 97, 119, 115, 46, 70, 110, 69, 120, 97, 99, 116, 65, 114, 101, 73, 115, 111, 109, 111, 114, 112, 104, 105, 99], [108, 111, 111, 112, 46, 101, 120, 97, 109, 112, 108, 101, 47, 103, 48, 49, 50, 52, 53, 47, 108, 97, 119, 115, 46, 70, 110, 69, 120, 97, 99, 116, 68, 114, 105, 110, 102, 101, 108, 100, 65, 99, 116, 105, 111, 110], [108, 111, 111, 112, 46, 101, 120, 97, 109, 112, 108, 101, 47, 103, 48, 49, 50, 52, 53, 47, 108, 97, 119, 115, 46, 70, 110, 69, 120, 97, 99, 116, 67, 111, 109, 112, 97, 110, 105, 111, 110, 79, 102], [108, 111, 111, 112, 46, 101, 120, 97, 109, 112, 108, 101, 47, 103, 48, 49, 50, 52, 53, 47, 108, 97, 119, 115, 46, 70, 110, 69, 120, 97, 99, 116, 65, 112, 112, 108, 121, 83, 113, 117, 97, 114, 101], [108, 111, 111, 112, 46, 101, 120, 97, 109, 112, 108, 101, 47, 103, 48, 49, 50, 52, 53, 47, 108, 97, 119, 115, 46, 70, 110, 69, 120, 97, 99, 116, 76, 111, 103, 97, 114, 105, 116, 104, 109, 79, 102]]
def initSigns : List Nat := [104, 97, 114, 110, 101, 115, 115, 32, 99, 50, 97, 57, 99, 53, 99, 98, 51, 100, 102, 52, 101, 54, 53, 102, 98, 54, 56, 54, 50, 49, 54, 50, 51, 101, 49, 57, 49, 54, 53, 56, 97, 57, 50, 50, 98, 98, 99, 101, 99, 53, 52, 57, 98, 54, 102, 100, 99, 101, 49, 55, 50, 52, 48, 53, 57, 56, 50, 49, 100, 56, 56, 52, 32, 99, 117, 116] ++ initRest.flatMap fun x => 32 :: x
theorem init_split : behindMainWord (wordsSigns (initSigns.map Char.ofNat)) = cutW :: initRest.map (fun w => w.map Char.ofNat) := by kernel_rfl
theorem init_order : Try.prog.initOrder = String.ofList (initSigns.map Char.ofNat) := by kernel_rfl
theorem init_cut : behindMainWord (wordsSigns Try.prog.initOrder.toList) = cutW :: initRest.map (fun w => w.map Char.ofNat) :=
 (congrArg (fun s : String => behindMainWord (wordsSigns s.toList)) init_order).trans ((congrArg (fun l => behindMainWord (wordsSigns l)) String.toList_ofList).trans init_split)
theorem Try.laysLater : Try.prog.laysLater = false := by kernel_rfl
theorem Try.bearsReflect : Try.prog.bearsReflect = false := by kernel_rfl
theorem Try.doorFits : Try.prog.doorFits [] = true := by kernel_rfl
theorem Try.mayEnter : Try.pinned.checked.prog.mayEnter = true := mayEnter_cut init_cut Try.laysLater Try.bearsReflect Try.doorFits
theorem Try.liftsFinal : Try.pinned.checked.prog.liftsFinal = false := lifts_cut init_cut
theorem Try.make : Try.pinned.checked.prog.make = some .cut := make_cut init_cut
end Go.Proofs.Ytobcdekochenfaa
end
