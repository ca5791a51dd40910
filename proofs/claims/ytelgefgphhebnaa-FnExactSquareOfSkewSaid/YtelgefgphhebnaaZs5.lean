/-
  What the rows of this claim rest on: arrays of bytes, walks of the functions, plain mathematics.
-/
import Derived.Test.YtelgefgphhebnaaZs4
import Derived.Maps.OwnOps
import Derived.DeepKeys4
import Derived.Carry
import Derived.Test.YtelgefgphhebnaaProg
import Derived.OwnWalk
import Derived.Deep.MidRow
import Derived.Great.BuildSlice
import Derived.RangeFuncNested
import Derived.RangeFuncBound
import Derived.RangeFuncCalls
import Derived.RangeFuncLeaves
import Derived.Shelf.Abstract
import Derived.Shelf.RegionOpen
import Derived.OwnWalkIn
import Derived.TacticsInMore
import Derived.LoopNIn
import Derived.LoopIn
import Derived.Deep.CutBlock
section
namespace Go.Proofs.Ytelgefgphhebnaa
open Go.RowKit
/-- squares and products, at most f more rounds -/
def pgR (mul : (Nat → Nat) → (Nat → Nat) → (Nat → Nat)) : Nat → Nat → (Nat → Nat) → (Nat → Nat) → (Nat → Nat)
 | 0, _, o, _ => o
 | f + 1, k, o, s => if k = 0 then o else pgR mul f (k / 2) (if k % 2 = 1 then mul o s else o) (mul s s)
theorem pgR_z {mul : (Nat → Nat) → (Nat → Nat) → (Nat → Nat)} {f : Nat} {o s : Nat → Nat} : pgR mul f 0 o s = o := by cases f <;> simp [pgR]
theorem pgR_odd {mul : (Nat → Nat) → (Nat → Nat) → (Nat → Nat)} {f k : Nat} {o s : Nat → Nat} (h0 : k ≠ 0) (h : k % 2 = 1) : pgR mul (f + 1) k o s = pgR mul f (k / 2) (mul o s) (mul s s) := by rw [pgR, if_neg h0, if_pos h]
theorem pgR_even {mul : (Nat → Nat) → (Nat → Nat) → (Nat → Nat)} {f k : Nat} {o s : Nat → Nat} (h0 : k ≠ 0) (h : ¬ k % 2 = 1) : pgR mul (f + 1) k o s = pgR mul f (k / 2) o (mul s s) := by rw [pgR, if_neg h0, if_neg h]
/-- the power's residue, if the product is one modulo m -/
theorem pgR_rm {p : Nat} {m : Nat → Nat} {mul : (Nat → Nat) → (Nat → Nat) → (Nat → Nat)} (hM : ∀ x y, rm p (lz m) (mz (lz x) (lz y)) (lz (mul x y))) : ∀ (f k : Nat) (o s : Nat → Nat), k < 2 ^ f → rm p (lz m) (lz (pgR mul f k o s)) (mz (lz o) (pwz (lz s) k))
 | 0, k, o, s, hk => by
  rw [Nat.pow_zero] at hk
  obtain rfl : k = 0 := by omega
  have : mz (lz o) (pwz (lz s) 0) = lz o := by rw [mz_comm]; exact mz_one _
  rw [this]; exact rm_refl _ _ _
 | f + 1, k, o, s, hk => by
  by_cases hz : k = 0
  · subst hz
    rw [pgR_z]
    have : mz (lz o) (pwz (lz s) 0) = lz o := by rw [mz_comm]; exact mz_one _
    rw [this]; exact rm_refl _ _ _
  · have hk2 : k / 2 < 2 ^ f := by rw [Nat.pow_succ] at hk; omega
    have sq : rm p (lz m) (pwz (lz (mul s s)) (k / 2)) (pwz (lz s) (2 * (k / 2))) := by
     rw [pwz_two]
     exact rm_symm (rm_pwz (fin_mz (fin_lz s) (fin_lz s)) (fin_lz _) (hM s s) _)
    by_cases ho2 : k % 2 = 1
    · rw [pgR_odd hz ho2]
      refine rm_trans (pgR_rm hM f (k / 2) (mul o s) (mul s s) hk2) ?_
      have e : mz (lz o) (pwz (lz s) k) = mz (mz (lz o) (lz s)) (pwz (lz s) (2 * (k / 2))) := by
       have : k = 2 * (k / 2) + 1 := by omega
       conv => lhs; rw [this]
       show mz (lz o) (mz (pwz (lz s) (2 * (k / 2))) (lz s)) = _
       rw [mz_comm (pwz (lz s) (2 * (k / 2))), ← mz_assoc]
      rw [e]
      exact rm_mz2 (fin_pwz (fin_lz _) _) (fin_mz (fin_lz o) (fin_lz s)) (rm_symm (hM o s)) sq
    · rw [pgR_even hz ho2]
      refine rm_trans (pgR_rm hM f (k / 2) o (mul s s) hk2) ?_
      have e : k = 2 * (k / 2) := by omega
      conv => rhs; rw [e]
      exact rm_mz2 (fin_pwz (fin_lz _) _) (fin_lz o) (rm_refl _ _ _) sq
theorem pgR_lt {p : Nat} {mul : (Nat → Nat) → (Nat → Nat) → (Nat → Nat)} (hM : ∀ x y i, i < 64 → mul x y i < p) : ∀ (f k : Nat) (o s : Nat → Nat), (∀ i, i < 64 → o i < p) → ∀ i, i < 64 → pgR mul f k o s i < p
 | 0, _, _, _, ho => ho
 | f + 1, k, o, s, ho => by
  by_cases hz : k = 0
  · subst hz; rw [pgR_z]; exact ho
  · by_cases h2 : k % 2 = 1
    · rw [pgR_odd hz h2]; exact pgR_lt hM f _ _ _ (hM o s)
    · rw [pgR_even hz h2]; exact pgR_lt hM f _ _ _ ho
theorem cut_cut (f : Nat → Nat) : cut (cut f) = cut f := by funext i; unfold cut; split <;> rfl
theorem lz_cut (f : Nat → Nat) : lz (cut f) = lz f := by unfold lz; rw [cut_cut]
theorem cut_eq {f g : Nat → Nat} (h : ∀ i, i < 64 → f i = g i) : cut f = cut g := by
 funext i; unfold cut
 split
 · rename_i hi; exact h i hi
 · rfl
theorem bcells_cut (f : Nat → Nat) : zb 64 (cut f) = zb 64 f := by unfold zb; rw [bl_cut]
/-- the program's product modulo m, of what the arrays hold -/
def mmC (p : Nat) (m x y : Nat → Nat) : Nat → Nat := mmP p (cut x) (cut y) m
/-- the program's power modulo m -/
def pmI (p : Nat) (a : Nat → Nat) (k : Nat) (m : Nat → Nat) : Nat → Nat := resP p (pgR (mmC p m) 64 k oneP a) m
theorem mmC_lt {p : Nat} (hp : 0 < p) (m x y : Nat → Nat) (i : Nat) (hi : i < 64) : mmC p m x y i < p := mmP_lt hp i (by omega)
theorem pmI_lt {p : Nat} (hp : 2 ≤ p) {a m : Nat → Nat} {k : Nat} (i : Nat) (hi : i < 64) : pmI p a k m i < p :=
 resP_lt (by omega) (pgR_lt (mmC_lt (by omega) m) 64 k oneP a (fun i _ => by unfold oneP; split <;> omega)) i hi
theorem pmI_spec {p k : Nat} {a m : Nat → Nat} (hp : p = 2 ∨ p = 3 ∨ p = 5 ∨ p = 7) (hm : ∀ k, k < 64 → m k < p) (h0 : 0 ≤ deg m) (hk : k < 2 ^ 64) :
 deg (pmI p a k m) < deg m ∧ rm p (lz m) (lz (pmI p a k m)) (pwz (lz a) k) := by
 have hp0 : 0 < p := by omega
 have h1 : ∀ i, i < 64 → pgR (mmC p m) 64 k oneP a i < p := pgR_lt (mmC_lt hp0 m) 64 k oneP a (fun i _ => by unfold oneP; split <;> omega)
 refine ⟨(resP_deg hp h1 hm h0).1, ?_⟩
 unfold pmI
 refine rm_trans (rm_symm (res_rm hp h1 hm h0)) ?_
 have := pgR_rm (p := p) (m := m) (mul := mmC p m) (fun x y => by
  have := mmP_rm (a := cut x) (b := cut y) hp hm h0
  rw [lz_cut, lz_cut] at this
  exact this) 64 k oneP a hk
 rw [one_lz] at this
 have e3 : mz oneS (pwz (lz a) k) = pwz (lz a) k := mz_one _
 rwa [e3] at this
/-- residues are told by their class -/
theorem res_sameN {p : Nat} {a b m : Nat → Nat} (hp : p = 2 ∨ p = 3 ∨ p = 5 ∨ p = 7) (ha : ∀ k, k < 64 → a k < p) (hb : ∀ k, k < 64 → b k < p) (hm : ∀ k, k < 64 → m k < p) (h0 : 0 ≤ deg m) (h1 : deg a < deg m) (h2 : deg b < deg m) (h : rm p (lz m) (lz a) (lz b)) : ∀ k, k < 64 → a k = b k := by
 have hp0 : 0 < p := by omega
 obtain ⟨d, hd⟩ : ∃ d : Nat, deg m = (d : Int) := ⟨(deg m).toNat, by omega⟩
 obtain ⟨d6, m2, m3⟩ := deg_top hd
 obtain ⟨_, _, iv3, _⟩ := invF hp m2 (hm d d6)
 have low : ∀ (f : Nat → Nat), deg f < (d : Int) → ∀ k, d ≤ k → lz f k = 0 := by
  intro f hf k hk
  unfold lz
  by_cases hk2 : k < 64
  · rw [cut_in _ hk2, zero_above (f := f) (k := k) (by omega) hk2]; rfl
  · rw [zcz _ (by omega)]; rfl
 have hu := rm_unique (d := d) (v := (invN p (m d) : Int)) (m := lz m) (f := lz a) (g := lz b) (p := p) (by
  unfold lz; rw [cut_in m d6]
  have := mod_dvd p (invN p (m d) * m d)
  rw [iv3] at this
  obtain ⟨x, hx⟩ := this
  rw [Int.natCast_mul, Int.mul_comm] at hx
  exact ⟨-x, by rw [Int.mul_neg]; omega⟩) (fun k hk => lz_above hd hk) (fun k hk => by
  rw [low _ (by omega) k hk, low _ (by omega) k hk]; exact ⟨0, by omega⟩) h
 exact lz_inj ha hb hu
end Go.Proofs.Ytelgefgphhebnaa
namespace Go.Proofs.Ytelgefgphhebnaa
open Go Go.RowKit Go.ChangeMaps
open Go.Maps (Keyed)
/-- block b is a map with the entries L, keys of type k -/
def MapG (P : Program) (k : TypeId) (w : World) (b : Nat) (L : List (Value × Value)) : Prop :=
 ∃ es clock, w.heap[b]? = some (.map es clock) ∧ es.toList.map (fun e => (e.key, e.val)) = L ∧ ∀ e ∈ es.toList, ∃ l, keyOf P k e.key = some l
theorem MapG.lt {P : Program} {k : TypeId} {w : World} {b : Nat} {L : List (Value × Value)} (h : MapG P k w b L) : b < w.heap.size := by
 obtain ⟨es, clock, hb, _⟩ := h
 exact (Array.getElem?_eq_some_iff.1 hb).1
theorem MapG.new (P : Program) (k : TypeId) (w : World) : MapG P k (w.alloc (.map #[] 0)) w.heap.size [] := ⟨#[], 0, (MapKept.heap_alloc w _).1, rfl, by simp⟩
theorem MapG.of {P : Program} {k : TypeId} {w w' : World} {b : Nat} {L : List (Value × Value)} (h : MapG P k w b L) (e : w'.heap[b]? = w.heap[b]?) : MapG P k w' b L := by
 obtain ⟨es, clock, hb, r⟩ := h
 exact ⟨es, clock, e.trans hb, r⟩
theorem MapG.alloc {P : Program} {k : TypeId} {w : World} {b : Nat} {L : List (Value × Value)} (h : MapG P k w b L) (o : Obj) : MapG P k (w.alloc o) b L := h.of (Below.heap_alloc _ _ _ h.lt)
theorem MapG.drew {P : Program} {k : TypeId} {w : World} {b : Nat} {L : List (Value × Value)} (h : MapG P k w b L) : MapG P k w.drew b L := h
theorem MapG.below {P : Program} {k : TypeId} {w w' : World} {B b : Nat} {L : List (Value × Value)} (h : MapG P k w b L) (hb : Below B w w') (e : b < B) : MapG P k w' b L := h.of (hb.block b e)
theorem MapG.zw {P : Program} {k : TypeId} {w w' : World} {b : Nat} {L : List (Value × Value)} (h : MapG P k w b L) (hb : Below w.heap.size w w') : MapG P k w' b L := MapG.below h hb (MapG.lt h)
theorem MapG.setOther {P : Program} {k : TypeId} {w : World} {b : Nat} {L : List (Value × Value)} (h : MapG P k w b L) {a : Addr} {v : Value} (e : b ≠ a.block) : MapG P k (w.setCell a v) b L := h.of (heap_setCell_other _ _ _ _ e)
theorem MapG.rowOther {P : Program} {k : TypeId} {w : World} {b : Nat} {L : List (Value × Value)} (h : MapG P k w b L) {j : Nat} {cs : Array Value} (e : b ≠ j) : MapG P k (w.setRow j cs) b L := h.of (setRow_other _ _ _ _ e)
/-- block b is one cell that holds v -/
def One (w : World) (b : Nat) (t : TypeId) (v : Value) : Prop := w.heap[b]? = some (.cells #[v] t (0, 0))
theorem One.new (w : World) (t : TypeId) (v : Value) : One (w.alloc (.cells #[v] t)) w.heap.size t v := heap_alloc_last w _
theorem One.lt {w : World} {b : Nat} {t : TypeId} {v : Value} (h : One w b t v) : b < w.heap.size := by
 unfold One at h
 exact (Array.getElem?_eq_some_iff.1 h).1
theorem One.cell {w : World} {b : Nat} {t : TypeId} {v : Value} (h : One w b t v) : w.cell? ⟨b, 0, none⟩ = some v := by
 rw [cell_of_row _ _ _ _ _ _ h]; rfl
theorem One.frozen {w : World} {b : Nat} {t : TypeId} {v : Value} (h : One w b t v) (i : Nat) : w.frozen? ⟨b, i, none⟩ = false := frozen_of_row _ _ _ _ _ h
theorem One.of {w w' : World} {b : Nat} {t : TypeId} {v : Value} (h : One w b t v) (e : w'.heap[b]? = w.heap[b]?) : One w' b t v := by unfold One at *; rw [e]; exact h
theorem One.alloc {w : World} {b : Nat} {t : TypeId} {v : Value} (h : One w b t v) (o : Obj) : One (w.alloc o) b t v := h.of (Below.heap_alloc _ _ _ h.lt)
theorem One.drew {w : World} {b : Nat} {t : TypeId} {v : Value} (h : One w b t v) : One w.drew b t v := h
theorem One.below {w w' : World} {B b : Nat} {t : TypeId} {v : Value} (h : One w b t v) (hb : Below B w w') (e : b < B) : One w' b t v := h.of (hb.block b e)
theorem One.zw {w w' : World} {b : Nat} {t : TypeId} {v : Value} (h : One w b t v) (hb : Below w.heap.size w w') : One w' b t v := One.below h hb (One.lt h)
theorem One.setOther {w : World} {b : Nat} {t : TypeId} {v x : Value} (h : One w b t v) {a : Addr} (e : b ≠ a.block) : One (w.setCell a x) b t v := h.of (heap_setCell_other _ _ _ _ e)
theorem One.rowOther {w : World} {b : Nat} {t : TypeId} {v : Value} (h : One w b t v) {j : Nat} {cs : Array Value} (e : b ≠ j) : One (w.setRow j cs) b t v := h.of (setRow_other _ _ _ _ e)
theorem One.grown {w w' : World} {b j : Nat} {t : TypeId} {v : Value} (h : One w b t v) (hg : w.grownBy w' (some j)) (e : b ≠ j) : One w' b t v := h.of (hg.block b h.lt (fun x => e (by cases x; rfl)))
theorem wp_load_one {P : Program} {o : Oper} {a : Act} {w : World} {K : Act → World → Prop} {Q : Exit → Act → World → Prop} (ty : TypeId) (x : Operand) (ho : o.op = .load ty x)
 (b : Nat) (hx : a.eval x = .pointer (some ⟨b, 0, none⟩)) (t : TypeId) (v : Value) (hb : One w b t v) (d : TypeDesc)
 (hu : P.underlying ty = some d) (hd : (match d with | .struct _ | .array _ _ => true | _ => false) = false) (h : K (a.put o.dst v) w) : o.wp P a w K Q := by
 have hc := hb.cell
 have hagg : (isAgg ty).run P w = .ok false w := by
  unfold isAgg
  rw [Sem.run_bind, run_underlying hu w]
  cases d <;> simp_all
 unfold Oper.wp execOp
 simp only [ho, hx, Instr.loadAt, Instr.sureAddr, Sem.run_bind, Sem.run_pure, Result.andThen_ok, loadVar, hagg, Bool.false_eq_true, if_false, Sem.run_ite, run_load, hc]
 exact h
theorem zlo {P : Program} {ops : Array Oper} {rest : List Oper} {o : Oper} {a : Act} {w : World} {Q : Exit → Act → World → Prop} (hgd : o.guard = none) (ty : TypeId) (x : Operand) (ho : o.op = .load ty x)
 (b : Nat) (hx : a.eval x = .pointer (some ⟨b, 0, none⟩)) (t : TypeId) (v : Value) (hb : One w b t v) (d : TypeDesc)
 (hu : P.underlying ty = some d) (hd : (match d with | .struct _ | .array _ _ => true | _ => false) = false) (h : wpList P ops Q rest (a.put o.dst v) w) : wpList P ops Q (o :: rest) a w :=
 wpList_plain hgd fun _ hK => wp_load_one ty x ho b hx t v hb d hu hd (hK _ _ h)
/-- the look-up at a key -/
theorem MapG.look {P : Program} {k e t : TypeId} (K : Keyed P k) (ht : P.underlying t = some (.map k e)) {w : World} {b : Nat} {L : List (Value × Value)} (h : MapG P k w b L) {z : Value} (hz : (zeroValue e).run P w = .ok z w) (c : Bool) {key : Value} {kl : Lit} (hkey : keyOf P k key = some kl) :
 ((Instr.lookup t (.map (some b)) key c).run P w = .ok (if c then .tuple #[z, .bool false] else z) w ∧ ∀ q ∈ L, q.1 ≠ key) ∨
 ∃ v, (key, v) ∈ L ∧ (Instr.lookup t (.map (some b)) key c).run P w = .ok (if c then .tuple #[v, .bool true] else v) w := by
 obtain ⟨es, clock, hb, rfl, hr⟩ := h
 rcases K.find w hkey es.toList hr with ⟨h1, h2⟩ | ⟨j, e0, h1, h2, h3⟩
 · refine .inl ⟨by simp [Instr.lookup, run_underlying ht, MapKept.run_getObj_map hb, K.check w _ hkey, h1, hz, Result.andThen], ?_⟩
   intro q hq
   obtain ⟨e, he, rfl⟩ := List.mem_map.1 hq
   exact h2 e he
 · refine .inr ⟨e0.val, ?_, by simp [Instr.lookup, run_underlying ht, MapKept.run_getObj_map hb, K.check w _ hkey, h1, Result.andThen]⟩
   exact List.mem_map.2 ⟨e0, List.mem_of_getElem? h2, by rw [h3]⟩
/-- a new key -/
theorem MapG.put {P : Program} {k e t : TypeId} (K : Keyed P k) (ht : P.underlying t = some (.map k e)) {w : World} {b : Nat} {L : List (Value × Value)} (h : MapG P k w b L) {key val : Value} {kl : Lit} (hkey : keyOf P k key = some kl) (hn : ∀ q ∈ L, q.1 ≠ key) :
 ∃ w', (Instr.mapUpdate t (.map (some b)) key val).run P w = .ok () w' ∧ MapG P k w' b (L ++ [(key, val)]) ∧ w.grownBy w' (some b) := by
 obtain ⟨es, clock, hb, rfl, hr⟩ := h
 rcases K.find w hkey es.toList hr with ⟨h1, h2⟩ | ⟨j, e0, h1, h2, h3⟩
 · refine ⟨setBlock w b (.map (es.push ⟨key, val, clock⟩) (clock + 1)), ?_, ⟨_, _, heap_setBlock_same hb _, by simp, ?_⟩, ⟨rfl, rfl, rfl, by simp [setBlock], fun i _ hi => heap_setBlock_other hb _ (fun e => hi (by rw [e]))⟩⟩
   · simp [Instr.mapUpdate, run_underlying ht, MapKept.run_getObj_map hb, K.check w false hkey, h1, MapKept.run_setObj_map _ hb, Result.andThen, setBlock]
   · intro x hx
     simp only [Array.toList_push, List.mem_append, List.mem_singleton] at hx
     rcases hx with hx | rfl
     · exact hr x hx
     · exact ⟨_, hkey⟩
 · exact absurd h3 (hn (e0.key, e0.val) (List.mem_map.2 ⟨e0, List.mem_of_getElem? h2, rfl⟩))
theorem mapM_ex {α β : Type} (f : α → Option β) : ∀ l : List α, (∀ x ∈ l, ∃ y, f x = some y) → ∃ ys, l.mapM f = some ys
 | [], _ => ⟨[], rfl⟩
 | a :: l, h => by
  obtain ⟨y, hy⟩ := h a (by simp)
  obtain ⟨ys, hys⟩ := mapM_ex f l fun x hx => h x (by simp [hx])
  exact ⟨y :: ys, by simp [List.mapM_cons, hy, hys]⟩
/-- an array of bytes is a key -/
theorem keyOf_bytes {P : Program} {k u : TypeId} {n : Nat} (hk : P.underlying k = some (.array n u)) (hu : P.underlying u = some (.int .u8)) (hc : P.cellsOf k = n) (hc1 : P.cellsOf u = 1) (hkt : P.keyType k = true) (hsz : 0 < P.types.size)
 {f : Nat → Nat} (hf : ∀ i, i < n → f i < 256) : ∃ l, keyOf P k (.agg (zb n f)) = some l := by
 obtain ⟨d, hd⟩ : ∃ d, P.types.size = d + 1 := ⟨P.types.size - 1, by omega⟩
 have hform : (Value.agg (zb n f)).formed P k = true := by simp [Value.formed, hk, hc, bl]
 have hlen : (Value.agg (zb n f)).cells.toList.length = P.cellsOf k := by simp [Value.cells, bl, hc]
 obtain ⟨ys, hys⟩ := mapM_ex (fun i => P.keyLits (d + 1) u (((Value.agg (zb n f)).cells.toList.drop (i * P.cellsOf u)).take (P.cellsOf u))) (List.range n) (by
  intro i hi
  have hi' : i < n := by simpa using hi
  refine ⟨[.int .u8 (f i : Int)], ?_⟩
  have e : ((Value.agg (zb n f)).cells.toList.drop (i * P.cellsOf u)).take (P.cellsOf u) = [.int .u8 (f i : Int)] := by
   rw [hc1, Nat.mul_one]
   show (List.drop i (bl n f)).take 1 = _
   have hl : i < (bl n f).length := by rw [zl]; exact hi'
   rw [List.drop_eq_getElem_cons hl]
   simp [bl]
  rw [e]
  have hw : (Lit.int .u8 (f i : Int)).wf = true := by
   have := hf i hi'
   simp only [Lit.wf, Bool.and_eq_true, decide_eq_true_eq]
   have e1 : IntKind.u8.min = 0 := by decide
   have e2 : IntKind.u8.max = 255 := by decide
   rw [e1, e2]
   omega
  simp [Program.keyLits, hu, hw])
 have hl2 : P.keyLits (P.types.size + 1) k (Value.agg (zb n f)).cells.toList = some ys.flatten := by
  rw [hd]
  unfold Program.keyLits
  rw [hk]
  dsimp only
  rw [if_pos hlen, hys]
  rfl
 refine ⟨.string (keyBytes ys.flatten), ?_⟩
 unfold keyOf
 rw [hk]
 simp only [hkt, hform, Bool.and_self, if_true]
 rw [hl2]
 rfl
/-- what a store into the map leaves of another block -/
theorem Blk.grown {w w' : World} {b n j : Nat} {t : TypeId} {f : Nat → Nat} (h : Blk w b n t f) (hg : w.grownBy w' (some j)) (e : b ≠ j) : Blk w' b n t f := by
 have hl := h.lt
 unfold Blk at *; rw [hg.block b hl (fun x => e (by cases x; rfl))]; exact h
theorem wpList_look {P : Program} (w : World) {ops : Array Oper} {rest : List Oper} {o : Oper} {a : Act} {Q : Exit → Act → World → Prop}
 (hg : o.guard = none) (m x : Operand) (t : TypeId) (c : Bool) (hop : o.op = Op.lookup t m x c) (mv : Value) (hm : a.eval m = mv) (key : Value) (hx : a.eval x = key) (v : Value) (hrun : (Instr.lookup t mv key c).run P w = .ok v w)
 (hK : wpList P ops Q rest (a.put o.dst v) w) : wpList P ops Q (o :: rest) a w := by
 refine wpList_plain hg fun K' hK' => ?_
 unfold Oper.wp
 simp [execOp, hop, hm, hx, hrun, Result.andThen]
 exact hK' _ _ hK
theorem wpList_put {P : Program} (w : World) {ops : Array Oper} {rest : List Oper} {o : Oper} {a : Act} {Q : Exit → Act → World → Prop}
 (hg : o.guard = none) (m x v : Operand) (t : TypeId) (hop : o.op = Op.mapUpdate t m x v) (mv : Value) (hm : a.eval m = mv) (key : Value) (hx : a.eval x = key) (val : Value) (hv : a.eval v = val) (w' : World) (hrun : (Instr.mapUpdate t mv key val).run P w = .ok () w')
 (hK : wpList P ops Q rest (a.put o.dst undef) w') : wpList P ops Q (o :: rest) a w := by
 refine wpList_plain hg fun K' hK' => ?_
 unfold Oper.wp
 simp [execOp, hop, hm, hx, hv, hrun, Result.andThen]
 exact hK' _ _ hK
attribute [irreducible] MapG One
end Go.Proofs.Ytelgefgphhebnaa
namespace Go.Proofs.Ytelgefgphhebnaa
open Go Go.RowKit Go.ChangeMaps
open Go.Maps (Keyed)
theorem Try.laidOutP : laidOutB Try.prog = true := by kernel_rfl
theorem Try.keyPoly : Keyed Try.prog 28 := Keyed.of_law (deep_law_laid Try.laidOutP (m := 2) (by omega) (of_decide_eq_true (by kernel_rfl)) (by kernel_rfl) (by rw [Try.underlying28]))
theorem Try.keyOfPoly {f : Nat → Nat} (hf : ∀ i, i < 64 → f i < 256) : ∃ l, keyOf Try.prog 28 (.agg (zb 64 f)) = some l :=
 keyOf_bytes Try.underlying28 Try.underlying5 (by kernel_rfl) (by kernel_rfl) (by kernel_rfl) (of_decide_eq_true (by kernel_rfl)) hf
theorem Try.zeroPoly (w : World) : (zeroValue 28).run Try.prog w = .ok (.agg (zb 64 fun _ => 0)) w := by kernel_rfl
end Go.Proofs.Ytelgefgphhebnaa
namespace Go.Proofs.Ytelgefgphhebnaa
open Go.RowKit
set_option linter.unusedVariables false
set_option linter.unusedSimpArgs false
attribute [local irreducible] deg invN dS qS stp stpr quoP resP oneP upP upF hmR mmP shA addK pgR mmC pmI
set_option maxRecDepth 100000 in
set_option maxHeartbeats 1600000 in
theorem timesMod_any (p : Nat) (f g m : Nat → Nat) (bp bm : Nat) (w : World) (hpr : p = 2 ∨ p = 3 ∨ p = 5 ∨ p = 7) (lf : ∀ k, k < 64 → f k < p) (lg : ∀ k, k < 64 → g k < p) (lm : ∀ k, k < 64 → m k < p) (h0 : 0 ≤ deg m)
 (B0 : One w bp 2 (.int .i64 (p : Int))) (B1 : Blk w bm 64 28 m) :
 Calls Try.prog 183 #[.agg (zb 64 f), .agg (zb 64 g), .pointer (some ⟨bp, 0, none⟩), .pointer (some ⟨bm, 0, none⟩)] w fun e w' => e = .returned (.agg (zb 64 (mmP p f g m))) ∧ Below w.heap.size w w' := by
 have HRP := Lib.hid (fun W => restOfProduct_any p f g m W hpr lf lg lm h0)
 have zx_0 := B0.lt
 have zx_1 := B1.lt
 go_enter Try.func183, Try.ntmps183
 go_upto_region 1 with (fail)
 rw [← z64]
 obtain ⟨W1, hwo⟩ : ∃ v : World, v = (((w.alloc (.cells (zb 64 (f)) 28)).alloc (.cells (zb 64 (g)) 28)).alloc (.cells (zb 64 (fun _ => 0)) 28)) := ⟨_, rfl⟩
 have B2 : Blk W1 (w.heap.size) 64 28 (f) := by subst hwo; have := (((Blk.new w 64 28 (f)).alloc (.cells (zb 64 (g)) 28)).alloc (.cells (zb 64 (fun _ => 0)) 28)); simpa using this
 have B3 : Blk W1 (w.heap.size + 1) 64 28 (g) := by subst hwo; have := ((Blk.new (w.alloc (.cells (zb 64 (f)) 28)) 64 28 (g)).alloc (.cells (zb 64 (fun _ => 0)) 28)); simpa using this
 have B4 : Blk W1 (w.heap.size + 1 + 1) 64 28 (fun _ => 0) := by subst hwo; have := (Blk.new ((w.alloc (.cells (zb 64 (f)) 28)).alloc (.cells (zb 64 (g)) 28)) 64 28 (fun _ => 0)); simpa using this
 replace B0 : One W1 (bp) 2 (.int .i64 (p : Int)) := by subst hwo; exact (((B0.alloc (.cells (zb 64 (f)) 28)).alloc (.cells (zb 64 (g)) 28)).alloc (.cells (zb 64 (fun _ => 0)) 28))
 replace B1 : Blk W1 (bm) 64 28 (m) := by subst hwo; exact (((B1.alloc (.cells (zb 64 (f)) 28)).alloc (.cells (zb 64 (g)) 28)).alloc (.cells (zb 64 (fun _ => 0)) 28))
 have hb : Below w.heap.size w W1 := by subst hwo; exact ((((Below.refl _ _).alloc (Nat.le_refl _) _).alloc (by simp) _).alloc (by simp; omega) _)
 rw [← hwo]
 clear hwo
 have lt_B0 := B0.lt
 have lt_B1 := B1.lt
 have lt_B2 := B2.lt
 have lt_B3 := B3.lt
 have lt_B4 := B4.lt
 go_wp2_with (first | rw [← z64] | (refine zlo rfl 2 (.tmp 2) rfl _ rfl 2 ((.int .i64 (p : Int))) (B0) _ Try.underlying2 rfl ?_) | (refine zla (.tmp 4) B2 Try.underlying28 Try.size28 ?_) | (refine zla (.tmp 5) B3 Try.underlying28 Try.size28 ?_) | (refine zla (.tmp 3) B1 Try.underlying28 Try.size28 ?_) | (go_at_call 150; refine (HRP.out _).mono ?_; rintro e W2 ⟨rfl, hW2⟩; replace B0 := B0.zw hW2; replace B1 := B1.zw hW2; replace B2 := B2.zw hW2; replace B3 := B3.zw hW2; replace B4 := B4.zw hW2; replace hb := (hb).trans (hW2.mono (hb).size)) | (refine zsr (.tmp 6) (.tmp 11) (mmP p f g m) B4 Try.size28 ?_; try simp only [Act.put]))
 obtain ⟨W3, hwo, hzQ⟩ : ∃ v : World, v = (W2.setRow (w.heap.size + 1 + 1) (zb 64 (mmP p f g m))) ∧ One v (bp) 2 (.int .i64 (p : Int)) ∧ Blk v (bm) 64 28 (m) ∧ Blk v (w.heap.size) 64 28 (f) ∧ Blk v (w.heap.size + 1) 64 28 (g) ∧ Blk v (w.heap.size + 1 + 1) 64 28 (mmP p f g m) ∧ Below w.heap.size w v := ⟨_, rfl, (B0.rowOther (by omega)), (B1.rowOther (by omega)), (B2.rowOther (by omega)), (B3.rowOther (by omega)), (B4.row (mmP p f g m)), (zr hb (by omega) _)⟩
 rw [← hwo]
 clear hwo B0 B1 B2 B3 B4 hb
 obtain ⟨B0, B1, B2, B3, B4, hb⟩ := hzQ
 try simp only [Act.put, pA, pB, pC]
 refine bodyPost_ret (zrb rfl _ _ _ 64 28 5 _ rfl B4 Try.underlying28 Try.size28) rfl ⟨rfl, hb⟩
set_option maxRecDepth 100000 in
set_option maxHeartbeats 1600000 in
theorem powerMod (mul : (Nat → Nat) → (Nat → Nat) → (Nat → Nat)) (P : Nat → (Nat → Nat) → (Nat → Nat) → Prop) (c1 c2 : Value) (f : Nat → Nat) (k0 : Nat) (w : World)
 (HT1 : Hid (∀ k r s W, P k r s → k % 2 = 1 → Below w.heap.size w W → Calls Try.prog 183 #[.agg (zb 64 r), .agg (zb 64 s), c1, c2] W fun e w' => e = .returned (.agg (zb 64 (mul r s))) ∧ Below W.heap.size W w'))
 (HT2 : Hid (∀ k r s W, P k r s → 1 < k → Below w.heap.size w W → Calls Try.prog 183 #[.agg (zb 64 s), .agg (zb 64 s), c1, c2] W fun e w' => e = .returned (.agg (zb 64 (mul s s))) ∧ Below W.heap.size W w'))
 (HS : Hid (∀ k r s, P k r s → 1 < k → P (k / 2) (if k % 2 = 1 then mul r s else r) (mul s s)))
 (HC : Hid (∀ x y, (∀ i, i < 64 → x i = y i) → mul x x = mul y y)) (HB : Hid (∀ k r s, P k r s → ∀ i, i < 64 → s i < 256)) (H0 : 0 < k0 → P k0 oneP f) (hk0 : (k0 : Int) ≤ 1000000000000) :
 Calls Try.prog 184 #[.agg (zb 64 oneP), .agg (zb 64 f), .int .i64 (k0 : Int), .func (.func 183) #[] #[c1, c2]] w fun e w' => e = .returned (.agg (zb 64 (pgR mul 64 k0 oneP f))) ∧ Below w.heap.size w w' := by
 have hmm := @run_makeMap Try.prog
 go_enter Try.func184, Try.ntmps184
 go_upto_region 1 with (fail)
 rw [← z64]
 obtain ⟨W1, hwo⟩ : ∃ v : World, v = (((w.alloc (.cells (zb 64 (oneP)) 28)).alloc (.cells (zb 64 (f)) 28)).alloc (.cells (zb 64 (fun _ => 0)) 28)) := ⟨_, rfl⟩
 have B0 : Blk W1 (w.heap.size) 64 28 (oneP) := by subst hwo; have := (((Blk.new w 64 28 (oneP)).alloc (.cells (zb 64 (f)) 28)).alloc (.cells (zb 64 (fun _ => 0)) 28)); simpa using this
 have B1 : Blk W1 (w.heap.size + 1) 64 28 (f) := by subst hwo; have := ((Blk.new (w.alloc (.cells (zb 64 (oneP)) 28)) 64 28 (f)).alloc (.cells (zb 64 (fun _ => 0)) 28)); simpa using this
 have B2 : Blk W1 (w.heap.size + 1 + 1) 64 28 (fun _ => 0) := by subst hwo; have := (Blk.new ((w.alloc (.cells (zb 64 (oneP)) 28)).alloc (.cells (zb 64 (f)) 28)) 64 28 (fun _ => 0)); simpa using this
 have hb : Below w.heap.size w W1 := by subst hwo; exact ((((Below.refl _ _).alloc (Nat.le_refl _) _).alloc (by simp) _).alloc (by simp; omega) _)
 rw [← hwo]
 clear hwo
 go_upto_region 2 with (fail)
 have lt_B0 := B0.lt
 have lt_B1 := B1.lt
 have lt_B2 := B2.lt
 have lhb := hb.size
 obtain ⟨W2, hwo, hzQ⟩ : ∃ v : World, v = (W1.alloc (.map #[] 0)) ∧ Blk v (w.heap.size) 64 28 (oneP) ∧ Blk v (w.heap.size + 1) 64 28 (f) ∧ Blk v (w.heap.size + 1 + 1) 64 28 (fun _ => 0) ∧ MapG Try.prog 28 v (W1.heap.size) [] ∧ Below w.heap.size w v := ⟨_, rfl, (B0.alloc (.map #[] 0)), (B1.alloc (.map #[] 0)), (B2.alloc (.map #[] 0)), (MapG.new Try.prog 28 W1), (hb.alloc hb.size (.map #[] 0))⟩
 rw [← hwo]
 clear hwo B0 B1 B2 hb
 obtain ⟨B0, B1, B2, B3, hb⟩ := hzQ
 obtain ⟨N1, hNN⟩ : ∃ n : Nat, n = W1.heap.size := ⟨_, rfl⟩
 rw [← hNN] at lt_B0 lt_B1 lt_B2 lhb B3 ⊢
 clear hNN
 have zN1_0 := lt_B0
 have zN1_1 := lt_B1
 have zN1_2 := lt_B2
 have zN1 := lhb
 clear lt_B0 lt_B1 lt_B2 lhb
 try simp only [Act.put, pA, pB, pC]
 have lt_B0 := B0.lt
 have lt_B1 := B1.lt
 have lt_B2 := B2.lt
 have lt_B3 := B3.lt
 go_wp2_with (first | rw [← z64] | (refine zla (.tmp 4) B0 Try.underlying28 Try.size28 ?_) | (refine wpList_store_blk rfl 28 (.tmp 10) (.tmp 14) rfl _ 64 (oneP) rfl rfl 28 _ ((Blk.new W2 64 28 (fun _ => 0))) Try.size28 ?_; try simp only [Act.put]))
 have lt_B0 := B0.lt
 have lt_B1 := B1.lt
 have lt_B2 := B2.lt
 have lt_B3 := B3.lt
 have lhb := hb.size
 obtain ⟨W3, hwo, hzQ⟩ : ∃ v : World, v = ((W2.alloc (.cells (zb 64 (fun _ => 0)) 28)).setRow (W2.heap.size) (zb 64 (oneP))) ∧ Blk v (w.heap.size) 64 28 (oneP) ∧ Blk v (w.heap.size + 1) 64 28 (f) ∧ Blk v (w.heap.size + 1 + 1) 64 28 (fun _ => 0) ∧ MapG Try.prog 28 v (N1) [] ∧ Blk v (W2.heap.size) 64 28 (oneP) ∧ Below w.heap.size w v := ⟨_, rfl, ((B0.alloc (.cells (zb 64 (fun _ => 0)) 28)).rowOther (by omega)), ((B1.alloc (.cells (zb 64 (fun _ => 0)) 28)).rowOther (by omega)), ((B2.alloc (.cells (zb 64 (fun _ => 0)) 28)).rowOther (by omega)), ((B3.alloc (.cells (zb 64 (fun _ => 0)) 28)).rowOther (by omega)), ((Blk.new W2 64 28 (fun _ => 0)).row (oneP)), (zr (hb.alloc (by have := hb.size; simp; omega) (.cells (zb 64 (fun _ => 0)) 28)) (by omega) _)⟩
 rw [← hwo]
 clear hwo B0 B1 B2 B3 hb
 obtain ⟨B0, B1, B2, B3, B4, hb⟩ := hzQ
 obtain ⟨N2, hNN⟩ : ∃ n : Nat, n = W2.heap.size := ⟨_, rfl⟩
 rw [← hNN] at lt_B0 lt_B1 lt_B2 lt_B3 lhb B4 ⊢
 clear hNN
 have zN2_0 := lt_B0
 have zN2_1 := lt_B1
 have zN2_2 := lt_B2
 have zN2_3 := lt_B3
 have zN2 := lhb
 clear lt_B0 lt_B1 lt_B2 lt_B3 lhb
 try simp only [Act.put, pA, pB, pC]
 clear B0
 go_loopw [2] (fun i wr => ∃ (q k : Nat) (po ps : Nat → Nat) (L : List (Value × Value)), Hid (pgR mul 64 k0 oneP f = pgR mul q k po ps) ∧ k < 2 ^ q ∧ (k : Int) ≤ 1000000000000 ∧ Hid (0 < k → P k po ps) ∧ Hid (∀ q ∈ L, ∃ x, q.1 = .agg (zb 64 x) ∧ q.2 = .agg (zb 64 (mul x x))) ∧ i = .int .i64 (k : Int) ∧ Below w.heap.size w wr ∧ Blk wr (w.heap.size + 1) 64 28 ps ∧ Blk wr (w.heap.size + 1 + 1) 64 28 (fun _ => 0) ∧ MapG Try.prog 28 wr (N1) L ∧ Blk wr (N2) 64 28 po) (fun i _ => (intOf i).toNat)
 case atStart => exact ⟨64, k0, _, _, [], Lib.hid rfl, (by have h6 : (1000000000000 : Nat) < 2 ^ 64 := (by decide); omega), hk0, Lib.hid H0, Lib.hid (by simp), rfl, hb, B1, B2, B3, B4⟩
 case round =>
  clear hb B1 B2 B3 B4 H0
  obtain ⟨q, k, po, ps, L, hP, hkq, hk, hI, hL, rfl, hb, B1, B2, B3, B4⟩ := hrel
  have HKQ := Lib.hid hkq
  clear hkq hk0 hmm
  by_cases hz : k = 0
  · subst hz
    have HV := Lib.hid (hP.out.trans pgR_z)
    go_upto_region 13 with (fail)
    have lt_B1 := B1.lt
    have lt_B2 := B2.lt
    have lt_B3 := B3.lt
    have lt_B4 := B4.lt
    go_wp2_with (first | rw [← z64] | (refine zla (.tmp 10) B4 Try.underlying28 Try.size28 ?_) | (refine zsr (.tmp 8) (.tmp 44) (po) B2 Try.size28 ?_; try simp only [Act.put]))
    obtain ⟨W4, hwo, hzQ⟩ : ∃ v : World, v = (wr.setRow (w.heap.size + 1 + 1) (zb 64 (po))) ∧ Blk v (w.heap.size + 1) 64 28 (ps) ∧ Blk v (w.heap.size + 1 + 1) 64 28 (po) ∧ MapG Try.prog 28 v (N1) L ∧ Blk v (N2) 64 28 (po) ∧ Below w.heap.size w v := ⟨_, rfl, (B1.rowOther (by omega)), (B2.row (po)), (B3.rowOther (by omega)), (B4.rowOther (by omega)), (zr hb (by omega) _)⟩
    rw [← hwo]
    clear hwo B1 B2 B3 B4 hb
    obtain ⟨B1, B2, B3, B4, hb⟩ := hzQ
    try simp only [Act.put, pA, pB, pC]
    refine bodyPost_ret (zrb rfl _ _ _ 64 28 5 _ rfl B2 Try.underlying28 Try.size28) rfl ⟨by rw [HV.out], hb⟩
  · obtain ⟨q, rfl⟩ : ∃ t, q = t + 1 := ⟨q - 1, by have h1 := HKQ.out; have h2 : q ≠ 0 := (by intro h; rw [h, Nat.pow_zero] at h1; omega); omega⟩
    have hpos : (0 : Int) < (k : Int) := by omega
    have HP := Lib.hid (hI.out (by omega))
    clear hI
    by_cases hodd : k % 2 = 1
    · have hb1 : (((k : Int) % 2) == 1) = true := beq_iff_eq.2 (by omega)
      have hb2 : (((k : Int).tmod 2) == 1) = true := by rw [Int.tmod_eq_emod_of_nonneg (by omega)]; exact hb1
      have HO := Lib.hid hodd
      have HV := Lib.hid (hP.out.trans (pgR_odd hz hodd))
      have HD := Lib.hid (show k / 2 < 2 ^ q by have := HKQ.out; rw [Nat.pow_succ] at this; omega)
      clear hodd hz hP
      go_upto_region 5 with (fail)
      clear hb1 hb2
      have lt_B1 := B1.lt
      have lt_B2 := B2.lt
      have lt_B3 := B3.lt
      have lt_B4 := B4.lt
      go_upto_region 6 with (first | rw [← z64] | (refine zla (.tmp 10) B4 Try.underlying28 Try.size28 ?_) | (refine zla (.tmp 5) B1 Try.underlying28 Try.size28 ?_) | (go_at_call 183; refine (HT1.out k po ps _ HP.out HO.out hb).mono ?_; rintro e W4 ⟨rfl, hW4⟩; replace B1 := B1.zw hW4; replace B2 := B2.zw hW4; replace B3 := B3.zw hW4; replace B4 := B4.zw hW4; replace hb := (hb).trans (hW4.mono (hb).size)) | (refine zsr (.tmp 10) (.tmp 23) (mul po ps) B4 Try.size28 ?_; try simp only [Act.put]))
      obtain ⟨W5, hwo, hzQ⟩ : ∃ v : World, v = (W4.setRow (N2) (zb 64 (mul po ps))) ∧ Blk v (w.heap.size + 1) 64 28 (ps) ∧ Blk v (w.heap.size + 1 + 1) 64 28 (fun _ => 0) ∧ MapG Try.prog 28 v (N1) L ∧ Blk v (N2) 64 28 (mul po ps) ∧ Below w.heap.size w v := ⟨_, rfl, (B1.rowOther (by omega)), (B2.rowOther (by omega)), (B3.rowOther (by omega)), (B4.row (mul po ps)), (zr hb (by omega) _)⟩
      rw [← hwo]
      clear hwo B1 B2 B3 B4 hb
      obtain ⟨B1, B2, B3, B4, hb⟩ := hzQ
      try simp only [Act.put, pA, pB, pC]
      by_cases h1 : 1 < k
      · have hq : 1 ≤ (k : Int) / 2 := by omega
        have hq2 : 0 < (k : Int) / 2 := by omega
        have HS2 := Lib.hid (HS.out k po ps HP.out h1)
        have HT := Lib.hid (fun W => HT2.out k po ps W HP.out h1)
        obtain ⟨kl, hkl⟩ := Try.keyOfPoly (HB.out k po ps HP.out)
        have HKL := Lib.hid hkl
        have hlk := B3.look Try.keyPoly Try.underlying197 (Try.zeroPoly _) true hkl
        clear hkl h1
        go_upto_region 8 with (fail)
        clear hq2
        rcases hlk with ⟨hrun, hno⟩ | ⟨v, hin, hrun⟩
        · simp only [if_true] at hrun
          have lt_B1 := B1.lt
          have lt_B2 := B2.lt
          have lt_B3 := B3.lt
          have lt_B4 := B4.lt
          go_upto_region 10 with (first | rw [← z64] | (refine zla (.tmp 5) B1 Try.underlying28 Try.size28 ?_) | (at_lookup; refine wpList_look _ rfl _ _ 197 true rfl _ rfl _ rfl (.tuple #[.agg (zb 64 fun _ => 0), .bool false]) hrun ?_) | (refine wpList_store_blk rfl 28 (.tmp 11) (.tmp 32) rfl _ 64 (fun _ => 0) rfl rfl 28 _ ((Blk.new W5 64 28 (fun _ => 0))) Try.size28 ?_; try simp only [Act.put]; go_upto_region 10 with (fail)))
          have lt_B1 := B1.lt
          have lt_B2 := B2.lt
          have lt_B3 := B3.lt
          have lt_B4 := B4.lt
          have lhb := hb.size
          obtain ⟨W6, hwo, hzQ⟩ : ∃ v : World, v = ((W5.alloc (.cells (zb 64 (fun _ => 0)) 28)).setRow (W5.heap.size) (zb 64 (fun _ => 0))) ∧ Blk v (w.heap.size + 1) 64 28 (ps) ∧ Blk v (w.heap.size + 1 + 1) 64 28 (fun _ => 0) ∧ MapG Try.prog 28 v (N1) L ∧ Blk v (N2) 64 28 (mul po ps) ∧ Blk v (W5.heap.size) 64 28 (fun _ => 0) ∧ Below w.heap.size w v := ⟨_, rfl, ((B1.alloc (.cells (zb 64 (fun _ => 0)) 28)).rowOther (by omega)), ((B2.alloc (.cells (zb 64 (fun _ => 0)) 28)).rowOther (by omega)), ((B3.alloc (.cells (zb 64 (fun _ => 0)) 28)).rowOther (by omega)), ((B4.alloc (.cells (zb 64 (fun _ => 0)) 28)).rowOther (by omega)), ((Blk.new W5 64 28 (fun _ => 0)).row (fun _ => 0)), (zr (hb.alloc (by have := hb.size; simp; omega) (.cells (zb 64 (fun _ => 0)) 28)) (by omega) _)⟩
          rw [← hwo]
          clear hwo B1 B2 B3 B4 hb
          obtain ⟨B1, B2, B3, B4, B5, hb⟩ := hzQ
          obtain ⟨N3, hNN⟩ : ∃ n : Nat, n = W5.heap.size := ⟨_, rfl⟩
          rw [← hNN] at lt_B1 lt_B2 lt_B3 lt_B4 lhb B5 ⊢
          clear hNN
          have zN3_1 := lt_B1
          have zN3_2 := lt_B2
          have zN3_3 := lt_B3
          have zN3_4 := lt_B4
          have zN3 := lhb
          clear lt_B1 lt_B2 lt_B3 lt_B4 lhb
          try simp only [Act.put, pA, pB, pC]
          clear hrun
          have lt_B1 := B1.lt
          have lt_B2 := B2.lt
          have lt_B3 := B3.lt
          have lt_B4 := B4.lt
          have lt_B5 := B5.lt
          go_upto_region 11 with (first | rw [← z64] | (refine zla (.tmp 5) B1 Try.underlying28 Try.size28 ?_) | (refine zla (.tmp 5) B1 Try.underlying28 Try.size28 ?_) | (go_at_call 183; refine (HT.out _ hb).mono ?_; rintro e W7 ⟨rfl, hW7⟩; replace B1 := B1.zw hW7; replace B2 := B2.zw hW7; replace B3 := B3.zw hW7; replace B4 := B4.zw hW7; replace B5 := B5.zw hW7; replace hb := (hb).trans (hW7.mono (hb).size)) | (refine zsr (.tmp 11) (.tmp 39) (mul ps ps) B5 Try.size28 ?_; try simp only [Act.put]))
          obtain ⟨W8, hwo, hzQ⟩ : ∃ v : World, v = (W7.setRow (N3) (zb 64 (mul ps ps))) ∧ Blk v (w.heap.size + 1) 64 28 (ps) ∧ Blk v (w.heap.size + 1 + 1) 64 28 (fun _ => 0) ∧ MapG Try.prog 28 v (N1) L ∧ Blk v (N2) 64 28 (mul po ps) ∧ Blk v (N3) 64 28 (mul ps ps) ∧ Below w.heap.size w v := ⟨_, rfl, (B1.rowOther (by omega)), (B2.rowOther (by omega)), (B3.rowOther (by omega)), (B4.rowOther (by omega)), (B5.row (mul ps ps)), (zr hb (by omega) _)⟩
          rw [← hwo]
          clear hwo B1 B2 B3 B4 B5 hb
          obtain ⟨B1, B2, B3, B4, B5, hb⟩ := hzQ
          try simp only [Act.put, pA, pB, pC]
          obtain ⟨wM, hput, hmn, hgr⟩ := B3.put (val := .agg (zb 64 (mul ps ps))) Try.keyPoly Try.underlying197 HKL.out hno
          have gB1 : Blk wM (w.heap.size + 1) 64 28 (ps) := B1.grown hgr (by omega)
          have gB2 : Blk wM (w.heap.size + 1 + 1) 64 28 (fun _ => 0) := B2.grown hgr (by omega)
          have gB4 : Blk wM (N2) 64 28 (mul po ps) := B4.grown hgr (by omega)
          have gB5 : Blk wM (N3) 64 28 (mul ps ps) := B5.grown hgr (by omega)
          have ghb : Below w.heap.size w wM := hb.grown hgr hb.size (fun j e => by cases e; omega)
          go_upto_region 12 with (first | (refine zla (.tmp 5) B1 Try.underlying28 Try.size28 ?_) | (refine zla (.tmp 11) B5 Try.underlying28 Try.size28 ?_) | (at_mapUpdate; refine wpList_put _ rfl _ _ _ 197 rfl _ rfl _ rfl _ rfl wM hput ?_; go_upto_region 12 with (fail)))
          clear B1 B2 B3 B4 B5 hb hput hgr hno
          have B1 := gB1
          clear gB1
          have B2 := gB2
          clear gB2
          have B3 := hmn
          clear hmn
          have B4 := gB4
          clear gB4
          have B5 := gB5
          clear gB5
          have hb := ghb
          clear ghb
          have lt_B1 := B1.lt
          have lt_B2 := B2.lt
          have lt_B3 := B3.lt
          have lt_B4 := B4.lt
          have lt_B5 := B5.lt
          go_wp2_with (first | rw [← z64] | (refine zla (.tmp 11) B5 Try.underlying28 Try.size28 ?_) | (refine zsr (.tmp 5) (.tmp 43) (mul ps ps) B1 Try.size28 ?_; try simp only [Act.put]))
          obtain ⟨W9, hwo, hzQ⟩ : ∃ v : World, v = (wM.setRow (w.heap.size + 1) (zb 64 (mul ps ps))) ∧ Blk v (w.heap.size + 1) 64 28 (mul ps ps) ∧ Blk v (w.heap.size + 1 + 1) 64 28 (fun _ => 0) ∧ MapG Try.prog 28 v (N1) (L ++ [(.agg (zb 64 ps), .agg (zb 64 (mul ps ps)))]) ∧ Blk v (N2) 64 28 (mul po ps) ∧ Blk v (N3) 64 28 (mul ps ps) ∧ Below w.heap.size w v := ⟨_, rfl, (B1.row (mul ps ps)), (B2.rowOther (by omega)), (B3.rowOther (by omega)), (B4.rowOther (by omega)), (B5.rowOther (by omega)), (zr hb (by omega) _)⟩
          rw [← hwo]
          clear hwo B1 B2 B3 B4 B5 hb
          obtain ⟨B1, B2, B3, B4, B5, hb⟩ := hzQ
          try simp only [Act.put, pA, pB, pC]
          go_roundw
          case rel => exact ⟨q, k / 2, mul po ps, mul ps ps, L ++ [(.agg (zb 64 ps), .agg (zb 64 (mul ps ps)))], HV, HD.out, by omega, Lib.hid (fun _ => by have := HS2.out; rw [if_pos HO.out] at this; exact this), Lib.hid (by intro q hq; rcases List.mem_append.1 hq with h | h; exact hL.out q h; rw [List.mem_singleton] at h; subst h; exact ⟨ps, rfl, rfl⟩), by rw [show ((k / 2 : Nat) : Int) = (k : Int) / 2 by push_cast; rfl], hb, B1, B2, B3, B4⟩
          case measure => simp [intOf] <;> omega
        · simp only [if_true] at hrun
          obtain rfl : v = .agg (zb 64 (mul ps ps)) := by
           obtain ⟨x, e1, e2⟩ := hL.out _ hin
           have e3 : (Value.agg (zb 64 ps)) = .agg (zb 64 x) := e1
           have e4 : zb 64 ps = zb 64 x := by injection e3
           have e5 : v = .agg (zb 64 (mul x x)) := e2
           rw [e5, HC.out x ps (fun i hi => (bcells_inj e4 i hi).symm)]
          clear hin
          have lt_B1 := B1.lt
          have lt_B2 := B2.lt
          have lt_B3 := B3.lt
          have lt_B4 := B4.lt
          go_upto_region 12 with (first | rw [← z64] | (refine zla (.tmp 5) B1 Try.underlying28 Try.size28 ?_) | (at_lookup; refine wpList_look _ rfl _ _ 197 true rfl _ rfl _ rfl (.tuple #[.agg (zb 64 (mul ps ps)), .bool true]) hrun ?_) | (refine wpList_store_blk rfl 28 (.tmp 11) (.tmp 32) rfl _ 64 (mul ps ps) rfl rfl 28 _ ((Blk.new W5 64 28 (fun _ => 0))) Try.size28 ?_; try simp only [Act.put]; go_upto_region 12 with (fail)))
          have lt_B1 := B1.lt
          have lt_B2 := B2.lt
          have lt_B3 := B3.lt
          have lt_B4 := B4.lt
          have lhb := hb.size
          obtain ⟨W6, hwo, hzQ⟩ : ∃ v : World, v = ((W5.alloc (.cells (zb 64 (fun _ => 0)) 28)).setRow (W5.heap.size) (zb 64 (mul ps ps))) ∧ Blk v (w.heap.size + 1) 64 28 (ps) ∧ Blk v (w.heap.size + 1 + 1) 64 28 (fun _ => 0) ∧ MapG Try.prog 28 v (N1) L ∧ Blk v (N2) 64 28 (mul po ps) ∧ Blk v (W5.heap.size) 64 28 (mul ps ps) ∧ Below w.heap.size w v := ⟨_, rfl, ((B1.alloc (.cells (zb 64 (fun _ => 0)) 28)).rowOther (by omega)), ((B2.alloc (.cells (zb 64 (fun _ => 0)) 28)).rowOther (by omega)), ((B3.alloc (.cells (zb 64 (fun _ => 0)) 28)).rowOther (by omega)), ((B4.alloc (.cells (zb 64 (fun _ => 0)) 28)).rowOther (by omega)), ((Blk.new W5 64 28 (fun _ => 0)).row (mul ps ps)), (zr (hb.alloc (by have := hb.size; simp; omega) (.cells (zb 64 (fun _ => 0)) 28)) (by omega) _)⟩
          rw [← hwo]
          clear hwo B1 B2 B3 B4 hb
          obtain ⟨B1, B2, B3, B4, B5, hb⟩ := hzQ
          obtain ⟨N3, hNN⟩ : ∃ n : Nat, n = W5.heap.size := ⟨_, rfl⟩
          rw [← hNN] at lt_B1 lt_B2 lt_B3 lt_B4 lhb B5 ⊢
          clear hNN
          have zN3_1 := lt_B1
          have zN3_2 := lt_B2
          have zN3_3 := lt_B3
          have zN3_4 := lt_B4
          have zN3 := lhb
          clear lt_B1 lt_B2 lt_B3 lt_B4 lhb
          try simp only [Act.put, pA, pB, pC]
          clear hrun
          have lt_B1 := B1.lt
          have lt_B2 := B2.lt
          have lt_B3 := B3.lt
          have lt_B4 := B4.lt
          have lt_B5 := B5.lt
          go_wp2_with (first | rw [← z64] | (refine zla (.tmp 11) B5 Try.underlying28 Try.size28 ?_) | (refine zsr (.tmp 5) (.tmp 43) (mul ps ps) B1 Try.size28 ?_; try simp only [Act.put]))
          obtain ⟨W7, hwo, hzQ⟩ : ∃ v : World, v = (W6.setRow (w.heap.size + 1) (zb 64 (mul ps ps))) ∧ Blk v (w.heap.size + 1) 64 28 (mul ps ps) ∧ Blk v (w.heap.size + 1 + 1) 64 28 (fun _ => 0) ∧ MapG Try.prog 28 v (N1) L ∧ Blk v (N2) 64 28 (mul po ps) ∧ Blk v (N3) 64 28 (mul ps ps) ∧ Below w.heap.size w v := ⟨_, rfl, (B1.row (mul ps ps)), (B2.rowOther (by omega)), (B3.rowOther (by omega)), (B4.rowOther (by omega)), (B5.rowOther (by omega)), (zr hb (by omega) _)⟩
          rw [← hwo]
          clear hwo B1 B2 B3 B4 B5 hb
          obtain ⟨B1, B2, B3, B4, B5, hb⟩ := hzQ
          try simp only [Act.put, pA, pB, pC]
          go_roundw
          case rel => exact ⟨q, k / 2, mul po ps, mul ps ps, L, HV, HD.out, by omega, Lib.hid (fun _ => by have := HS2.out; rw [if_pos HO.out] at this; exact this), hL, by rw [show ((k / 2 : Nat) : Int) = (k : Int) / 2 by push_cast; rfl], hb, B1, B2, B3, B4⟩
          case measure => simp [intOf] <;> omega
      · have hq : (k : Int) / 2 = 0 := by omega
        have hq2 : ((k : Int).tdiv 2) = 0 := by rw [Int.tdiv_eq_ediv_of_nonneg (by omega)]; exact hq
        have HE := Lib.hid (show k / 2 = 0 by omega)
        clear h1
        go_wp2_with fail
        go_roundw
        case rel => exact ⟨q, 0, mul po ps, ps, L, Lib.hid (HV.out.trans (by rw [HE.out, pgR_z, pgR_z])), Nat.pow_pos (by omega), by omega, Lib.hid (fun h => absurd h (by omega)), hL, by simp, hb, B1, B2, B3, B4⟩
        case measure => simp [intOf] <;> omega
    · have hb1 : (((k : Int) % 2) == 1) = false := beq_eq_false_iff_ne.2 (by omega)
      have hb2 : (((k : Int).tmod 2) == 1) = false := by rw [Int.tmod_eq_emod_of_nonneg (by omega)]; exact hb1
      have HO := Lib.hid hodd
      have HV := Lib.hid (hP.out.trans (pgR_even hz hodd))
      have HD := Lib.hid (show k / 2 < 2 ^ q by have := HKQ.out; rw [Nat.pow_succ] at this; omega)
      clear hodd hz hP
      go_upto_region 6 with (fail)
      clear hb1 hb2
      by_cases h1 : 1 < k
      · have hq : 1 ≤ (k : Int) / 2 := by omega
        have hq2 : 0 < (k : Int) / 2 := by omega
        have HS2 := Lib.hid (HS.out k po ps HP.out h1)
        have HT := Lib.hid (fun W => HT2.out k po ps W HP.out h1)
        obtain ⟨kl, hkl⟩ := Try.keyOfPoly (HB.out k po ps HP.out)
        have HKL := Lib.hid hkl
        have hlk := B3.look Try.keyPoly Try.underlying197 (Try.zeroPoly _) true hkl
        clear hkl h1
        go_upto_region 8 with (fail)
        clear hq2
        rcases hlk with ⟨hrun, hno⟩ | ⟨v, hin, hrun⟩
        · simp only [if_true] at hrun
          have lt_B1 := B1.lt
          have lt_B2 := B2.lt
          have lt_B3 := B3.lt
          have lt_B4 := B4.lt
          go_upto_region 10 with (first | rw [← z64] | (refine zla (.tmp 5) B1 Try.underlying28 Try.size28 ?_) | (at_lookup; refine wpList_look _ rfl _ _ 197 true rfl _ rfl _ rfl (.tuple #[.agg (zb 64 fun _ => 0), .bool false]) hrun ?_) | (refine wpList_store_blk rfl 28 (.tmp 11) (.tmp 32) rfl _ 64 (fun _ => 0) rfl rfl 28 _ ((Blk.new wr 64 28 (fun _ => 0))) Try.size28 ?_; try simp only [Act.put]; go_upto_region 10 with (fail)))
          have lt_B1 := B1.lt
          have lt_B2 := B2.lt
          have lt_B3 := B3.lt
          have lt_B4 := B4.lt
          have lhb := hb.size
          obtain ⟨W4, hwo, hzQ⟩ : ∃ v : World, v = ((wr.alloc (.cells (zb 64 (fun _ => 0)) 28)).setRow (wr.heap.size) (zb 64 (fun _ => 0))) ∧ Blk v (w.heap.size + 1) 64 28 (ps) ∧ Blk v (w.heap.size + 1 + 1) 64 28 (fun _ => 0) ∧ MapG Try.prog 28 v (N1) L ∧ Blk v (N2) 64 28 (po) ∧ Blk v (wr.heap.size) 64 28 (fun _ => 0) ∧ Below w.heap.size w v := ⟨_, rfl, ((B1.alloc (.cells (zb 64 (fun _ => 0)) 28)).rowOther (by omega)), ((B2.alloc (.cells (zb 64 (fun _ => 0)) 28)).rowOther (by omega)), ((B3.alloc (.cells (zb 64 (fun _ => 0)) 28)).rowOther (by omega)), ((B4.alloc (.cells (zb 64 (fun _ => 0)) 28)).rowOther (by omega)), ((Blk.new wr 64 28 (fun _ => 0)).row (fun _ => 0)), (zr (hb.alloc (by have := hb.size; simp; omega) (.cells (zb 64 (fun _ => 0)) 28)) (by omega) _)⟩
          rw [← hwo]
          clear hwo B1 B2 B3 B4 hb
          obtain ⟨B1, B2, B3, B4, B5, hb⟩ := hzQ
          obtain ⟨N3, hNN⟩ : ∃ n : Nat, n = wr.heap.size := ⟨_, rfl⟩
          rw [← hNN] at lt_B1 lt_B2 lt_B3 lt_B4 lhb B5 ⊢
          clear hNN
          have zN3_1 := lt_B1
          have zN3_2 := lt_B2
          have zN3_3 := lt_B3
          have zN3_4 := lt_B4
          have zN3 := lhb
          clear lt_B1 lt_B2 lt_B3 lt_B4 lhb
          try simp only [Act.put, pA, pB, pC]
          clear hrun
          have lt_B1 := B1.lt
          have lt_B2 := B2.lt
          have lt_B3 := B3.lt
          have lt_B4 := B4.lt
          have lt_B5 := B5.lt
          go_upto_region 11 with (first | rw [← z64] | (refine zla (.tmp 5) B1 Try.underlying28 Try.size28 ?_) | (refine zla (.tmp 5) B1 Try.underlying28 Try.size28 ?_) | (go_at_call 183; refine (HT.out _ hb).mono ?_; rintro e W5 ⟨rfl, hW5⟩; replace B1 := B1.zw hW5; replace B2 := B2.zw hW5; replace B3 := B3.zw hW5; replace B4 := B4.zw hW5; replace B5 := B5.zw hW5; replace hb := (hb).trans (hW5.mono (hb).size)) | (refine zsr (.tmp 11) (.tmp 39) (mul ps ps) B5 Try.size28 ?_; try simp only [Act.put]))
          obtain ⟨W6, hwo, hzQ⟩ : ∃ v : World, v = (W5.setRow (N3) (zb 64 (mul ps ps))) ∧ Blk v (w.heap.size + 1) 64 28 (ps) ∧ Blk v (w.heap.size + 1 + 1) 64 28 (fun _ => 0) ∧ MapG Try.prog 28 v (N1) L ∧ Blk v (N2) 64 28 (po) ∧ Blk v (N3) 64 28 (mul ps ps) ∧ Below w.heap.size w v := ⟨_, rfl, (B1.rowOther (by omega)), (B2.rowOther (by omega)), (B3.rowOther (by omega)), (B4.rowOther (by omega)), (B5.row (mul ps ps)), (zr hb (by omega) _)⟩
          rw [← hwo]
          clear hwo B1 B2 B3 B4 B5 hb
          obtain ⟨B1, B2, B3, B4, B5, hb⟩ := hzQ
          try simp only [Act.put, pA, pB, pC]
          obtain ⟨wM, hput, hmn, hgr⟩ := B3.put (val := .agg (zb 64 (mul ps ps))) Try.keyPoly Try.underlying197 HKL.out hno
          have gB1 : Blk wM (w.heap.size + 1) 64 28 (ps) := B1.grown hgr (by omega)
          have gB2 : Blk wM (w.heap.size + 1 + 1) 64 28 (fun _ => 0) := B2.grown hgr (by omega)
          have gB4 : Blk wM (N2) 64 28 (po) := B4.grown hgr (by omega)
          have gB5 : Blk wM (N3) 64 28 (mul ps ps) := B5.grown hgr (by omega)
          have ghb : Below w.heap.size w wM := hb.grown hgr hb.size (fun j e => by cases e; omega)
          go_upto_region 12 with (first | (refine zla (.tmp 5) B1 Try.underlying28 Try.size28 ?_) | (refine zla (.tmp 11) B5 Try.underlying28 Try.size28 ?_) | (at_mapUpdate; refine wpList_put _ rfl _ _ _ 197 rfl _ rfl _ rfl _ rfl wM hput ?_; go_upto_region 12 with (fail)))
          clear B1 B2 B3 B4 B5 hb hput hgr hno
          have B1 := gB1
          clear gB1
          have B2 := gB2
          clear gB2
          have B3 := hmn
          clear hmn
          have B4 := gB4
          clear gB4
          have B5 := gB5
          clear gB5
          have hb := ghb
          clear ghb
          have lt_B1 := B1.lt
          have lt_B2 := B2.lt
          have lt_B3 := B3.lt
          have lt_B4 := B4.lt
          have lt_B5 := B5.lt
          go_wp2_with (first | rw [← z64] | (refine zla (.tmp 11) B5 Try.underlying28 Try.size28 ?_) | (refine zsr (.tmp 5) (.tmp 43) (mul ps ps) B1 Try.size28 ?_; try simp only [Act.put]))
          obtain ⟨W7, hwo, hzQ⟩ : ∃ v : World, v = (wM.setRow (w.heap.size + 1) (zb 64 (mul ps ps))) ∧ Blk v (w.heap.size + 1) 64 28 (mul ps ps) ∧ Blk v (w.heap.size + 1 + 1) 64 28 (fun _ => 0) ∧ MapG Try.prog 28 v (N1) (L ++ [(.agg (zb 64 ps), .agg (zb 64 (mul ps ps)))]) ∧ Blk v (N2) 64 28 (po) ∧ Blk v (N3) 64 28 (mul ps ps) ∧ Below w.heap.size w v := ⟨_, rfl, (B1.row (mul ps ps)), (B2.rowOther (by omega)), (B3.rowOther (by omega)), (B4.rowOther (by omega)), (B5.rowOther (by omega)), (zr hb (by omega) _)⟩
          rw [← hwo]
          clear hwo B1 B2 B3 B4 B5 hb
          obtain ⟨B1, B2, B3, B4, B5, hb⟩ := hzQ
          try simp only [Act.put, pA, pB, pC]
          go_roundw
          case rel => exact ⟨q, k / 2, po, mul ps ps, L ++ [(.agg (zb 64 ps), .agg (zb 64 (mul ps ps)))], HV, HD.out, by omega, Lib.hid (fun _ => by have := HS2.out; rw [if_neg HO.out] at this; exact this), Lib.hid (by intro q hq; rcases List.mem_append.1 hq with h | h; exact hL.out q h; rw [List.mem_singleton] at h; subst h; exact ⟨ps, rfl, rfl⟩), by rw [show ((k / 2 : Nat) : Int) = (k : Int) / 2 by push_cast; rfl], hb, B1, B2, B3, B4⟩
          case measure => simp [intOf] <;> omega
        · simp only [if_true] at hrun
          obtain rfl : v = .agg (zb 64 (mul ps ps)) := by
           obtain ⟨x, e1, e2⟩ := hL.out _ hin
           have e3 : (Value.agg (zb 64 ps)) = .agg (zb 64 x) := e1
           have e4 : zb 64 ps = zb 64 x := by injection e3
           have e5 : v = .agg (zb 64 (mul x x)) := e2
           rw [e5, HC.out x ps (fun i hi => (bcells_inj e4 i hi).symm)]
          clear hin
          have lt_B1 := B1.lt
          have lt_B2 := B2.lt
          have lt_B3 := B3.lt
          have lt_B4 := B4.lt
          go_upto_region 12 with (first | rw [← z64] | (refine zla (.tmp 5) B1 Try.underlying28 Try.size28 ?_) | (at_lookup; refine wpList_look _ rfl _ _ 197 true rfl _ rfl _ rfl (.tuple #[.agg (zb 64 (mul ps ps)), .bool true]) hrun ?_) | (refine wpList_store_blk rfl 28 (.tmp 11) (.tmp 32) rfl _ 64 (mul ps ps) rfl rfl 28 _ ((Blk.new wr 64 28 (fun _ => 0))) Try.size28 ?_; try simp only [Act.put]; go_upto_region 12 with (fail)))
          have lt_B1 := B1.lt
          have lt_B2 := B2.lt
          have lt_B3 := B3.lt
          have lt_B4 := B4.lt
          have lhb := hb.size
          obtain ⟨W4, hwo, hzQ⟩ : ∃ v : World, v = ((wr.alloc (.cells (zb 64 (fun _ => 0)) 28)).setRow (wr.heap.size) (zb 64 (mul ps ps))) ∧ Blk v (w.heap.size + 1) 64 28 (ps) ∧ Blk v (w.heap.size + 1 + 1) 64 28 (fun _ => 0) ∧ MapG Try.prog 28 v (N1) L ∧ Blk v (N2) 64 28 (po) ∧ Blk v (wr.heap.size) 64 28 (mul ps ps) ∧ Below w.heap.size w v := ⟨_, rfl, ((B1.alloc (.cells (zb 64 (fun _ => 0)) 28)).rowOther (by omega)), ((B2.alloc (.cells (zb 64 (fun _ => 0)) 28)).rowOther (by omega)), ((B3.alloc (.cells (zb 64 (fun _ => 0)) 28)).rowOther (by omega)), ((B4.alloc (.cells (zb 64 (fun _ => 0)) 28)).rowOther (by omega)), ((Blk.new wr 64 28 (fun _ => 0)).row (mul ps ps)), (zr (hb.alloc (by have := hb.size; simp; omega) (.cells (zb 64 (fun _ => 0)) 28)) (by omega) _)⟩
          rw [← hwo]
          clear hwo B1 B2 B3 B4 hb
          obtain ⟨B1, B2, B3, B4, B5, hb⟩ := hzQ
          obtain ⟨N3, hNN⟩ : ∃ n : Nat, n = wr.heap.size := ⟨_, rfl⟩
          rw [← hNN] at lt_B1 lt_B2 lt_B3 lt_B4 lhb B5 ⊢
          clear hNN
          have zN3_1 := lt_B1
          have zN3_2 := lt_B2
          have zN3_3 := lt_B3
          have zN3_4 := lt_B4
          have zN3 := lhb
          clear lt_B1 lt_B2 lt_B3 lt_B4 lhb
          try simp only [Act.put, pA, pB, pC]
          clear hrun
          have lt_B1 := B1.lt
          have lt_B2 := B2.lt
          have lt_B3 := B3.lt
          have lt_B4 := B4.lt
          have lt_B5 := B5.lt
          go_wp2_with (first | rw [← z64] | (refine zla (.tmp 11) B5 Try.underlying28 Try.size28 ?_) | (refine zsr (.tmp 5) (.tmp 43) (mul ps ps) B1 Try.size28 ?_; try simp only [Act.put]))
          obtain ⟨W5, hwo, hzQ⟩ : ∃ v : World, v = (W4.setRow (w.heap.size + 1) (zb 64 (mul ps ps))) ∧ Blk v (w.heap.size + 1) 64 28 (mul ps ps) ∧ Blk v (w.heap.size + 1 + 1) 64 28 (fun _ => 0) ∧ MapG Try.prog 28 v (N1) L ∧ Blk v (N2) 64 28 (po) ∧ Blk v (N3) 64 28 (mul ps ps) ∧ Below w.heap.size w v := ⟨_, rfl, (B1.row (mul ps ps)), (B2.rowOther (by omega)), (B3.rowOther (by omega)), (B4.rowOther (by omega)), (B5.rowOther (by omega)), (zr hb (by omega) _)⟩
          rw [← hwo]
          clear hwo B1 B2 B3 B4 B5 hb
          obtain ⟨B1, B2, B3, B4, B5, hb⟩ := hzQ
          try simp only [Act.put, pA, pB, pC]
          go_roundw
          case rel => exact ⟨q, k / 2, po, mul ps ps, L, HV, HD.out, by omega, Lib.hid (fun _ => by have := HS2.out; rw [if_neg HO.out] at this; exact this), hL, by rw [show ((k / 2 : Nat) : Int) = (k : Int) / 2 by push_cast; rfl], hb, B1, B2, B3, B4⟩
          case measure => simp [intOf] <;> omega
      · have hq : (k : Int) / 2 = 0 := by omega
        have hq2 : ((k : Int).tdiv 2) = 0 := by rw [Int.tdiv_eq_ediv_of_nonneg (by omega)]; exact hq
        have HE := Lib.hid (show k / 2 = 0 by omega)
        clear h1
        go_wp2_with fail
        go_roundw
        case rel => exact ⟨q, 0, po, ps, L, Lib.hid (HV.out.trans (by rw [HE.out, pgR_z, pgR_z])), Nat.pow_pos (by omega), by omega, Lib.hid (fun h => absurd h (by omega)), hL, by simp, hb, B1, B2, B3, B4⟩
        case measure => simp [intOf] <;> omega
end Go.Proofs.Ytelgefgphhebnaa
namespace Go.Proofs.Ytelgefgphhebnaa
open Go.RowKit
set_option linter.unusedVariables false
set_option linter.unusedSimpArgs false
attribute [local irreducible] deg invN dS qS stp stpr quoP resP oneP upP upF hmR mmP shA addK pgR mmC pmI pmP
theorem pmI_pmP {p k : Nat} {a m : Nat → Nat} (hp : p = 2 ∨ p = 3 ∨ p = 5 ∨ p = 7) (ha : ∀ i, i < 64 → a i < p) (hm : ∀ k, k < 64 → m k < p) (h0 : 0 ≤ deg m) (hk : k < 2 ^ 64) : ∀ i, i < 64 → pmI p a k m i = pmP p a k m i :=
 res_sameN hp (fun i hi => pmI_lt (by omega) i hi) (pmP_spec hp ha hm h0 hk).1 hm h0 (pmI_spec hp hm h0 hk).1 (pmP_spec hp ha hm h0 hk).2.1 (rm_trans (pmI_spec hp hm h0 hk).2 (rm_symm (pmP_spec hp ha hm h0 hk).2.2))
theorem powMod_any (p : Nat) (f : Nat → Nat) (k0 : Nat) (m : Nat → Nat) (bp bm : Nat) (w : World) (hpr : p = 2 ∨ p = 3 ∨ p = 5 ∨ p = 7) (lf : ∀ k, k < 64 → f k < p) (lm : ∀ k, k < 64 → m k < p) (h0 : 0 ≤ deg m) (hk0 : (k0 : Int) ≤ 1000000000000)
 (B0 : One w bp 2 (.int .i64 (p : Int))) (B1 : Blk w bm 64 28 m) :
 Calls Try.prog 184 #[.agg (zb 64 oneP), .agg (zb 64 f), .int .i64 (k0 : Int), .func (.func 183) #[] #[.pointer (some ⟨bp, 0, none⟩), .pointer (some ⟨bm, 0, none⟩)]] w fun e w' => e = .returned (.agg (zb 64 (pgR (mmC p m) 64 k0 oneP f))) ∧ Below w.heap.size w w' := by
 have p0 : 0 < p := by omega
 have key : ∀ (x y : Nat → Nat) W, (∀ i, i < 64 → x i < p) → (∀ i, i < 64 → y i < p) → Below w.heap.size w W → Calls Try.prog 183 #[.agg (zb 64 x), .agg (zb 64 y), .pointer (some ⟨bp, 0, none⟩), .pointer (some ⟨bm, 0, none⟩)] W fun e w' => e = .returned (.agg (zb 64 (mmC p m x y))) ∧ Below W.heap.size W w' := by
  intro x y W hx hy hB
  have := timesMod_any p (cut x) (cut y) m bp bm W hpr (fun k hk => by rw [cut_in _ hk]; exact hx k hk) (fun k hk => by rw [cut_in _ hk]; exact hy k hk) lm h0 (B0.zw hB) (B1.zw hB)
  rw [bcells_cut, bcells_cut] at this
  unfold mmC
  exact this
 exact powerMod (mmC p m) (fun _ r s => (∀ i, i < 64 → r i < p) ∧ ∀ i, i < 64 → s i < p) _ _ f k0 w
  (Lib.hid fun k r s W hP _ hB => key r s W hP.1 hP.2 hB) (Lib.hid fun k r s W hP _ hB => key s s W hP.2 hP.2 hB)
  (Lib.hid fun k r s hP _ => ⟨fun i hi => by
   by_cases h : k % 2 = 1
   · rw [if_pos h]; exact mmC_lt p0 m r s i hi
   · rw [if_neg h]; exact hP.1 i hi, mmC_lt p0 m s s⟩)
  (Lib.hid fun x y h => by unfold mmC; rw [cut_eq h]) (Lib.hid fun k r s hP i hi => by have := hP.2 i hi; omega) (fun _ => ⟨fun i _ => by unfold oneP; split <;> omega, lf⟩) hk0
set_option maxRecDepth 100000 in
set_option maxHeartbeats 1600000 in
theorem powerModulo_any (p : Nat) (f : Nat → Nat) (k0 : Nat) (m : Nat → Nat) (w : World) (hpr : p = 2 ∨ p = 3 ∨ p = 5 ∨ p = 7) (lf : ∀ k, k < 64 → f k < p) (lm : ∀ k, k < 64 → m k < p) (h0 : 0 ≤ deg m) (hk0 : (k0 : Int) ≤ 1000000000000) :
 Calls Try.prog 167 #[.int .i64 (p : Int), .agg (zb 64 f), .int .i64 (k0 : Int), .agg (zb 64 m)] w fun e w' => e = .returned (.agg (zb 64 (pmP p f k0 m))) ∧ Below w.heap.size w w' := by
 have p0 : 0 < p := by omega
 have HE := Lib.hid (show zb 64 (resP p (pgR (mmC p m) 64 k0 oneP f) m) = zb 64 (pmP p f k0 m) from zbc (by
  have := pmI_pmP (k := k0) hpr lf lm h0 (by have h6 : (1000000000000 : Nat) < 2 ^ 64 := (by decide); omega)
  unfold pmI at this; exact this))
 have HPW := Lib.hid (fun bp bm W => powMod_any p f k0 m bp bm W hpr lf lm h0 hk0)
 have HRO := Lib.hid (fun W => restOf_any p (pgR (mmC p m) 64 k0 oneP f) m W hpr (pgR_lt (mmC_lt p0 m) 64 k0 oneP f (fun i _ => by unfold oneP; split <;> omega)) lm h0)
 have hmf : ∀ (fn : Fn) (first cap : Array Value) (w : World), (Instr.makeFunc fn first cap).run Try.prog w = .ok (.func fn first cap) w := fun _ _ _ _ => rfl
 go_enter Try.func167, Try.ntmps167
 go_upto_region 1 with (fail)
 rw [← z64]
 obtain ⟨W1, hwo⟩ : ∃ v : World, v = ((((w.alloc (.cells #[(.int .i64 (p : Int))] 2)).alloc (.cells (zb 64 (f)) 28)).alloc (.cells (zb 64 (m)) 28)).alloc (.cells (zb 64 (fun _ => 0)) 28)) := ⟨_, rfl⟩
 have B0 : One W1 (w.heap.size) 2 (.int .i64 (p : Int)) := by subst hwo; have := ((((One.new w 2 (.int .i64 (p : Int))).alloc (.cells (zb 64 (f)) 28)).alloc (.cells (zb 64 (m)) 28)).alloc (.cells (zb 64 (fun _ => 0)) 28)); simpa using this
 have B1 : Blk W1 (w.heap.size + 1) 64 28 (f) := by subst hwo; have := (((Blk.new (w.alloc (.cells #[(.int .i64 (p : Int))] 2)) 64 28 (f)).alloc (.cells (zb 64 (m)) 28)).alloc (.cells (zb 64 (fun _ => 0)) 28)); simpa using this
 have B2 : Blk W1 (w.heap.size + 1 + 1) 64 28 (m) := by subst hwo; have := ((Blk.new ((w.alloc (.cells #[(.int .i64 (p : Int))] 2)).alloc (.cells (zb 64 (f)) 28)) 64 28 (m)).alloc (.cells (zb 64 (fun _ => 0)) 28)); simpa using this
 have B3 : Blk W1 (w.heap.size + 1 + 1 + 1) 64 28 (fun _ => 0) := by subst hwo; have := (Blk.new (((w.alloc (.cells #[(.int .i64 (p : Int))] 2)).alloc (.cells (zb 64 (f)) 28)).alloc (.cells (zb 64 (m)) 28)) 64 28 (fun _ => 0)); simpa using this
 have hb : Below w.heap.size w W1 := by subst hwo; exact (((((Below.refl _ _).alloc (Nat.le_refl _) _).alloc (by simp) _).alloc (by simp; omega) _).alloc (by simp; omega) _)
 rw [← hwo]
 clear hwo
 go_upto_region 2 with (fail)
 clear hmf
 have lt_B0 : (w.heap.size) < W1.heap.size := B0.lt
 have lt_B1 : (w.heap.size + 1) < W1.heap.size := B1.lt
 have lt_B2 : (w.heap.size + 1 + 1) < W1.heap.size := B2.lt
 have lt_B3 : (w.heap.size + 1 + 1 + 1) < W1.heap.size := B3.lt
 have hbase : w.heap.size ≤ W1.heap.size := hb.size
 refine zq Try.mixed (by kernel_rfl) (by kernel_rfl) (fun v => by (simp only [frL, Act.put, pA, pB, pC, Nat.reduceAdd, Nat.zero_add]; exact rfl))
  (fun L v W2 => Below w.heap.size w W2 ∧ W1.heap.size ≤ W2.heap.size ∧ One W2 (w.heap.size) 2 (.int .i64 (p : Int)) ∧ Blk W2 (w.heap.size + 1) 64 28 (f) ∧ Blk W2 (w.heap.size + 1 + 1) 64 28 (m) ∧ (∃ g, Blk W2 (w.heap.size + 1 + 1 + 1) 64 28 (g)) ∧ (L 8 = false → Blk W2 (w.heap.size + 1 + 1 + 1) 64 28 (fun _ => 0)) ∧ (L 8 = true → Blk W2 (w.heap.size + 1 + 1 + 1) 64 28 (resP p (pgR (mmC p m) 64 k0 oneP f) m)) ∧ VF L v [some (.int .i64 (p : Int)), some (.agg (zb 64 (oneP))), some (.agg (zb 64 (f))), some (.int .i64 (k0 : Int)), some (.func (.func 183) #[] #[(.pointer (some ⟨w.heap.size, 0, none⟩)), (.pointer (some ⟨w.heap.size + 1 + 1, 0, none⟩))]), some (.agg (zb 64 (pgR (mmC p m) 64 k0 oneP f))), some (.agg (zb 64 (m))), some (.agg (zb 64 (resP p (pgR (mmC p m) 64 k0 oneP f) m))), none]) ?_ ?_ ?_
 · intro v hv0
   exact ⟨hb.drew, Nat.le_refl _, B0.drew, B1.drew, B2.drew, ⟨_, B3.drew⟩, (fun _ => B3.drew), (fun h => by cases h), VF.start⟩
 · refine (.cons rfl ?_ (.cons rfl ?_ (.cons rfl ?_ (.cons rfl ?_ (.cons rfl ?_ (.cons rfl ?_ (.cons rfl ?_ (.cons rfl ?_ (.cons rfl ?_ (.nil _))))))))))
   all_goals intro L v W2 hd hn ⟨hB, hz, s0, s1, s2, x3, q3, n3, V⟩ K hK
   · refine wp_load_one 2 _ rfl _ rfl 2 _ s0 _ Try.underlying2 rfl ?_
     exact hK _ _ _ rfl ⟨hB, hz, s0, s1, s2, x3, q3, n3, V.step 0 rfl⟩
   · refine wp_build_of 28 _ rfl (zb 64 oneP) (by rw [Array.toList_map]; exact built_one) ?_
     exact hK _ (.agg (zb 64 (oneP))) _ (by simp only [Act.put, pA, pB, pC ]) ⟨hB, hz, s0, s1, s2, x3, q3, n3, V.step 1 rfl⟩
   · refine zlc s1 Try.underlying28 Try.size28 ?_
     exact hK _ _ _ rfl ⟨hB, hz, s0, s1, s2, x3, q3, n3, V.step 2 rfl⟩
   · go_wp2_with fail
     exact hK _ (.int .i64 (k0 : Int)) _ (by simp only [Act.put, pA, pB, pC ]) ⟨hB, hz, s0, s1, s2, x3, q3, n3, V.step 3 rfl⟩
   · go_wp2_with fail
     exact hK _ (.func (.func 183) #[] #[(.pointer (some ⟨w.heap.size, 0, none⟩)), (.pointer (some ⟨w.heap.size + 1 + 1, 0, none⟩))]) _ (by simp only [Act.put, pA, pB, pC ]) ⟨hB, hz, s0, s1, s2, x3, q3, n3, V.step 4 rfl⟩
   · have e1 := V.at (zdq hd 1 rfl) rfl
     have e2 := V.at (zdq hd 2 rfl) rfl
     have e3 := V.at (zdq hd 3 rfl) rfl
     have e4 := V.at (zdq hd 4 rfl) rfl
     go_wp2_with (go_at_call 184; refine (HPW.out _ _ _ s0 s2).mono ?_; rintro e wy ⟨rfl, hy⟩)
     exact hK _ (.agg (zb 64 (pgR (mmC p m) 64 k0 oneP f))) _ (by simp only [Act.put, pA, pB, pC, e1, e2, e3, e4]) ⟨hB.trans (hy.mono hB.size), (Nat.le_trans hz hy.size), s0.zw hy, s1.zw hy, s2.zw hy, (let ⟨g, h⟩ := x3; ⟨g, h.zw hy⟩), (fun h => (q3 h).below hy (q3 h).lt), (fun h => (n3 h).below hy (n3 h).lt), V.step 5 rfl⟩
   · refine zlc s2 Try.underlying28 Try.size28 ?_
     exact hK _ _ _ rfl ⟨hB, hz, s0, s1, s2, x3, q3, n3, V.step 6 rfl⟩
   · have e0 := V.at (zdq hd 0 rfl) rfl
     have e5 := V.at (zdq hd 5 rfl) rfl
     have e6 := V.at (zdq hd 6 rfl) rfl
     go_wp2_with (go_at_call 66; refine (HRO.out _).mono ?_; rintro e wy ⟨rfl, hy⟩)
     exact hK _ (.agg (zb 64 (resP p (pgR (mmC p m) 64 k0 oneP f) m))) _ (by simp only [Act.put, pA, pB, pC, e0, e5, e6]) ⟨hB.trans (hy.mono hB.size), (Nat.le_trans hz hy.size), s0.zw hy, s1.zw hy, s2.zw hy, (let ⟨g, h⟩ := x3; ⟨g, h.zw hy⟩), (fun h => (q3 h).below hy (q3 h).lt), (fun h => (n3 h).below hy (n3 h).lt), V.step 7 rfl⟩
   · have e7 := V.at (zdq hd 7 rfl) rfl
     obtain ⟨gz, hk⟩ := x3
     refine zsb 28 _ _ rfl _ 64 (resP p (pgR (mmC p m) 64 k0 oneP f) m) rfl e7 28 gz hk Try.size28 ?_
     exact hK _ undef _ rfl ⟨zr hB (by omega) _, (by simpa [World.setRow] using hz), (s0).rowOther (by omega), (s1).rowOther (by omega), (s2).rowOther (by omega), ⟨_, hk.row _⟩, (fun h => absurd h (by simp [setL])), (fun _ => hk.row _), V.skip 8 rfl⟩
 · intro L v W2 hL ⟨hB, hz, s0, s1, s2, x3, q3, n3, V⟩
   have r3 := n3 (hL 8 (by decide))
   have e0 := V.at (hL 0 (by decide)) rfl
   have e1 := V.at (hL 1 (by decide)) rfl
   have e2 := V.at (hL 2 (by decide)) rfl
   have e3 := V.at (hL 3 (by decide)) rfl
   have e4 := V.at (hL 4 (by decide)) rfl
   have e5 := V.at (hL 5 (by decide)) rfl
   have e6 := V.at (hL 6 (by decide)) rfl
   have e7 := V.at (hL 7 (by decide)) rfl
   clear hL x3 q3 n3 V
   simp only [Exit.then, e0, e1, e2, e3, e4, e5, e6, e7]
   clear e0 e1 e2 e3 e4 e5 e6 e7
   replace B0 := s0
   clear s0
   replace B1 := s1
   clear s1
   replace B2 := s2
   clear s2
   replace B3 := r3
   clear r3
   replace hb := hB
   clear hB
   clear hbase hz lt_B0 lt_B1 lt_B2 lt_B3
   go_wp2_with fail
   refine bodyPost_ret (zrb rfl _ _ _ 64 28 5 _ rfl B3 Try.underlying28 Try.size28) rfl ⟨by rw [HE.out], hb⟩
end Go.Proofs.Ytelgefgphhebnaa
end
section
namespace Go.Proofs.Ytelgefgphhebnaa
theorem pow_big {p k : Nat} (h1 : 1 ≤ p) (h2 : p ≤ 7) (hk : k ≤ 20) : 1 ≤ p ^ k ∧ p ^ k ≤ 79792266297612001 := by
 have a1 : p ^ k ≤ 7 ^ k := Nat.pow_le_pow_left h2 k
 have a2 : 7 ^ k ≤ 7 ^ 20 := Nat.pow_le_pow_right (by omega) hk
 have a3 : 1 ≤ p ^ k := Nat.pow_pos (by omega)
 have a4 : 7 ^ 20 = 79792266297612001 := by decide
 omega
end Go.Proofs.Ytelgefgphhebnaa
namespace Go.Proofs.Ytelgefgphhebnaa
open Go.RowKit
set_option linter.unusedVariables false
set_option linter.unusedSimpArgs false
theorem norm_any (p n : Nat) (w : World) (hp1 : 2 ≤ p) (hp2 : p ≤ 7) (hn : n ≤ 20) :
 Calls Try.prog 164 #[.int .i64 (p : Int), .int .i64 (n : Int)] w fun e w' => e = .returned (.int .i64 ((p ^ n : Nat) : Int)) ∧ w = w' := by
 go_enter Try.func164, Try.ntmps164
 go_wp2_with fail
 go_loopw [5, 7] (fun x i wr => ∃ k X : Nat, k ≤ n ∧ X = p ^ k ∧ x = .int .i64 (X : Int) ∧ i = .int .i64 (k : Int) ∧ wr = w) (fun _ i _ => n - (intOf i).toNat)
 case atStart => exact ⟨0, 1, by omega, rfl, rfl, rfl, rfl⟩
 case round =>
  obtain ⟨k, X, hk, hX, rfl, rfl, rfl⟩ := hrel
  obtain ⟨x1, x2⟩ := pow_big (p := p) (k := k) (by omega) hp2 (by omega)
  rw [← hX] at x1 x2
  by_cases hlt : k < n
  · obtain ⟨y1, y2⟩ := pow_big (p := p) (k := k + 1) (by omega) hp2 (by omega)
    rw [Nat.pow_succ, ← hX] at y1 y2
    have HX := Lib.hid hX; clear hX
    have z1 : ((X * p : Nat) : Int) ≤ 79792266297612001 := by omega
    have z2 : 1 ≤ ((X * p : Nat) : Int) := by omega
    rw [Int.natCast_mul] at z1 z2
    clear y1 y2
    go_wp2_with fail
    go_roundw
    case rel => exact ⟨k + 1, X * p, by omega, by rw [Nat.pow_succ, ← HX.out], by go_num, by go_num, trivial⟩
    case measure => simp [intOf]; omega
  · have e : k = n := by omega
    subst e
    have HX := Lib.hid hX; clear hX
    go_wp2_with fail
    go_ret
    exact ⟨ret_int (congrArg (fun x : Nat => (x : Int)) HX.out), rfl⟩
end Go.Proofs.Ytelgefgphhebnaa
namespace Go.Proofs.Ytelgefgphhebnaa
open Go Go.RowKit
set_option linter.unusedVariables false
/-- v is a slice of the rows cs, each of so many cells, in a block from base on (or nil) -/
def SlL (w : World) (base : Nat) (e : TypeId) (size : Nat) (v : Value) (cs : List (List Value)) : Prop := base ≤ w.heap.size ∧ (∀ c ∈ cs, c.length = size) ∧ w.ownsRow base e size v cs.length cs.flatten
theorem SlL.lt {w : World} {base : Nat} {e : TypeId} {size : Nat} {v : Value} {cs : List (List Value)} (h : SlL w base e size v cs) : base ≤ w.heap.size := h.1
theorem SlL.nil {w : World} {base : Nat} (e : TypeId) (size : Nat) (h : base ≤ w.heap.size) : SlL w base e size (.slice none 0 0) [] := ⟨h, by simp, World.ownsRow_nil _ _ _ _⟩
theorem SlL.grown {w w' : World} {base : Nat} {e : TypeId} {size : Nat} {v : Value} {cs : List (List Value)} {row : Option Nat} (h : SlL w base e size v cs) (hg : w.grownBy w' row) (hr : ∀ r, row = some r → r < base) : SlL w' base e size v cs :=
 ⟨Nat.le_trans h.1 hg.size, h.2.1, h.2.2.kept hg (by
  cases hv : v.ownBlock with
  | none => exact .inl rfl
  | some k =>
   right
   intro he
   have h1 := (h.2.2.lt k hv).1
   have h2 := hr k he.symm
   omega)⟩
theorem SlL.alloc {w : World} {base : Nat} {e : TypeId} {size : Nat} {v : Value} {cs : List (List Value)} (h : SlL w base e size v cs) (o : Obj) : SlL (w.alloc o) base e size v cs := h.grown (World.grownBy_alloc w o none) (fun r e => by cases e)
theorem SlL.drew {w : World} {base : Nat} {e : TypeId} {size : Nat} {v : Value} {cs : List (List Value)} (h : SlL w base e size v cs) : SlL w.drew base e size v cs := h
theorem SlL.below {w w' : World} {base : Nat} {e : TypeId} {size : Nat} {v : Value} {cs : List (List Value)} (h : SlL w base e size v cs) (hb : Below w.heap.size w w') (_ : base ≤ w.heap.size) : SlL w' base e size v cs :=
 h.grown (row := none) ⟨hb.os, hb.tape, hb.output, hb.size, fun k hk _ => hb.block k hk⟩ (fun r e => by cases e)
theorem SlL.zw {w w' : World} {base : Nat} {e : TypeId} {size : Nat} {v : Value} {cs : List (List Value)} (h : SlL w base e size v cs) (hb : Below w.heap.size w w') : SlL w' base e size v cs := SlL.below h hb (SlL.lt h)
theorem SlL.rowOther {w : World} {base : Nat} {e : TypeId} {size : Nat} {v : Value} {cs : List (List Value)} (h : SlL w base e size v cs) {k : Nat} {xs : Array Value} (hk : k < base) : SlL (w.setRow k xs) base e size v cs :=
 h.grown (row := some k) ⟨rfl, rfl, rfl, by simp [World.setRow], fun j _ hj => setRow_other _ _ _ _ (fun e => hj (by rw [e]))⟩ (fun r e => by cases e; exact hk)
theorem SlL.setOther {w : World} {base : Nat} {e : TypeId} {size : Nat} {v x : Value} {cs : List (List Value)} (h : SlL w base e size v cs) {a : Addr} (ha : a.block < base) : SlL (w.setCell a x) base e size v cs :=
 ⟨by simpa using h.1, h.2.1, ownsRow_setCell_below h.2.2 ha x⟩
theorem SlL.own {w : World} {base : Nat} {e : TypeId} {size : Nat} {v : Value} {cs : List (List Value)} (h : SlL w base e size v cs) : ∀ r, v.ownBlock = some r → base ≤ r := fun r hr => (h.2.2.lt r hr).1
theorem SlL.shape {w : World} {base : Nat} {e : TypeId} {size : Nat} {v : Value} {cs : List (List Value)} (h : SlL w base e size v cs) : (v = .slice none 0 0 ∧ cs = []) ∨ ∃ g cap, v = .slice (some ⟨g, 0, none⟩) cs.length cap := by
 obtain ⟨_, _, _, h | ⟨g, cap, cur, rfl, _⟩⟩ := h
 · exact .inl ⟨h.1, List.eq_nil_of_length_eq_zero h.2⟩
 · exact .inr ⟨g, cap, rfl⟩
theorem flat_at : ∀ (cs : List (List Value)) (size i : Nat) (c : List Value) (j : Nat) (u : Value), (∀ c ∈ cs, c.length = size) → cs[i]? = some c → c[j]? = some u → cs.flatten[i * size + j]? = some u
 | [], _, _, _, _, _, _, h, _ => by simp at h
 | g :: cs, size, 0, c, j, u, _, h, hj => by
  simp only [List.getElem?_cons_zero, Option.some.injEq] at h
  subst h
  rw [List.flatten_cons, Nat.zero_mul, Nat.zero_add, List.getElem?_append_left (List.getElem?_eq_some_iff.1 hj).1]
  exact hj
 | g :: cs, size, i + 1, c, j, u, hs, h, hj => by
  have hg : g.length = size := hs g (by simp)
  have e1 : (i + 1) * size = i * size + size := Nat.succ_mul i size
  rw [List.flatten_cons, List.getElem?_append_right (by rw [hg]; omega), hg]
  have := flat_at cs size i c j u (fun c hc => hs c (by simp [hc])) (by simpa using h) hj
  rw [show (i + 1) * size + j - size = i * size + j by omega]
  exact this
/-- the cells of one element -/
theorem SlL.range {w : World} {base : Nat} {e : TypeId} {size g n cap : Nat} {cs : List (List Value)} (h : SlL w base e size (.slice (some ⟨g, 0, none⟩) n cap) cs) {i : Nat} {c : List Value} (hi : cs[i]? = some c) : w.rangeAt g (i * size) c := by
 intro j u hu
 obtain ⟨_, hs, hl, h | ⟨g', cap', cur, hv, hg, hh, h1, h2, h3, h4⟩⟩ := h
 · cases h.1
 · injection hv with e1 e2 e3
   injection e1 with e1
   injection e1 with e1
   subst e1
   rw [cell_of_row _ _ _ _ _ _ hh]
   have hc : cs.flatten[i * size + j]? = some u := flat_at cs size i c j u hs hi hu
   rw [← h4] at hc
   have hlt : i * size + j < cs.length * size := by
    have := (List.getElem?_eq_some_iff.1 hc).1
    rw [List.length_take] at this
    omega
   rw [List.getElem?_take_of_lt hlt] at hc
   rw [← Array.getElem?_toList]
   exact hc
theorem SlL.len {w : World} {base : Nat} {e : TypeId} {size g n cap : Nat} {cs : List (List Value)} (h : SlL w base e size (.slice (some ⟨g, 0, none⟩) n cap) cs) : n = cs.length ∧ base ≤ g ∧ g < w.heap.size := by
 obtain ⟨_, hs, hl, h | ⟨g', cap', cur, hv, hg, hh, h1, h2, h3, h4⟩⟩ := h
 · cases h.1
 · injection hv with e1 e2 e3
   injection e1 with e1
   injection e1 with e1
   subst e1
   exact ⟨e2, hg, (Array.getElem?_eq_some_iff.1 hh).1⟩
theorem One.row {w : World} {b : Nat} {t : TypeId} {v : Value} (h : One w b t v) (u : Value) : One (w.setRow b #[u]) b t u := by
 unfold One at *
 exact setRow_heap _ _ _ _ _ _ h
theorem wpList_store_oneV {P : Program} {ops : Array Oper} {rest : List Oper} {o : Oper} {a : Act} {w : World} {Q : Exit → Act → World → Prop} (hgd : o.guard = none) (ty : TypeId) (x y : Operand) (ho : o.op = .store ty x y)
 (b : Nat) (hx : a.eval x = .pointer (some ⟨b, 0, none⟩)) (u : Value) (hy : a.eval y = u) (h1 : u.oneCell' = true) (t : TypeId) (old : Value) (hb : One w b t old) (hi : (P.info? ty).map (·.size) = some 1)
 (h : wpList P ops Q rest (a.put o.dst undef) (w.setRow b #[u])) : wpList P ops Q (o :: rest) a w := by
 subst hy
 unfold One at hb
 exact wpList_store_one hgd ty x y ho b hx h1 t old hb hi h
/-- append of one element -/
theorem wpList_append_sl {P : Program} (w : World) {ops : Array Oper} {rest : List Oper} {o : Oper} {a : Act} {Q : Exit → Act → World → Prop}
 (hg : o.guard = none) (s x : Operand) (t : TypeId) (hop : o.op = Op.call { callee := Callee.builtin Builtin.append, args := #[s, x], argTypes := #[t, t] })
 (base : Nat) (e : TypeId) (z : Value) (size bytes : Nat) (h1 : P.underlying t = some (.slice e)) (h2 : (P.info? e).map (fun i => (i.zero, i.size, i.bytes)) = some (some z, size, bytes)) (h6 : z.cells.size = size) (h7 : 0 < size)
 (v : Value) (cs : List (List Value)) (hs : a.eval s = v) (hown : SlL w base e size v cs) (g : Nat) (c : List Value) (hx : a.eval x = .slice (some ⟨g, 0, none⟩) 1 1) (hc : c.length = size)
 (hcell : w.rangeAt g 0 c) (h1c : ∀ u ∈ c, u.oneCell' = true) (b1 : cs.length + 1 ≤ maxLen) (b2 : (cs.length + 1) * bytes ≤ 140737488355328)
 (hK : ∀ v' w', SlL w' base e size v' (cs ++ [c]) → w.grownBy w' v.ownBlock → wpList P ops Q rest (a.put o.dst v') w') : wpList P ops Q (o :: rest) a w := by
 obtain ⟨i0, hi, hz0, hz1, hz2⟩ := info_parts h2
 refine wpList_append_own w hg s x t hop base e i0 z size bytes h1 hi hz0 hz1 hz2 h6 h7 v cs.length cs.flatten hs hown.2.2 ⟨g, 0, none⟩ 1 1 c hx (by omega) (fun j u hu => ?_) h1c b1 b2 hown.1 ?_
 · have := hcell j u hu
   rw [Nat.zero_add] at this
   have e : (⟨g, 0, none⟩ : Addr).add j = ⟨g, j, none⟩ := by unfold Addr.add; split <;> simp_all
   rw [e]; exact this
 · intro v' w' h1' h2' _
   refine hK v' w' ⟨Nat.le_trans hown.1 h2'.size, fun d hd => ?_, by simpa using h1'⟩ h2'
   rcases List.mem_append.1 hd with h | h
   · exact hown.2.1 d h
   · rw [List.mem_singleton] at h; rw [h]; exact hc
/-- what lies below the slice's block stays -/
theorem Blk.grownO {w w' : World} {b n : Nat} {t : TypeId} {f : Nat → Nat} {row : Option Nat} (h : Blk w b n t f) (hg : w.grownBy w' row) {base : Nat} (hr : ∀ r, row = some r → base ≤ r) (e : b < base) : Blk w' b n t f := by
 have hl := h.lt
 unfold Blk at *; rw [hg.block b hl (fun x => by have := hr b x.symm; omega)]; exact h
theorem One.grownO {w w' : World} {b : Nat} {t : TypeId} {v : Value} {row : Option Nat} (h : One w b t v) (hg : w.grownBy w' row) {base : Nat} (hr : ∀ r, row = some r → base ≤ r) (e : b < base) : One w' b t v :=
 h.of (hg.block b h.lt (fun x => by have := hr b x.symm; omega))
theorem SlL.grownN {w w' : World} {base : Nat} {e : TypeId} {size : Nat} {v : Value} {cs : List (List Value)} {row : Option Nat} (h : SlL w base e size v cs) (hg : w.grownBy w' row) (hr : ∀ r, row = some r → ∃ o : Obj, w.heap[r]? = some o ∧ o.isCells = false) : SlL w' base e size v cs :=
 ⟨Nat.le_trans h.1 hg.size, h.2.1, h.2.2.kept hg (by
  obtain ⟨_, _, _, h | ⟨g, cap, cur, rfl, hg', hh, r⟩⟩ := h
  · left; rw [h.1]; rfl
  · right
    intro he
    obtain ⟨o, ho, hc⟩ := hr g he.symm
    rw [hh] at ho; cases ho; cases hc)⟩
theorem SlL.one {w : World} {base : Nat} {e : TypeId} {size : Nat} {v : Value} {cs : List (List Value)} (h : SlL w base e size v cs) : v.oneCell' = true := by
 rcases h.shape with ⟨rfl, _⟩ | ⟨g, cap, rfl⟩ <;> rfl
theorem SlL.ownCells {w : World} {base : Nat} {e : TypeId} {size : Nat} {v : Value} {cs : List (List Value)} (h : SlL w base e size v cs) : ∀ r, v.ownBlock = some r → ∃ cur, w.heap[r]? = some (.cells cur e (0, 0)) := by
 intro r hr
 obtain ⟨_, _, _, h | ⟨g, cap, cur, rfl, hg', hh, _⟩⟩ := h
 · rw [h.1] at hr; cases hr
 · cases hr; exact ⟨cur, hh⟩
theorem SlL.base {w : World} {base base' : Nat} {e : TypeId} {size : Nat} {v : Value} {cs : List (List Value)} (h : SlL w base e size v cs) (hb : base' ≤ base) : SlL w base' e size v cs := ⟨Nat.le_trans hb h.1, h.2.1, by
 obtain ⟨_, _, hl, h | ⟨g, cap, cur, hv, hg', r⟩⟩ := h
 · exact ⟨hl, .inl h⟩
 · exact ⟨hl, .inr ⟨g, cap, cur, hv, Nat.le_trans hb hg', r⟩⟩⟩
/-- .. whose block lies below top -/
def SlT (w : World) (base top : Nat) (e : TypeId) (size : Nat) (v : Value) (cs : List (List Value)) : Prop := SlL w base e size v cs ∧ ∀ r, v.ownBlock = some r → r < top
theorem SlL.top {w : World} {base : Nat} {e : TypeId} {size : Nat} {v : Value} {cs : List (List Value)} (h : SlL w base e size v cs) : SlT w base w.heap.size e size v cs := ⟨h, fun r hr => (h.2.2.lt r hr).2⟩
theorem SlT.lt {w : World} {base top : Nat} {e : TypeId} {size : Nat} {v : Value} {cs : List (List Value)} (h : SlT w base top e size v cs) : base ≤ w.heap.size := h.1.1
theorem SlT.alloc {w : World} {base top : Nat} {e : TypeId} {size : Nat} {v : Value} {cs : List (List Value)} (h : SlT w base top e size v cs) (o : Obj) : SlT (w.alloc o) base top e size v cs := ⟨h.1.alloc o, h.2⟩
theorem SlT.drew {w : World} {base top : Nat} {e : TypeId} {size : Nat} {v : Value} {cs : List (List Value)} (h : SlT w base top e size v cs) : SlT w.drew base top e size v cs := h
theorem SlT.below {w w' : World} {base top : Nat} {e : TypeId} {size : Nat} {v : Value} {cs : List (List Value)} (h : SlT w base top e size v cs) (hb : Below w.heap.size w w') (hl : base ≤ w.heap.size) : SlT w' base top e size v cs := ⟨h.1.below hb hl, h.2⟩
theorem SlT.zw {w w' : World} {base top : Nat} {e : TypeId} {size : Nat} {v : Value} {cs : List (List Value)} (h : SlT w base top e size v cs) (hb : Below w.heap.size w w') : SlT w' base top e size v cs := SlT.below h hb (SlT.lt h)
theorem SlT.rowOther {w : World} {base top : Nat} {e : TypeId} {size : Nat} {v : Value} {cs : List (List Value)} (h : SlT w base top e size v cs) {k : Nat} {xs : Array Value} (hk : k < base ∨ top ≤ k) : SlT (w.setRow k xs) base top e size v cs :=
 ⟨⟨by simpa [World.setRow] using h.1.1, h.1.2.1, h.1.2.2.kept (row := some k) ⟨rfl, rfl, rfl, by simp [World.setRow], fun j _ hj => setRow_other _ _ _ _ (fun e => hj (by rw [e]))⟩ (by
  cases hv : v.ownBlock with
  | none => exact .inl rfl
  | some j =>
   right
   intro he
   cases he
   have h1 := (h.1.2.2.lt k hv).1
   have h2 := h.2 k hv
   omega)⟩, h.2⟩
theorem SlT.setOther {w : World} {base top : Nat} {e : TypeId} {size : Nat} {v x : Value} {cs : List (List Value)} (h : SlT w base top e size v cs) {a : Addr} (ha : a.block < base ∨ top ≤ a.block) : SlT (w.setCell a x) base top e size v cs :=
 ⟨⟨by simpa using h.1.1, h.1.2.1, h.1.2.2.kept (row := some a.block) ⟨((Below.refl 0 w).setCell (Nat.zero_le _) x).os, ((Below.refl 0 w).setCell (Nat.zero_le _) x).tape, ((Below.refl 0 w).setCell (Nat.zero_le _) x).output, by simp, fun j _ hj => Below.heap_setCell _ _ _ _ (fun e => hj (by rw [e]))⟩ (by
  cases hv : v.ownBlock with
  | none => exact .inl rfl
  | some j =>
   right
   intro he
   have he2 : j = a.block := by injection he
   subst he2
   have h1 := (h.1.2.2.lt a.block hv).1
   have h2 := h.2 a.block hv
   omega)⟩, h.2⟩
theorem Blk.grownT {w w' : World} {b n : Nat} {t : TypeId} {f : Nat → Nat} {row : Option Nat} (h : Blk w b n t f) (hg : w.grownBy w' row) {top : Nat} (hr : ∀ r, row = some r → r < top) (e : top ≤ b) : Blk w' b n t f := by
 have hl := h.lt
 unfold Blk at *; rw [hg.block b hl (fun x => by have := hr b x.symm; omega)]; exact h
theorem One.grownT {w w' : World} {b : Nat} {t : TypeId} {v : Value} {row : Option Nat} (h : One w b t v) (hg : w.grownBy w' row) {top : Nat} (hr : ∀ r, row = some r → r < top) (e : top ≤ b) : One w' b t v :=
 h.of (hg.block b h.lt (fun x => by have := hr b x.symm; omega))
/-- a list grows: another one, of other elements, stays -/
theorem SlL.grownE {w w' : World} {base base' : Nat} {e e' : TypeId} {size size' : Nat} {v v' : Value} {cs cs' : List (List Value)} (h : SlL w base' e' size' v' cs') (ho : SlL w base e size v cs) (hg : w.grownBy w' v.ownBlock) (hne : e ≠ e') : SlL w' base' e' size' v' cs' :=
 ⟨Nat.le_trans h.1 hg.size, h.2.1, h.2.2.kept hg (by
  cases hv : v'.ownBlock with
  | none => exact .inl rfl
  | some k =>
   right
   intro he
   obtain ⟨c1, h1⟩ := h.ownCells k hv
   obtain ⟨c2, h2⟩ := ho.ownCells k he.symm
   rw [h1] at h2
   injection h2 with h2
   injection h2 with _ h2
   exact hne h2.symm)⟩
theorem SlL.form {w : World} {base : Nat} {e : TypeId} {size : Nat} {v : Value} {cs : List (List Value)} (h : SlL w base e size v cs) : ∃ ad cap, v = .slice ad cs.length cap := by
 rcases h.shape with ⟨h1, h2⟩ | ⟨g, cap, h1⟩
 · exact ⟨none, 0, by rw [h1, h2]; rfl⟩
 · exact ⟨_, cap, h1⟩
theorem SlL.some {w : World} {base : Nat} {e : TypeId} {size n cap : Nat} {ad : Option Addr} {cs : List (List Value)} (h : SlL w base e size (.slice ad n cap) cs) (hn : 0 < cs.length) : ∃ g, ad = some ⟨g, 0, none⟩ := by
 rcases h.shape with ⟨_, h2⟩ | ⟨g, cap', h1⟩
 · rw [h2] at hn; simp at hn
 · injection h1 with h1; exact ⟨g, h1⟩
/-- block b is the row cs -/
def Row (w : World) (b : Nat) (t : TypeId) (cs : Array Value) : Prop := w.heap[b]? = some (.cells cs t (0, 0))
theorem Row.new (w : World) (t : TypeId) (cs : Array Value) : Row (w.alloc (.cells cs t)) w.heap.size t cs := heap_alloc_last w _
theorem Row.lt {w : World} {b : Nat} {t : TypeId} {cs : Array Value} (h : Row w b t cs) : b < w.heap.size := by
 unfold Row at h
 exact (Array.getElem?_eq_some_iff.1 h).1
theorem Row.of {w w' : World} {b : Nat} {t : TypeId} {cs : Array Value} (h : Row w b t cs) (e : w'.heap[b]? = w.heap[b]?) : Row w' b t cs := by unfold Row at *; rw [e]; exact h
theorem Row.alloc {w : World} {b : Nat} {t : TypeId} {cs : Array Value} (h : Row w b t cs) (o : Obj) : Row (w.alloc o) b t cs := h.of (Below.heap_alloc _ _ _ h.lt)
theorem Row.drew {w : World} {b : Nat} {t : TypeId} {cs : Array Value} (h : Row w b t cs) : Row w.drew b t cs := h
theorem Row.below {w w' : World} {B b : Nat} {t : TypeId} {cs : Array Value} (h : Row w b t cs) (hb : Below B w w') (e : b < B) : Row w' b t cs := h.of (hb.block b e)
theorem Row.zw {w w' : World} {b : Nat} {t : TypeId} {cs : Array Value} (h : Row w b t cs) (hb : Below w.heap.size w w') : Row w' b t cs := Row.below h hb (Row.lt h)
theorem Row.rowOther {w : World} {b : Nat} {t : TypeId} {cs : Array Value} (h : Row w b t cs) {j : Nat} {xs : Array Value} (e : b ≠ j) : Row (w.setRow j xs) b t cs := h.of (setRow_other _ _ _ _ e)
theorem Row.setOther {w : World} {b : Nat} {t : TypeId} {cs : Array Value} {x : Value} (h : Row w b t cs) {a : Addr} (e : b ≠ a.block) : Row (w.setCell a x) b t cs := h.of (heap_setCell_other _ _ _ _ e)
theorem Row.row {w : World} {b : Nat} {t : TypeId} {cs : Array Value} (h : Row w b t cs) (xs : Array Value) : Row (w.setRow b xs) b t xs := by
 unfold Row at *
 exact setRow_heap _ _ _ _ _ _ h
theorem Row.cell {w : World} {b : Nat} {t : TypeId} {cs : Array Value} (h : Row w b t cs) {i : Nat} {v : Value} (hi : cs[i]? = some v) : w.cell? ⟨b, i, none⟩ = some v := by
 rw [cell_of_row _ _ _ _ _ _ h]; exact hi
theorem Row.frozen {w : World} {b : Nat} {t : TypeId} {cs : Array Value} (h : Row w b t cs) (i : Nat) : w.frozen? ⟨b, i, none⟩ = false := frozen_of_row _ _ _ _ _ h
theorem Row.set {w : World} {b i : Nat} {t : TypeId} {cs : Array Value} {x : Value} (h : Row w b t cs) : Row (w.setCell ⟨b, i, none⟩ x) b t (cs.setIfInBounds i x) := by
 unfold Row at *
 rw [heap_setCell_same _ _ _ _ _ _ h]
theorem zlr {P : Program} {ops : Array Oper} {rest : List Oper} {o : Oper} {a : Act} {w : World} {Q : Exit → Act → World → Prop} (hgd : o.guard = none) (ty : TypeId) (x : Operand) (ho : o.op = .load ty x)
 (b : Nat) (hx : a.eval x = .pointer (some ⟨b, 0, none⟩)) (t : TypeId) (cs : Array Value) (hb : Row w b t cs) (d : TypeDesc)
 (hu : P.underlying ty = some d) (hd : (match d with | .struct _ | .array _ _ => true | _ => false) = true) (n : Nat) (hi : (P.info? ty).map (·.size) = some n) (hn : cs.size = n)
 (h : wpList P ops Q rest (a.put o.dst (.agg cs)) w) : wpList P ops Q (o :: rest) a w := by
 unfold Row at hb
 exact wpList_load_row hgd ty x ho b hx t _ (0, 0) d hb hu hd (by rw [hi, hn]) h
theorem wpList_store_rowv {P : Program} {ops : Array Oper} {rest : List Oper} {o : Oper} {a : Act} {w : World} {Q : Exit → Act → World → Prop} (hgd : o.guard = none) (ty : TypeId) (x y : Operand) (ho : o.op = .store ty x y)
 (b : Nat) (hx : a.eval x = .pointer (some ⟨b, 0, none⟩)) (xs : Array Value) (hy : a.eval y = .agg xs) (t : TypeId) (cs : Array Value) (hb : Row w b t cs) (n : Nat) (hi : (P.info? ty).map (·.size) = some n) (hn : cs.size = n) (hm : xs.size = n) (h1 : xs.all (·.oneCell') = true)
 (h : wpList P ops Q rest (a.put o.dst undef) (w.setRow b xs)) : wpList P ops Q (o :: rest) a w := by
 unfold Row at hb
 exact wpList_store_row hgd ty x y ho b _ hx hy t _ hb (by rw [hi, hm]) (by rw [hn, hm]) h1 h
/-- a literal of one element -/
theorem wpList_build1 {P : Program} {ops : Array Oper} {rest : List Oper} {o : Oper} {a : Act} {w : World} {Q : Exit → Act → World → Prop} (hg : o.guard = none) (t : TypeId) (parts : Array (Nat × Operand)) (c : List Value) (size : Nat)
 (ho : o.op = .buildSlice t 1 parts) (e : TypeId) (hu : P.underlying t = some (.slice e)) (hie : (P.info? e).map (fun i => (i.size, i.zero.isSome)) = some (size, true)) (hpos : 0 < size) (hsm : size ≤ 65536) (hc : c.length = size)
 (hp : (parts.toList.map fun x => (x.1, a.eval x.2)) = [(0, Value.agg c.toArray)])
 (h : ∀ w', Row w' w.heap.size e c.toArray → Below w.heap.size w w' → wpList P ops Q rest (a.put o.dst (.slice (some ⟨w.heap.size, 0, none⟩) 1 1)) w') : wpList P ops Q (o :: rest) a w := by
 cases hi : P.info? e with
 | none => simp [hi] at hie
 | some ie =>
  simp only [hi, Option.map_some, Option.some.injEq, Prod.mk.injEq] at hie
  obtain ⟨hs, hz⟩ := hie
  obtain ⟨z, hzz⟩ := Option.isSome_iff_exists.1 hz
  refine wpList_buildSlice hg t e 1 parts ho _ ie z hu hi hzz (by rw [hs]; omega) (by rw [hs]; omega) ?_ (h _ (Row.new w e c.toArray) (zal _ _))
  rw [Array.toList_map, hp, hs]
  have := fill_cat size [c] 0 [] ((Array.range (1 * size)).map (z.cells[· % z.cells.size]!)).toList (by simpa using hc) (by simp) (by simp)
  rw [List.nil_append, List.nil_append, Array.toArray_toList] at this
  simpa using this
theorem Row.range {w : World} {b : Nat} {t : TypeId} {c : List Value} (h : Row w b t c.toArray) : w.rangeAt b 0 c := by
 intro j v hv
 rw [Nat.zero_add, cell_of_row _ _ _ _ _ _ h]
 simpa using hv
attribute [irreducible] Row
attribute [irreducible] SlL
end Go.Proofs.Ytelgefgphhebnaa
namespace Go.Proofs.Ytelgefgphhebnaa
open Go Go.RowKit
set_option linter.unusedVariables false
/-- the fence of a round of loop l -/
abbrev WR (l : Nat) : Fence := Fence.wide.inRound l
theorem rowsW {n : Nat} {P : Program} {row : String} {args : Array Value} {w : World} {R : Value → World → Prop} {l : Nat} (h : Rows P row args w R) : RowsIn (WR l) n P row args w R := fun c cs _ =>
 let ⟨v, w', r, s⟩ := h c cs
 ⟨v, w', r, stepsIn_wide.2 s⟩
theorem operIn_of {l n : Nat} {P : Program} {o : Oper} {a : Act} {w : World} {K : Act → World → Prop} {Q : Exit → Act → World → Prop} (hnd : ∀ c, o.op ≠ .defer c) (h : o.wp P a w K Q) : o.wpIn (WR l) n P a w K Q := by
 unfold Oper.wp at h
 unfold Oper.wpIn
 refine ⟨fun f _ => trivial, ?_⟩
 rw [show (WR l).round = some l from rfl, Oper.semAt_some l _ _ hnd]
 generalize (execOp a.eval o).run P w = r at *
 cases r with
 | ok x w' =>
  cases x with
  | value v => exact h
  | skip => exact h
  | defer d => exact h
  | enter f args => exact ⟨(fun hd => by cases hd), ((callsIn_wide (n := n - 1)).2 h).inRound l⟩
  | row row args => exact ⟨(fun hd => by cases hd), rowsW h⟩
  | _ => exact h.elim
 | halt x w' =>
  cases x with
  | panic v => exact h
  | _ => exact h.elim
def ndOp (o : Oper) : Bool := match o.op with | .defer _ => false | _ => true
theorem nd_of {os : List Oper} (h : os.all ndOp = true) : ∀ o ∈ os, ∀ c, o.op ≠ .defer c := by
 intro o ho c e
 have := List.all_eq_true.1 h o ho
 unfold ndOp at this
 rw [e] at this
 cases this
/-- what is no cells from B on lies as it lay -/
def KF (B : Nat) (W W' : World) : Prop := KeepsFrom B W W'
theorem KF.refl (B : Nat) (W : World) : KF B W W := KeepsFrom.refl B W
theorem KF.lt {B : Nat} {W W' : World} (h : KF B W W') : W.heap.size ≤ W'.heap.size := h.size
theorem KF.below {B : Nat} {W W1 W2 : World} (h : KF B W W1) (hb : Below W1.heap.size W1 W2) (_ : W.heap.size ≤ W1.heap.size) : KF B W W2 :=
 KeepsFrom.trans h ⟨hb.size, fun k _ _ hk _ => (hb.block k (Array.getElem?_eq_some_iff.1 hk).1).trans hk⟩
theorem KF.zw {B : Nat} {W W1 W2 : World} (h : KF B W W1) (hb : Below W1.heap.size W1 W2) : KF B W W2 := KF.below h hb (KF.lt h)
theorem KF.alloc {B : Nat} {W W1 : World} (h : KF B W W1) (o : Obj) : KF B W (W1.alloc o) := h.below (zal _ _) h.size
theorem KF.drew {B : Nat} {W W1 : World} (h : KF B W W1) : KF B W W1.drew := ⟨h.size, h.same⟩
theorem KF.rowOther {B : Nat} {W W1 : World} (h : KF B W W1) {k : Nat} {cs : Array Value} (e : k < B ∨ W.heap.size ≤ k) : KF B W (W1.setRow k cs) :=
 ⟨by simpa [World.setRow] using h.size, fun j o hB hj ho => by
  have hlt := (Array.getElem?_eq_some_iff.1 hj).1
  rw [setRow_other _ _ _ _ (by omega)]
  exact h.same j o hB hj ho⟩
theorem KF.grown {B : Nat} {W W1 W2 : World} {row : Option Nat} (h : KF B W W1) (hg : W1.grownBy W2 row) (hr : ∀ r, row = some r → ∃ cur t f, W1.heap[r]? = some (.cells cur t f)) : KF B W W2 :=
 KeepsFrom.trans h ⟨hg.size, fun k o _ hk ho => (hg.block k (Array.getElem?_eq_some_iff.1 hk).1 (fun e => by
  obtain ⟨cur, t, f, hc⟩ := hr k e.symm
  rw [hk] at hc; cases hc; cases ho)).trans hk⟩
/-- the block for deferred calls -/
def DF (W : World) (D : Nat) : Prop := W.heap[D]? = some (.deferred (some []))
theorem DF.lt {W : World} {D : Nat} (h : DF W D) : D < W.heap.size := (Array.getElem?_eq_some_iff.1 h).1
theorem DF.of {W W' : World} {D : Nat} (h : DF W D) (e : W'.heap[D]? = W.heap[D]?) : DF W' D := by unfold DF at *; rw [e]; exact h
theorem DF.below {W W' : World} {B D : Nat} (h : DF W D) (hb : Below B W W') (e : D < B) : DF W' D := h.of (hb.block D e)
theorem DF.zw {W W' : World} {D : Nat} (h : DF W D) (hb : Below W.heap.size W W') : DF W' D := DF.below h hb (DF.lt h)
theorem DF.alloc {W : World} {D : Nat} (h : DF W D) (o : Obj) : DF (W.alloc o) D := h.below (zal _ _) h.lt
theorem DF.drew {W : World} {D : Nat} (h : DF W D) : DF W.drew D := h
theorem DF.rowOther {W : World} {D k : Nat} {cs : Array Value} (h : DF W D) (e : D ≠ k) : DF (W.setRow k cs) D := h.of (setRow_other _ _ _ _ e)
theorem DF.grown {W W1 : World} {D : Nat} {row : Option Nat} (h : DF W D) (hg : W.grownBy W1 row) (hr : ∀ r, row = some r → ∃ cur t f, W.heap[r]? = some (.cells cur t f)) : DF W1 D :=
 h.of (hg.block D h.lt (fun e => by
  obtain ⟨cur, t, f, hc⟩ := hr D e.symm
  unfold DF at h
  rw [h] at hc; cases hc))
theorem listIn_of {l n : Nat} {P : Program} {ops : Array Oper} {Q : Exit → Act → World → Prop} (hQ : ∀ a w, ¬ Q .outgrown a w) : ∀ (rest : List Oper) (a : Act) (w : World), (∀ o ∈ rest, ∀ c, o.op ≠ .defer c) → wpList P ops Q rest a w → wpListIn (WR l) n P ops Q rest a w
 | [], _, _, _, h => h
 | o :: rest, a, w, hnd, h => by
  unfold wpList at h
  unfold wpListIn
  by_cases hw : Region.wanted o (yielded ops a.tmps) = true
  · rw [if_pos hw] at h ⊢
    rcases h with h | ⟨_, a', w', h⟩
    · exact Oper.wpIn_mono (fun a w hr => listIn_of hQ rest a w (fun o ho => hnd o (by simp [ho])) hr) (operIn_of (hnd o (by simp)) h)
    · exact absurd h (hQ a' w')
  · rw [if_neg hw] at h ⊢
    exact ⟨fun f _ => trivial, listIn_of hQ rest _ w (fun o ho => hnd o (by simp [ho])) h⟩
theorem regionIn_of {l n : Nat} {P : Program} {id : Nat} {os : List Oper} {Q : Exit → Act → World → Prop} {a : Act} {w : World} (hnd : ∀ o ∈ os, ∀ c, o.op ≠ .defer c) (hQ : ∀ a w, ¬ Q .outgrown a w) (h : wpList P os.toArray Q os a w) :
 (Code.region id os.toArray false).wpIn (WR l) n P Q a w := wpIn_region_list (by simpa using listIn_of hQ os a w hnd h)
theorem anyIn_of {l n : Nat} {P : Program} {md : Region.Mode} {ops : Array Oper} {Q : Exit → Act → World → Prop} (hQ : ∀ a w, ¬ Q .outgrown a w) (hnd : ∀ (i : Nat) (o : Oper), ops[i]? = some o → ∀ c, o.op ≠ .defer c) : ∀ (fuel : Nat) (listed : Array Bool) (a : Act) (w : World), wpAny P md ops Q fuel listed a w → wpAnyIn (WR l) n P md ops Q fuel listed a w
 | 0, _, _, _, h => h
 | fuel + 1, listed, a, w, h => ⟨h.1, fun i hi => by
  have h2 := h.2 i hi
  unfold wpOp at h2
  unfold wpOpIn
  cases ho : ops[i]? with
  | none => rw [ho] at h2; exact anyIn_of hQ hnd fuel _ a w h2
  | some o =>
   rw [ho] at h2
   simp only at h2 ⊢
   by_cases hw : Region.wanted o (yielded ops a.tmps) = true
   · rw [if_pos hw] at h2 ⊢
     rcases h2 with h2 | ⟨_, a', w', h2⟩
     · exact Oper.wpIn_mono (fun a w hr => anyIn_of hQ hnd fuel _ a w hr) (operIn_of (hnd i o ho) h2)
     · exact absurd h2 (hQ a' w')
   · rw [if_neg hw] at h2 ⊢
     exact ⟨fun f _ => trivial, anyIn_of hQ hnd fuel _ _ w h2⟩⟩
/-- a region that draws its order, in a round -/
theorem wpIn_region_steps0 {l n : Nat} {P : Program} {Q : Exit → Act → World → Prop} {os : List Oper} {id : Nat} {a0 : Act} {w : World} (hQ : ∀ a w, ¬ Q .outgrown a w) (hnd : ∀ o ∈ os, ∀ c, o.op ≠ .defer c) (hm : P.follows .mixedOrders = true) (hd : dstsOkL os = true) (he : edgesOk os.toArray = true)
 {F : (Nat → Value) → Act} (hF : ∀ v, frL a0 os 0 v = F v)
 (Ψ : (Nat → Bool) → (Nat → Value) → World → Prop) (h0 : ∀ v, (∀ i, v i = ((os[i]?.bind (·.dst)).map fun t => a0.tmps.getD t undef).getD undef) → Ψ (fun _ => false) v w.drew)
 (hstep : Steps P os.toArray Q F Ψ os 0)
 (hend : ∀ L v w, (∀ i, i < os.length → L i = true) → Ψ L v w → Q .normal (F v) w) : (Code.region id os.toArray true).wpIn (WR l) n P Q a0 w := by
 refine wpIn_region_any hm (anyIn_of hQ (fun i o ho => hnd o (by
  have : os[i]? = some o := by simpa using ho
  exact List.mem_of_getElem? this)) _ _ _ _ ?_)
 have hstep' : ∀ i o, os.toArray[i]? = some o → StepOk P os.toArray Q a0 Ψ i o := by
  intro i o ho
  obtain ⟨hg, hs⟩ := steps_of _ _ hstep i o (by simpa using ho)
  rw [Nat.zero_add] at hs
  intro L v w h1 h2 h3 K hK
  have hw : Region.wanted o (yielded os.toArray (fr a0 os.toArray v).tmps) = true := by simp [Region.wanted, hg]
  rw [if_pos hw]
  have hf : fr a0 os.toArray v = F v := hF v
  rw [hf] at hK ⊢
  exact hs L v w h1 h2 h3 K hK
 have hfr : fr a0 os.toArray (fun i => ((os[i]?.bind (·.dst)).map fun t => a0.tmps.getD t undef).getD undef) = a0 := by
  refine frL_start _ _ _ _ fun i o ho => ?_
  have ho' : os[i]? = some o := by simpa using ho
  simp [ho']
 have key := wpAny_inv (P := P) (Q := Q) (by simpa using hd) he hstep' (fun L v w hL hΨ => by
  have hf : fr a0 os.toArray v = F v := hF v
  rw [hf]
  exact hend L v w (by simpa using hL) hΨ) os.toArray.size (Array.replicate os.toArray.size false) (fun i => ((os[i]?.bind (·.dst)).map fun t => a0.tmps.getD t undef).getD undef) w.drew (by simp) (by simp) (by
  have e : (fun j => (Array.replicate os.toArray.size false).getD j false) = fun _ => false := by
   funext j; simp [Array.getD]
  rw [e]; exact h0 _ (fun _ => rfl)) (by
  intro j p _ hj
  simp [Array.getD] at hj)
 rw [hfr] at key
 exact key
end Go.Proofs.Ytelgefgphhebnaa
end
section
namespace Go.Proofs.Ytelgefgphhebnaa
open Go Go.RowKit Go.Shelf
set_option linter.unusedVariables false
set_option linter.unusedSimpArgs false
attribute [local go_sem] Oper.semAt_some
/-- what numbered hands back -/
def NumF (p a b : Nat) (w : World) (e : Ending) (w' : World) : Prop := ∃ ba bb bp, e = .returned (.func (.func 180) #[] #[.pointer (some ⟨ba, 0, none⟩), .pointer (some ⟨bb, 0, none⟩), .pointer (some ⟨bp, 0, none⟩)]) ∧ w.heap.size ≤ ba ∧ w.heap.size ≤ bb ∧ w.heap.size ≤ bp ∧ One w' ba 2 (.int .i64 (a : Int)) ∧ One w' bb 2 (.int .i64 (b : Int)) ∧ One w' bp 2 (.int .i64 (p : Int)) ∧ Below w.heap.size w w'
set_option maxRecDepth 100000 in
theorem numbered_any (p a b : Nat) (w : World) : Calls Try.prog 165 #[.int .i64 (p : Int), .int .i64 (a : Int), .int .i64 (b : Int)] w (NumF p a b w) := by
 have hmf : ∀ (fn : Fn) (first cap : Array Value) (w : World), (Instr.makeFunc fn first cap).run Try.prog w = .ok (.func fn first cap) w := fun _ _ _ _ => rfl
 go_enter Try.func165, Try.ntmps165
 go_wp2_with fail
 go_ret
 refine ⟨_, _, _, rfl, by first | omega | simp, by first | omega | (simp; done) | (simp; omega), Nat.le_refl _, ?_, ?_, ?_, (((Below.refl _ _).alloc (Nat.le_refl _) _).alloc (by simp) _).alloc (by simp; omega) _⟩
 · have := (One.new (w.alloc (.cells #[.int .i64 (p : Int)] 2)) 2 (.int .i64 (a : Int))).alloc (.cells #[.int .i64 (b : Int)] 2)
   simpa using this
 · have := One.new ((w.alloc (.cells #[.int .i64 (p : Int)] 2)).alloc (.cells #[.int .i64 (a : Int)] 2)) 2 (.int .i64 (b : Int))
   simpa using this
 · exact ((One.new w 2 _).alloc _).alloc _
set_option maxRecDepth 100000 in
theorem monics_any (p n : Nat) (w : World) (hp1 : 2 ≤ p) (hp2 : p ≤ 7) (hn : n ≤ 12) : Calls Try.prog 153 #[.int .i64 (p : Int), .int .i64 (n : Int)] w (NumF p (p ^ n) (p ^ n + p ^ n) w) := by
 obtain ⟨q, hq⟩ : ∃ q, q = p ^ n := ⟨_, rfl⟩
 have hq1 : q ≤ 13841287201 := by
  rw [hq]
  have h1 : p ^ n ≤ 7 ^ n := Nat.pow_le_pow_left hp2 n
  have h2 : 7 ^ n ≤ 7 ^ 12 := Nat.pow_le_pow_right (by decide) hn
  have h3 : (7 : Nat) ^ 12 = 13841287201 := by decide
  omega
 have HNM := Lib.hid (fun W => norm_any p n W hp1 hp2 (by omega))
 rw [← hq] at HNM ⊢
 have HNB := Lib.hid (fun W => numbered_any p q (q + q) W)
 have H2 := Lib.hid (show (2 : Int) * (q : Int) = ((q + q : Nat) : Int) by omega)
 clear hq
 go_enter Try.func153, Try.ntmps153
 go_wp2_with (first | (go_at_call 164; refine (HNM.out _).mono ?_; rintro e w2 ⟨rfl, rfl⟩) | (go_at_call 165; rw [H2.out]; refine (HNB.out _).mono ?_; rintro e w2 ⟨ba, bb, bp, rfl, r1, r2, r3, C0, C1, C2, hB⟩))
 go_ret
 exact ⟨ba, bb, bp, rfl, r1, r2, r3, C0, C1, C2, hB⟩
/-- the numbers from a on, k of them -/
abbrev NumN (a k : Nat) := { N : Nat // N ∈ List.range' a k }
/-- a monic polynomial's number -/
abbrev MonN (p n : Nat) := NumN (p ^ n) (p ^ n)
def vals {a k : Nat} (l : List (NumN a k)) : List Nat := l.map (·.1)
theorem vals_nil {a k : Nat} : vals ([] : List (NumN a k)) = [] := rfl
theorem vals_snoc {a k : Nat} (l : List (NumN a k)) (x : NumN a k) : vals (l ++ [x]) = vals l ++ [x.1] := by simp [vals]
theorem vals_len {a k : Nat} (l : List (NumN a k)) : (vals l).length = l.length := by simp [vals]
def numEnc (p a k : Nat) (x : NumN a k) : Array Value := #[.agg (zb 64 (ofN p x.1))]
/-- the captured cells stay -/
def KpN (ba bb bp : Nat) (W W' : World) : Prop := W'.heap[ba]? = W.heap[ba]? ∧ W'.heap[bb]? = W.heap[bb]? ∧ W'.heap[bp]? = W.heap[bp]?
theorem KpN.refl (ba bb bp : Nat) (W : World) : KpN ba bb bp W W := ⟨rfl, rfl, rfl⟩
theorem KpN.trans {ba bb bp : Nat} {A B C : World} (h : KpN ba bb bp A B) (k : KpN ba bb bp B C) : KpN ba bb bp A C := ⟨k.1.trans h.1, k.2.1.trans h.2.1, k.2.2.trans h.2.2⟩
theorem KpN.put {ba bb bp : Nat} {w : World} (h0 : ba < w.heap.size) (h1 : bb < w.heap.size) (h2 : bp < w.heap.size) (W : World) (l : Nat) (o o' : Obj) (hl : w.heap.size ≤ l) (_ : W.heap[l]? = some o) (_ : o.isCells = false) (_ : o.isWalk = false) : KpN ba bb bp W (W.putObj l o') :=
 ⟨World.putObj_heap_other (by omega), World.putObj_heap_other (by omega), World.putObj_heap_other (by omega)⟩
theorem One.same {w w' : World} {b : Nat} {t : TypeId} {v : Value} (h : One w b t v) (h' : One w' b t v) : w'.heap[b]? = w.heap[b]? := by unfold One at *; rw [h, h']
theorem range_snoc (a k : Nat) : List.range' a (k + 1) = List.range' a k ++ [a + k] := by
 rw [List.range'_concat]; simp
theorem mon_bound {p n : Nat} (hp2 : p ≤ 7) (hn : n ≤ 12) : p ^ n ≤ 13841287201 := by
 have h1 : p ^ n ≤ 7 ^ n := Nat.pow_le_pow_left hp2 n
 have h2 : 7 ^ n ≤ 7 ^ 12 := Nat.pow_le_pow_right (by decide) hn
 have h3 : (7 : Nat) ^ 12 = 13841287201 := by decide
 omega
theorem below_grown {w w' : World} (h : Below w.heap.size w w') : w.grownBy w' none := ⟨h.os, h.tape, h.output, h.size, fun k hk _ => h.block k hk⟩
set_option maxRecDepth 100000 in
set_option maxHeartbeats 1600000 in
theorem numbered1_stops (m p a q : Nat) (hp1 : 2 ≤ p) (hp2 : p ≤ 7) (ha : a ≤ 13841287201) (hq : q ≤ 13841287201) (ba bb bp : Nat) (w : World) (B0 : One w ba 2 (.int .i64 (a : Int))) (B1 : One w bb 2 (.int .i64 ((a + q : Nat) : Int))) (B2 : One w bp 2 (.int .i64 (p : Int))) :
 SeqStopsK Fence.wide m Try.prog 180 #[.pointer (some ⟨ba, 0, none⟩), .pointer (some ⟨bb, 0, none⟩), .pointer (some ⟨bp, 0, none⟩)] (numEnc p a q) (KpN ba bb bp) (fun ys => vals ys = List.range' a q) (fun pre => vals pre <+: List.range' a q) q w := by
 intro l J Jx W hW hJ hJx hY h0
 have C0 := (B0.zw hW)
 have C1 := (B1.zw hW)
 have C2 := (B2.zw hW)
 have c0 := C0.cell
 have c1 := C1.cell
 have c2 := C2.cell
 have HY := Lib.hid hY
 clear hY
 refine callsIn_of_wp Try.func180 rfl trivial ?_ rfl
 simp only [Try.ntmps180, List.size_toArray, List.length_cons, List.length_nil, Nat.reduceAdd, Nat.reduceSub, Array.replicate_succ, Array.replicate_zero, List.push_toArray, List.append_toArray, List.nil_append, List.cons_append]
 gi_wp2
 gi_loopw [5] (fun i wr => ∃ (k : Nat) (pre : List (NumN a q)), k ≤ q ∧ i = .int .i64 ((a : Int) + (k : Int)) ∧ Hid (vals pre = List.range' a k) ∧ J pre wr ∧ KpN ba bb bp W wr) (fun i _ => a + q - (intOf i).toNat)
 case atStart => exact ⟨0, [], Nat.zero_le _, by simp, Lib.hid vals_nil, h0, KpN.refl _ _ _ _⟩
 case round =>
  obtain ⟨k, pre, hk, rfl, hpre, hJs, hnx⟩ := hrel
  have C0' := C0.of hnx.1
  have C1' := C1.of hnx.2.1
  have C2' := C2.of hnx.2.2
  have c1' := C1'.cell
  have c2' := C2'.cell
  by_cases hlt : k < q
  · have hlt2 : (a : Int) + (k : Int) < ((a + q : Nat) : Int) := by omega
    have hnum : ((a + k : Nat) : Int) ≤ 1000000000000 := by omega
    have HM := Lib.hid (show a + k ∈ List.range' a q by rw [List.mem_range'_1]; omega)
    gi_wp2_with (first | (refine ⟨trivial, (fun h => by cases h), ?_⟩; gi_at_call 181; refine (callsIn_wide.2 (polyOfNumber_any p (a + k) _ hp1 hp2 hnum)).mono ?_; rintro e w2 ⟨rfl, hb2⟩; have hJ2 := hJ _ _ _ none hJs (below_grown hb2) (fun r e => by cases e); obtain ⟨fn, tmps, assign, body, hy, hR⟩ := HY.out pre ⟨a + k, HM.out⟩ w2 hJ2 (by have := congrArg List.length hpre.out; rw [vals_len, List.length_range'] at this; omega); unfold numEnc at hy; dsimp only at hy))
    refine ⟨(fun h => by cases h), hR.mono ?_⟩
    rintro e W3 (⟨rfl, hJ3, hk3⟩ | ⟨rfl, hJx3⟩)
    · gi_wp2
      go_roundw
      case rel => exact ⟨k + 1, pre ++ [⟨a + k, HM.out⟩], by omega, by go_num, Lib.hid (by rw [vals_snoc, hpre.out, range_snoc]), hJ3, (hnx.trans ⟨hb2.block _ C0'.lt, hb2.block _ C1'.lt, hb2.block _ C2'.lt⟩).trans hk3⟩
      case measure => simp [intOf]; omega
    · gi_wp2
      refine bodyPost_ret (results_none rfl _ _ _) rfl ?_
      refine ⟨⟨_, rfl⟩, .inr ⟨_, ?_, hJx3⟩⟩
      rw [vals_snoc, hpre.out]
      show List.range' a k ++ [a + k] <+: List.range' a q
      rw [← range_snoc]
      exact ⟨List.range' (a + (k + 1)) (q - (k + 1)), by rw [List.range'_append_1]; congr 1; omega⟩
  · have hlt2 : ¬ (a : Int) + (k : Int) < ((a + q : Nat) : Int) := by omega
    gi_wp2
    go_end0
    exact ⟨⟨_, rfl⟩, .inl ⟨pre, by rw [hpre.out, show k = q by omega], hJs⟩⟩
end Go.Proofs.Ytelgefgphhebnaa
end
section
namespace Go.Proofs.Ytelgefgphhebnaa
open Go.RowKit
/-- what is found, and what is left, behind a list -/
def eqS (p n : Nat) : List Nat → (Nat → Nat) → List Nat × (Nat → Nat)
 | [], a => ([], a)
 | N :: ms, a => if deg a ≤ (n : Int) then ([], a) else if deg (resP p a (ofN p N)) < 0 then (N :: (eqS p n ms (quoP p a (ofN p N))).1, (eqS p n ms (quoP p a (ofN p N))).2) else eqS p n ms a
theorem eqS_nil {p n : Nat} {a : Nat → Nat} : eqS p n [] a = ([], a) := rfl
theorem eqS_stay {p n : Nat} {a : Nat → Nat} (h : deg a ≤ (n : Int)) : ∀ ms, eqS p n ms a = ([], a)
 | [] => rfl
 | N :: ms => by rw [eqS, if_pos h]
theorem eqS_snoc {p n x : Nat} : ∀ (pre : List Nat) (a : Nat → Nat), eqS p n (pre ++ [x]) a =
 if deg (eqS p n pre a).2 ≤ (n : Int) then eqS p n pre a else if deg (resP p (eqS p n pre a).2 (ofN p x)) < 0 then ((eqS p n pre a).1 ++ [x], quoP p (eqS p n pre a).2 (ofN p x)) else eqS p n pre a
 | [], a => by
  rw [List.nil_append, eqS_nil]
  by_cases h : deg a ≤ (n : Int)
  · rw [eqS_stay h, if_pos h]
  · rw [eqS, if_neg h, if_neg h]
    by_cases h2 : deg (resP p a (ofN p x)) < 0
    · rw [if_pos h2, if_pos h2]; rfl
    · rw [if_neg h2, if_neg h2]; rfl
 | N :: pre, a => by
  rw [List.cons_append]
  by_cases h : deg a ≤ (n : Int)
  · rw [eqS_stay h, eqS_stay h, if_pos h]
  · by_cases h2 : deg (resP p a (ofN p N)) < 0
    · rw [eqS, if_neg h, if_pos h2, eqS_snoc pre, eqS, if_neg h, if_pos h2]
      by_cases h3 : deg (eqS p n pre (quoP p a (ofN p N))).2 ≤ (n : Int)
      · rw [if_pos h3, if_pos h3]
      · rw [if_neg h3, if_neg h3]
        by_cases h4 : deg (resP p (eqS p n pre (quoP p a (ofN p N))).2 (ofN p x)) < 0
        · rw [if_pos h4, if_pos h4]; rfl
        · rw [if_neg h4, if_neg h4]
    · rw [eqS, if_neg h, if_neg h2, eqS_snoc pre, eqS, if_neg h, if_neg h2]
theorem eqS_more {p n : Nat} {a : Nat → Nat} : ∀ (pre ms : List Nat), deg (eqS p n pre a).2 ≤ (n : Int) → eqS p n (pre ++ ms) a = eqS p n pre a
 | pre, [], _ => by rw [List.append_nil]
 | pre, x :: ms, h => by
  have e : eqS p n (pre ++ [x]) a = eqS p n pre a := by rw [eqS_snoc, if_pos h]
  rw [show pre ++ x :: ms = (pre ++ [x]) ++ ms by simp, eqS_more (pre ++ [x]) ms (by rw [e]; exact h), e]
theorem eqf_eqS {p n : Nat} : ∀ (ms : List Nat) (a : Nat → Nat), eqf p n ms a = (eqS p n ms a).1 ++ (if deg (eqS p n ms a).2 = (n : Int) then [vl p (eqS p n ms a).2 (n + 1)] else [])
 | [], a => by rw [eqS_nil, eqf]; simp
 | N :: ms, a => by
  by_cases h : deg a ≤ (n : Int)
  · rw [eqf, if_pos h, eqS_stay h]; simp
  · by_cases h2 : deg (resP p a (ofN p N)) < 0
    · rw [eqf, if_neg h, if_pos h2, eqS, if_neg h, if_pos h2, eqf_eqS ms]; rfl
    · rw [eqf, if_neg h, if_neg h2, eqS, if_neg h, if_neg h2, eqf_eqS ms]
theorem eqS_lt {p n : Nat} (hp : 0 < p) : ∀ (ms : List Nat) (a : Nat → Nat), (∀ k, k < 64 → a k < p) → ∀ k, k < 64 → (eqS p n ms a).2 k < p
 | [], a, ha => ha
 | N :: ms, a, ha => by
  by_cases h : deg a ≤ (n : Int)
  · rw [eqS_stay h]; exact ha
  · by_cases h2 : deg (resP p a (ofN p N)) < 0
    · rw [eqS, if_neg h, if_pos h2]; exact eqS_lt hp ms _ (fun k _ => quoP_lt hp k)
    · rw [eqS, if_neg h, if_neg h2]; exact eqS_lt hp ms a ha
theorem eqS_len {p n : Nat} : ∀ (ms : List Nat) (a : Nat → Nat), (eqS p n ms a).1.length ≤ ms.length
 | [], a => by rw [eqS_nil]; simp
 | N :: ms, a => by
  by_cases h : deg a ≤ (n : Int)
  · rw [eqS_stay h]; simp
  · by_cases h2 : deg (resP p a (ofN p N)) < 0
    · rw [eqS, if_neg h, if_pos h2]
      have := eqS_len (p := p) (n := n) ms (quoP p a (ofN p N))
      simp; omega
    · rw [eqS, if_neg h, if_neg h2]
      have := eqS_len (p := p) (n := n) ms a
      simp; omega
/-- the number of what is left leads back to it -/
theorem vl_back {p n : Nat} {a : Nat → Nat} (hp : 2 ≤ p) (ha : ∀ k, k < 64 → a k < p) (h : deg a = (n : Int)) : ∀ k, k < 64 → ofN p (vl p a (n + 1)) k = a k := by
 intro k hk
 obtain ⟨n6, h1, h2⟩ := deg_top h
 have e : vl p a (n + 1) = vl p (cut a) (n + 1) := vl_congr (n + 1) (fun j hj => by rw [cut_in a (by omega)])
 have hc : ∀ k, cut a k < p := fun k => by
  unfold cut
  split
  · rename_i hk; exact ha k hk
  · omega
 rw [e]
 by_cases hk2 : k < n + 1
 · rw [ofN_vl (n + 1) (cut a) hc k hk2, cut_in a hk]
 · have hl := vl_lt (n + 1) (cut a) hc
   have h3 : a k = 0 := h2 k (by omega) hk
   rw [h3]
   show dgt p (vl p (cut a) (n + 1)) k = 0
   exact dgt_zero hp (Nat.div_eq_of_lt hl) (by omega)
end Go.Proofs.Ytelgefgphhebnaa
namespace Go.Proofs.Ytelgefgphhebnaa
open Go Go.RowKit Go.Shelf
set_option linter.unusedVariables false
set_option linter.unusedSimpArgs false
attribute [local irreducible] deg invN dS qS stp stpr quoP resP oneP eqS ofN
theorem Try.infoPoly : (Try.prog.info? 28).map (fun i => (i.zero, i.size, i.bytes)) = some (some (.agg (zb 64 fun _ => 0)), 64, 64) := by kernel_rfl
theorem Try.sizeSl : (Try.prog.info? 30).map (·.size) = some 1 := by kernel_rfl
def polRows (p : Nat) (L : List Nat) : List (List Value) := L.map fun N => bl 64 (ofN p N)
theorem polRows_snoc (p : Nat) (L : List Nat) (x : Nat) : polRows p (L ++ [x]) = polRows p L ++ [bl 64 (ofN p x)] := by simp [polRows]
theorem polRows_len (p : Nat) (L : List Nat) : (polRows p L).length = L.length := by simp [polRows]
/-- what equalFactors hands back -/
def EqF (p n : Nat) (f : Nat → Nat) (w : World) (e : Ending) (w' : World) : Prop := ∃ v, e = .returned v ∧ SlL w' w.heap.size 28 64 v (polRows p (eqf p n (monL p n) f)) ∧ Below w.heap.size w w'
/-- what stands between two rounds -/
def EqI (p n : Nat) (f : Nat → Nat) (n0 b3 b4 b5 b7 ba bb bp : Nat) (w : World) (pre : List (MonN p n)) (W : World) : Prop :=
 One W b3 2 (.int .i64 (p : Int)) ∧ Blk W b4 64 28 (eqS p n (vals pre) f).2 ∧ One W b5 3 (.int .i64 (n : Int)) ∧ (∃ v, One W b7 30 v ∧ SlL W n0 28 64 v (polRows p (eqS p n (vals pre) f).1)) ∧
  One W ba 2 (.int .i64 ((p ^ n : Nat) : Int)) ∧ One W bb 2 (.int .i64 ((p ^ n + p ^ n : Nat) : Int)) ∧ One W bp 2 (.int .i64 (p : Int)) ∧ Below w.heap.size w W
theorem eqI_own {p n : Nat} {f : Nat → Nat} {n0 b3 b4 b5 b7 ba bb bp : Nat} {w : World} (h3 : b3 < n0) (h4 : b4 < n0) (h5 : b5 < n0) (h7 : b7 < n0) (ha : ba < n0) (hbb : bb < n0) (hp : bp < n0) (hw : w.heap.size ≤ n0) : OwnFrom n0 (EqI p n f n0 b3 b4 b5 b7 ba bb bp w) := by
 intro pre W W' row h hg hr
 obtain ⟨a3, a4, a5, ⟨v, a7, aS⟩, aa, ab, ap, hb⟩ := h
 have h1 : ∀ r, row = some r → n0 ≤ r := fun r e => (hr r e).1
 exact ⟨a3.grownO hg h1 h3, a4.grownO hg h1 h4, a5.grownO hg h1 h5, ⟨v, a7.grownO hg h1 h7, aS.grownN hg (fun r e => (hr r e).2)⟩, aa.grownO hg h1 ha, ab.grownO hg h1 hbb, ap.grownO hg h1 hp,
  hb.grown hg hb.size (fun k e => Nat.le_trans hw (h1 k e))⟩
theorem eqI_below {p n : Nat} {f : Nat → Nat} {n0 b3 b4 b5 b7 ba bb bp : Nat} {w W W' : World} {pre : List (MonN p n)} (h : EqI p n f n0 b3 b4 b5 b7 ba bb bp w pre W) (hB : Below W.heap.size W W') : EqI p n f n0 b3 b4 b5 b7 ba bb bp w pre W' := by
 obtain ⟨a3, a4, a5, ⟨v, a7, aS⟩, aa, ab, ap, hb⟩ := h
 exact ⟨a3.zw hB, a4.zw hB, a5.zw hB, ⟨v, a7.zw hB, aS.zw hB⟩, aa.zw hB, ab.zw hB, ap.zw hB, hb.trans (hB.mono hb.size)⟩
theorem eqI_start {p n : Nat} {f : Nat → Nat} {n0 b3 b4 b5 b7 ba bb bp : Nat} {w W : World} (a3 : One W b3 2 (.int .i64 (p : Int))) (a4 : Blk W b4 64 28 f) (a5 : One W b5 3 (.int .i64 (n : Int))) (a7 : One W b7 30 (.slice none 0 0))
 (aa : One W ba 2 (.int .i64 ((p ^ n : Nat) : Int))) (ab : One W bb 2 (.int .i64 ((p ^ n + p ^ n : Nat) : Int))) (ap : One W bp 2 (.int .i64 (p : Int))) (hb : Below w.heap.size w W) (h0 : n0 = W.heap.size) : EqI p n f n0 b3 b4 b5 b7 ba bb bp w [] W := by
 unfold EqI
 rw [vals_nil, eqS_nil]
 exact ⟨a3, a4, a5, ⟨_, a7, SlL.nil _ _ (by omega)⟩, aa, ab, ap, hb⟩
set_option maxRecDepth 100000 in
set_option maxHeartbeats 6400000 in
theorem equalFactors_any (p n : Nat) (f : Nat → Nat) (w : World) (hpr : p = 2 ∨ p = 3 ∨ p = 5 ∨ p = 7) (hn1 : 1 ≤ n) (hn : n ≤ 12) (lf : ∀ k, k < 64 → f k < p) :
 Calls Try.prog 168 #[.int .i64 (p : Int), .agg (zb 64 f), .int .i64 (n : Int)] w (EqF p n f w) := by
 have p2 : 2 ≤ p := by omega
 have p7 : p ≤ 7 := by omega
 have p0 : 0 < p := by omega
 have HLF := Lib.hid lf
 refine callsIn_wide.1 (callsIn_of_wp_marks (n := 9) Try.func168 rfl trivial (wpIn_wide.2 ?_) rfl)
 simp only [Try.ntmps168, List.size_toArray, List.length_cons, List.length_nil, Nat.reduceAdd, Nat.reduceSub, Array.replicate_succ, Array.replicate_zero, List.push_toArray, List.append_toArray, List.nil_append, List.cons_append]
 go_upto_region 1 with (fail)
 obtain ⟨W1, hwo⟩ : ∃ v : World, v = (((w.alloc (.cells #[(.int .i64 (p : Int))] 2)).alloc (.cells (zb 64 (f)) 28)).alloc (.cells #[(.int .i64 (n : Int))] 3)) := ⟨_, rfl⟩
 have B0 : One W1 (w.heap.size) 2 (.int .i64 (p : Int)) := by subst hwo; have := (((One.new w 2 (.int .i64 (p : Int))).alloc (.cells (zb 64 (f)) 28)).alloc (.cells #[(.int .i64 (n : Int))] 3)); simpa using this
 have B1 : Blk W1 (w.heap.size + 1) 64 28 (f) := by subst hwo; have := ((Blk.new (w.alloc (.cells #[(.int .i64 (p : Int))] 2)) 64 28 (f)).alloc (.cells #[(.int .i64 (n : Int))] 3)); simpa using this
 have B2 : One W1 (w.heap.size + 1 + 1) 3 (.int .i64 (n : Int)) := by subst hwo; have := (One.new ((w.alloc (.cells #[(.int .i64 (p : Int))] 2)).alloc (.cells (zb 64 (f)) 28)) 3 (.int .i64 (n : Int))); simpa using this
 have hb : Below w.heap.size w W1 := by subst hwo; exact ((((Below.refl _ _).alloc (Nat.le_refl _) _).alloc (by simp) _).alloc (by simp; omega) _)
 rw [← hwo]
 clear hwo
 go_upto_region 2 with (first | rw [← z64])
 have lt_B0 := B0.lt
 have lt_B1 := B1.lt
 have lt_B2 := B2.lt
 have lhb := hb.size
 obtain ⟨W2, hwo, hzQ⟩ : ∃ v : World, v = (W1.alloc (.cells #[(.slice none 0 0)] 30)) ∧ One v (w.heap.size) 2 (.int .i64 (p : Int)) ∧ Blk v (w.heap.size + 1) 64 28 (f) ∧ One v (w.heap.size + 1 + 1) 3 (.int .i64 (n : Int)) ∧ One v (W1.heap.size) 30 (.slice none 0 0) ∧ Below w.heap.size w v := ⟨_, rfl, (B0.alloc (.cells #[(.slice none 0 0)] 30)), (B1.alloc (.cells #[(.slice none 0 0)] 30)), (B2.alloc (.cells #[(.slice none 0 0)] 30)), (One.new W1 30 (.slice none 0 0)), (hb.alloc (by have := hb.size; simp; omega) (.cells #[(.slice none 0 0)] 30))⟩
 rw [← hwo]
 clear hwo B0 B1 B2 hb
 obtain ⟨B0, B1, B2, B3, hb⟩ := hzQ
 obtain ⟨N1, hNN⟩ : ∃ n : Nat, n = W1.heap.size := ⟨_, rfl⟩
 rw [← hNN] at lt_B0 lt_B1 lt_B2 lhb B3 ⊢
 clear hNN
 have zN1_0 := lt_B0
 have zN1_1 := lt_B1
 have zN1_2 := lt_B2
 have zN1 := lhb
 clear lt_B0 lt_B1 lt_B2 lhb
 try simp only [Act.put, pA, pB, pC]
 go_upto_block 0 with (first | (refine zlo rfl 2 (.tmp 3) rfl _ rfl 2 ((.int .i64 (p : Int))) (B0) _ Try.underlying2 rfl ?_) | (refine zlo rfl 3 (.tmp 5) rfl _ rfl 3 ((.int .i64 (n : Int))) (B2) _ Try.underlying3 rfl ?_) | (go_at_call 153; refine (monics_any p n _ p2 p7 (by omega)).mono ?_; rintro e WM ⟨ba, bb, bp, rfl, hba0, hbb0, hbp0, C0, C1, C2, hWM⟩))
 have na_0 : (w.heap.size) < ba := by have := B0.lt; omega
 have nb_0 : (w.heap.size) < bb := by have := B0.lt; omega
 have np_0 : (w.heap.size) < bp := by have := B0.lt; omega
 have na_1 : (w.heap.size + 1) < ba := by have := B1.lt; omega
 have nb_1 : (w.heap.size + 1) < bb := by have := B1.lt; omega
 have np_1 : (w.heap.size + 1) < bp := by have := B1.lt; omega
 have na_2 : (w.heap.size + 1 + 1) < ba := by have := B2.lt; omega
 have nb_2 : (w.heap.size + 1 + 1) < bb := by have := B2.lt; omega
 have np_2 : (w.heap.size + 1 + 1) < bp := by have := B2.lt; omega
 have na_3 : (N1) < ba := by have := B3.lt; omega
 have nb_3 : (N1) < bb := by have := B3.lt; omega
 have np_3 : (N1) < bp := by have := B3.lt; omega
 replace B0 := B0.zw hWM
 replace B1 := B1.zw hWM
 replace B2 := B2.zw hWM
 replace B3 := B3.zw hWM
 replace hb := hb.trans (hWM.mono hb.size)
 clear hba0 hbb0 hbp0 hWM
 have lB0 : (w.heap.size) < WM.heap.size := B0.lt
 have lB1 : (w.heap.size + 1) < WM.heap.size := B1.lt
 have lB2 : (w.heap.size + 1 + 1) < WM.heap.size := B2.lt
 have lB3 : (N1) < WM.heap.size := B3.lt
 have lC0 : ba < WM.heap.size := C0.lt
 have lC1 : bb < WM.heap.size := C1.lt
 have lC2 : bp < WM.heap.size := C2.lt
 have lw : w.heap.size ≤ WM.heap.size := hb.size
 refine (wpIn_wide (n := 9)).1 (wpIn_block ?_)
 refine wpIn_rangeFunc_ownH (F := Fence.wide) (n := 9) rfl (by omega) (gf := 180) (lb := #[.pointer (some ⟨ba, 0, none⟩), .pointer (some ⟨bb, 0, none⟩), .pointer (some ⟨bp, 0, none⟩)]) rfl trivial (enters_of Try.func180 (by kernel_rfl) rfl)
  (numbered1_stops 8 p (p ^ n) (p ^ n) p2 p7 (mon_bound p7 (by omega)) (mon_bound p7 (by omega)) ba bb bp WM C0 C1 C2) KpN.trans (KpN.put C0.lt C1.lt C2.lt) (Below.refl _ _) (fun _ => rfl)
  (EqI p n f WM.heap.size (w.heap.size) (w.heap.size + 1) (w.heap.size + 1 + 1) (N1) ba bb bp w) (fun c pre W => c = .exit 0 ∧ EqI p n f WM.heap.size (w.heap.size) (w.heap.size + 1) (w.heap.size + 1 + 1) (N1) ba bb bp w pre W ∧ deg (eqS p n (vals pre) f).2 ≤ (n : Int))
  (eqI_own lB0 lB1 lB2 lB3 lC0 lC1 lC2 lw)
  (by
   intro c pre W W' row h hg hr
   exact ⟨h.1, eqI_own lB0 lB1 lB2 lB3 lC0 lC1 lC2 lw pre W W' row h.2.1 hg hr, h.2.2⟩)
  (eqI_start B0 B1 B2 B3 C0 C1 C2 hb rfl)
  (fun (x : MonN p n) (a' : Act) (W : World) => ∃ b8, WM.heap.size ≤ b8 ∧ Blk W b8 64 28 (ofN p x.1) ∧ a' = { tmps := #[(.int .i64 (p : Int)), (.agg (zb 64 (f))), (.int .i64 (n : Int)), (.pointer (some ⟨w.heap.size, 0, none⟩)), (.pointer (some ⟨w.heap.size + 1, 0, none⟩)), (.pointer (some ⟨w.heap.size + 1 + 1, 0, none⟩)), (.slice none 0 0), (.pointer (some ⟨N1, 0, none⟩)), (.pointer (some ⟨b8, 0, none⟩)), undef, undef, (.int .i64 (p : Int)), (.int .i64 (n : Int)), (.func (.func 180) #[] #[.pointer (some ⟨ba, 0, none⟩), .pointer (some ⟨bb, 0, none⟩), .pointer (some ⟨bp, 0, none⟩)]), (.agg (zb 64 (ofN p x.1))), undef, undef, undef, undef, undef, undef, undef, undef, undef, undef, undef, undef, undef, undef, undef, undef, undef, undef, undef, undef, undef, undef, undef, undef, undef, undef, undef, undef], defers := [] })
  (by
   rintro x a' _ W W' row ⟨b8, h8, hB, rfl⟩ hg hr
   exact ⟨b8, h8, by
    unfold Blk at *
    rw [hg.block b8 (Array.getElem?_eq_some_iff.1 hB).1 (fun e => by
     obtain ⟨_, o, ho, hc⟩ := hr b8 e.symm
     rw [hB] at ho; cases ho; cases hc)]
    exact hB, rfl⟩) ?assign ?body ?done ?stop
 all_goals clear B0 B1 B2 B3 C0 C1 C2 hb
 case assign =>
  intro l pre x W K hi hK
  refine regionIn_of (nd_of (by rfl)) (fun _ _ h => h) ?_
  unfold numEnc
  have hN : Blk (W.alloc (.cells (zb 64 fun _ => 0) 28)) W.heap.size 64 28 (fun _ => 0) := Blk.new W 64 28 _
  go_wp2_with (first | rw [← z64] | (refine zsr (.tmp 8) (.tmp 14) (ofN p x.1) hN Try.size28 ?_))
  have hBB : Below W.heap.size W ((W.alloc (.cells (zb 64 fun _ => 0) 28)).setRow W.heap.size (zb 64 (ofN p x.1))) := zr (zal _ _) (Nat.le_refl _) _
  have hi2 := hi
  obtain ⟨_, _, _, ⟨v, _, aS⟩, aa, ab, ap, _⟩ := hi
  have z0 := aS.lt
  refine hK _ _ ((KF.refl _ W).below hBB (Nat.le_refl _)) ⟨hBB.block _ aa.lt, hBB.block _ ab.lt, hBB.block _ ap.lt⟩ (eqI_below hi2 hBB) ⟨W.heap.size, z0, hN.row _, rfl⟩
 case body =>
  rintro l pre ⟨x, hx⟩ a' W hl _ hi ⟨bx, h8, B4, rfl⟩ hlen
  obtain ⟨LL, X, hLX⟩ : ∃ LL X, eqS p n (vals pre) f = (LL, X) := ⟨_, _, rfl⟩
  have hSn : eqS p n (vals (pre ++ [⟨x, hx⟩])) f = if deg X ≤ (n : Int) then (LL, X) else if deg (resP p X (ofN p x)) < 0 then (LL ++ [x], quoP p X (ofN p x)) else (LL, X) := by
   rw [vals_snoc, eqS_snoc, hLX]
  unfold EqI at hi
  rw [hLX] at hi
  obtain ⟨B0, B1, B2, ⟨vv, B3, B5⟩, B6, B7, B8, hb⟩ := hi
  have HA0 := Lib.hid (show One W ba 2 (.int .i64 ((p ^ n : Nat) : Int)) from B6)
  have HB0 := Lib.hid (show One W bb 2 (.int .i64 ((p ^ n + p ^ n : Nat) : Int)) from B7)
  have HP0 := Lib.hid (show One W bp 2 (.int .i64 (p : Int)) from B8)
  have B9 := KF.refl WM.heap.size W
  replace B5 := B5.top
  replace B4 : Blk W bx 64 28 (ofN p x) := B4
  have lt8 := B4.lt
  have lX : ∀ k, k < 64 → X k < p := by have := eqS_lt (n := n) p0 (vals pre) f lf; rw [hLX] at this; exact this
  have hm := mon_ofN p2 (by omega : n < 64) hx
  have hLen : LL.length ≤ pre.length := by have := eqS_len (p := p) (n := n) (vals pre) f; rw [hLX, vals_len] at this; exact this
  have hpl : pre.length < 13841287201 := Nat.lt_of_lt_of_le hlen (mon_bound p7 hn)
  have hLen2 : LL.length < 13841287201 := by omega
  have zWM := B5.lt
  have HLX := Lib.hid lX
  have HMD := Lib.hid hm.1
  have HQR := Lib.hid (fun W => quotientAndRest_any p X (ofN p x) W hpr lX (fun k _ => ofN_lt p0 x k) (by rw [hm.1]; omega))
  clear hlen hpl hLen hLX hm lX lf hl
  refine wpIn_block ?_
  refine wpIn_seq ?_
  refine wpIn_seq ?_
  by_cases hle : deg X ≤ (n : Int)
  · have HSn := Lib.hid (hSn.trans (if_pos hle))
    clear hSn
    refine wpIn_region_steps0 (fun _ _ h => h) (nd_of (by rfl)) Try.mixed (by kernel_rfl) (by kernel_rfl) (fun v => by (simp only [frL, Act.put, pA, pB, pC, Nat.reduceAdd, Nat.zero_add]; exact rfl))
     (fun L v W3 => Below W.heap.size W W3 ∧ VF L v [some (.agg (zb 64 (X))), some (.int .i64 (deg X)), some (.int .i64 (n : Int)), some (.bool true)]) ?_ ?_ ?_
    · intro v hv0
      exact ⟨(Below.refl _ W).drew, VF.start⟩
    · refine (.cons rfl ?_ (.cons rfl ?_ (.cons rfl ?_ (.cons rfl ?_ (.nil _)))))
      all_goals intro L v W3 hd hn ⟨hY, V⟩ K hK
      · refine zlc (B1.zw hY) Try.underlying28 Try.size28 ?_
        exact hK _ _ _ rfl ⟨hY, V.step 0 rfl⟩
      · have e0 := V.at (zdq hd 0 rfl) rfl
        go_wp2_with (go_at_call 77; refine (degree_any X _).mono ?_; rintro e wy ⟨rfl, hy⟩)
        exact hK _ (.int .i64 (deg X)) _ (by simp only [Act.put, pA, pB, pC, e0]) ⟨hY.trans (hy.mono hY.size), V.step 1 rfl⟩
      · refine wp_load_one 3 _ rfl _ rfl 3 _ (B2.zw hY) _ Try.underlying3 rfl ?_
        exact hK _ _ _ rfl ⟨hY, V.step 2 rfl⟩
      · have e1 := V.at (zdq hd 1 rfl) rfl
        have e2 := V.at (zdq hd 2 rfl) rfl
        go_wp2_with fail
        exact hK _ (.bool true) _ (by simp only [Act.put, pA, pB, pC, e1, e2]) ⟨hY, V.step 3 rfl⟩
    · intro L v W3 hL ⟨hY, V⟩
      have e0 := V.at (hL 0 (by decide)) rfl
      have e1 := V.at (hL 1 (by decide)) rfl
      have e2 := V.at (hL 2 (by decide)) rfl
      have e3 := V.at (hL 3 (by decide)) rfl
      clear hL V
      replace B0 := B0.zw hY
      replace B1 := B1.zw hY
      replace B2 := B2.zw hY
      replace B3 := B3.zw hY
      replace B4 := B4.zw hY
      replace B5 := B5.zw hY
      replace B6 := B6.zw hY
      replace B7 := B7.zw hY
      replace B8 := B8.zw hY
      replace B9 := B9.zw hY
      replace hb := hb.trans (hY.mono hb.size)
      clear hY
      simp only [Exit.then, e0, e1, e2, e3]
      clear e0 e1 e2 e3
      refine wpIn_cond_true rfl ?_
      refine wpIn_exit ?_
      exact ⟨B9, rfl, (show EqI p n f WM.heap.size (w.heap.size) (w.heap.size + 1) (w.heap.size + 1 + 1) (N1) ba bb bp w (pre ++ [⟨x, hx⟩]) W3 by unfold EqI; rw [HSn.out]; exact ⟨B0, B1, B2, ⟨_, B3, B5.1⟩, B6, B7, B8, hb⟩), by rw [HSn.out]; exact hle⟩
  · rw [if_neg hle] at hSn
    refine wpIn_region_steps0 (fun _ _ h => h) (nd_of (by rfl)) Try.mixed (by kernel_rfl) (by kernel_rfl) (fun v => by (simp only [frL, Act.put, pA, pB, pC, Nat.reduceAdd, Nat.zero_add]; exact rfl))
     (fun L v W3 => Below W.heap.size W W3 ∧ VF L v [some (.agg (zb 64 (X))), some (.int .i64 (deg X)), some (.int .i64 (n : Int)), some (.bool false)]) ?_ ?_ ?_
    · intro v hv0
      exact ⟨(Below.refl _ W).drew, VF.start⟩
    · refine (.cons rfl ?_ (.cons rfl ?_ (.cons rfl ?_ (.cons rfl ?_ (.nil _)))))
      all_goals intro L v W3 hd hn ⟨hY, V⟩ K hK
      · refine zlc (B1.zw hY) Try.underlying28 Try.size28 ?_
        exact hK _ _ _ rfl ⟨hY, V.step 0 rfl⟩
      · have e0 := V.at (zdq hd 0 rfl) rfl
        go_wp2_with (go_at_call 77; refine (degree_any X _).mono ?_; rintro e wy ⟨rfl, hy⟩)
        exact hK _ (.int .i64 (deg X)) _ (by simp only [Act.put, pA, pB, pC, e0]) ⟨hY.trans (hy.mono hY.size), V.step 1 rfl⟩
      · refine wp_load_one 3 _ rfl _ rfl 3 _ (B2.zw hY) _ Try.underlying3 rfl ?_
        exact hK _ _ _ rfl ⟨hY, V.step 2 rfl⟩
      · have e1 := V.at (zdq hd 1 rfl) rfl
        have e2 := V.at (zdq hd 2 rfl) rfl
        go_wp2_with fail
        exact hK _ (.bool false) _ (by simp only [Act.put, pA, pB, pC, e1, e2]) ⟨hY, V.step 3 rfl⟩
    · intro L v W3 hL ⟨hY, V⟩
      have e0 := V.at (hL 0 (by decide)) rfl
      have e1 := V.at (hL 1 (by decide)) rfl
      have e2 := V.at (hL 2 (by decide)) rfl
      have e3 := V.at (hL 3 (by decide)) rfl
      clear hL V
      replace B0 := B0.zw hY
      replace B1 := B1.zw hY
      replace B2 := B2.zw hY
      replace B3 := B3.zw hY
      replace B4 := B4.zw hY
      replace B5 := B5.zw hY
      replace B6 := B6.zw hY
      replace B7 := B7.zw hY
      replace B8 := B8.zw hY
      replace B9 := B9.zw hY
      replace hb := hb.trans (hY.mono hb.size)
      clear hY
      simp only [Exit.then, e0, e1, e2, e3]
      clear e0 e1 e2 e3
      refine wpIn_cond_false rfl ?_
      refine wpIn_skip ?_
      simp only [Exit.then]
      refine wpIn_seq ?_
      refine regionIn_of (nd_of (by rfl)) (fun _ _ h => h) ?_
      clear hle
      have lt_B0 := B0.lt
      have lt_B1 := B1.lt
      have lt_B2 := B2.lt
      have lt_B3 := B3.lt
      have lt_B4 := B4.lt
      have lt_B5 := B5.lt
      have lt_B6 := B6.lt
      have lt_B7 := B7.lt
      have lt_B8 := B8.lt
      have lt_B9 := B9.lt
      go_wp2_with (first | rw [← z64] | (refine zlo rfl 2 (.tmp 3) rfl _ rfl 2 ((.int .i64 (p : Int))) (B0) _ Try.underlying2 rfl ?_) | (refine zla (.tmp 4) B1 Try.underlying28 Try.size28 ?_) | (refine zla (.tmp 8) B4 Try.underlying28 Try.size28 ?_) | (go_at_call 115; refine (HQR.out _).mono ?_; rintro e W4 ⟨rfl, hW4⟩; replace B0 := B0.zw hW4; replace B1 := B1.zw hW4; replace B2 := B2.zw hW4; replace B3 := B3.zw hW4; replace B4 := B4.zw hW4; replace B5 := B5.zw hW4; replace B6 := B6.zw hW4; replace B7 := B7.zw hW4; replace B8 := B8.zw hW4; replace B9 := B9.zw hW4; replace hb := (hb).trans (hW4.mono (hb).size)) | (refine wpList_store_blk rfl 28 (.tmp 9) (.tmp 24) rfl _ 64 (quoP p X (ofN p x)) rfl rfl 28 _ (((Blk.new W4 64 28 (fun _ => 0)).alloc (.cells (zb 64 (fun _ => 0)) 28))) Try.size28 ?_; try simp only [Act.put]) | (refine wpList_store_blk rfl 28 (.tmp 10) (.tmp 25) rfl _ 64 (resP p X (ofN p x)) rfl rfl 28 _ (((show Blk ((W4.alloc (.cells (zb 64 (fun _ => 0)) 28)).alloc (.cells (zb 64 (fun _ => 0)) 28)) (W4.heap.size + 1) 64 28 (fun _ => 0) by have := Blk.new (W4.alloc (.cells (zb 64 (fun _ => 0)) 28)) 64 28 (fun _ => 0); simpa using this).rowOther (by omega))) Try.size28 ?_; try simp only [Act.put]))
      have lt_B0 := B0.lt
      have lt_B1 := B1.lt
      have lt_B2 := B2.lt
      have lt_B3 := B3.lt
      have lt_B4 := B4.lt
      have lt_B5 := B5.lt
      have lt_B6 := B6.lt
      have lt_B7 := B7.lt
      have lt_B8 := B8.lt
      have lt_B9 := B9.lt
      have lhb := hb.size
      obtain ⟨W5, hwo, hzQ⟩ : ∃ v : World, v = ((((W4.alloc (.cells (zb 64 (fun _ => 0)) 28)).alloc (.cells (zb 64 (fun _ => 0)) 28)).setRow (W4.heap.size) (zb 64 (quoP p X (ofN p x)))).setRow (W4.heap.size + 1) (zb 64 (resP p X (ofN p x)))) ∧ One v (w.heap.size) 2 (.int .i64 (p : Int)) ∧ Blk v (w.heap.size + 1) 64 28 (X) ∧ One v (w.heap.size + 1 + 1) 3 (.int .i64 (n : Int)) ∧ One v (N1) 30 vv ∧ Blk v (bx) 64 28 (ofN p x) ∧ SlT v WM.heap.size W.heap.size 28 64 vv (polRows p LL) ∧ One v (ba) 2 (.int .i64 ((p ^ n : Nat) : Int)) ∧ One v (bb) 2 (.int .i64 ((p ^ n + p ^ n : Nat) : Int)) ∧ One v (bp) 2 (.int .i64 (p : Int)) ∧ KF WM.heap.size W v ∧ Blk v (W4.heap.size) 64 28 (quoP p X (ofN p x)) ∧ Blk v (W4.heap.size + 1) 64 28 (resP p X (ofN p x)) ∧ Below w.heap.size w v := ⟨_, rfl, ((((B0.alloc (.cells (zb 64 (fun _ => 0)) 28)).alloc (.cells (zb 64 (fun _ => 0)) 28)).rowOther (by omega)).rowOther (by omega)), ((((B1.alloc (.cells (zb 64 (fun _ => 0)) 28)).alloc (.cells (zb 64 (fun _ => 0)) 28)).rowOther (by omega)).rowOther (by omega)), ((((B2.alloc (.cells (zb 64 (fun _ => 0)) 28)).alloc (.cells (zb 64 (fun _ => 0)) 28)).rowOther (by omega)).rowOther (by omega)), ((((B3.alloc (.cells (zb 64 (fun _ => 0)) 28)).alloc (.cells (zb 64 (fun _ => 0)) 28)).rowOther (by omega)).rowOther (by omega)), ((((B4.alloc (.cells (zb 64 (fun _ => 0)) 28)).alloc (.cells (zb 64 (fun _ => 0)) 28)).rowOther (by omega)).rowOther (by omega)), ((((B5.alloc (.cells (zb 64 (fun _ => 0)) 28)).alloc (.cells (zb 64 (fun _ => 0)) 28)).rowOther (by omega)).rowOther (by omega)), ((((B6.alloc (.cells (zb 64 (fun _ => 0)) 28)).alloc (.cells (zb 64 (fun _ => 0)) 28)).rowOther (by omega)).rowOther (by omega)), ((((B7.alloc (.cells (zb 64 (fun _ => 0)) 28)).alloc (.cells (zb 64 (fun _ => 0)) 28)).rowOther (by omega)).rowOther (by omega)), ((((B8.alloc (.cells (zb 64 (fun _ => 0)) 28)).alloc (.cells (zb 64 (fun _ => 0)) 28)).rowOther (by omega)).rowOther (by omega)), ((((B9.alloc (.cells (zb 64 (fun _ => 0)) 28)).alloc (.cells (zb 64 (fun _ => 0)) 28)).rowOther (by omega)).rowOther (by omega)), ((((Blk.new W4 64 28 (fun _ => 0)).alloc (.cells (zb 64 (fun _ => 0)) 28)).row (quoP p X (ofN p x))).rowOther (by omega)), (((show Blk ((W4.alloc (.cells (zb 64 (fun _ => 0)) 28)).alloc (.cells (zb 64 (fun _ => 0)) 28)) (W4.heap.size + 1) 64 28 (fun _ => 0) by have := Blk.new (W4.alloc (.cells (zb 64 (fun _ => 0)) 28)) 64 28 (fun _ => 0); simpa using this).rowOther (by omega)).row (resP p X (ofN p x))), (zr (zr ((hb.alloc (by have := hb.size; simp; omega) (.cells (zb 64 (fun _ => 0)) 28)).alloc (by have := hb.size; simp; omega) (.cells (zb 64 (fun _ => 0)) 28)) (by omega) _) (by omega) _)⟩
      rw [← hwo]
      clear hwo B0 B1 B2 B3 B4 B5 B6 B7 B8 B9 hb
      obtain ⟨B0, B1, B2, B3, B4, B5, B6, B7, B8, B9, B10, B11, hb⟩ := hzQ
      obtain ⟨N2, hNN⟩ : ∃ n : Nat, n = W4.heap.size := ⟨_, rfl⟩
      rw [← hNN] at lt_B0 lt_B1 lt_B2 lt_B3 lt_B4 lt_B5 lt_B6 lt_B7 lt_B8 lt_B9 lhb B10 B11 ⊢
      clear hNN
      have zN2_0 := lt_B0
      have zN2_1 := lt_B1
      have zN2_2 := lt_B2
      have zN2_3 := lt_B3
      have zN2_4 := lt_B4
      have zN2_5 := lt_B5
      have zN2_6 := lt_B6
      have zN2_7 := lt_B7
      have zN2_8 := lt_B8
      have zN2_9 := lt_B9
      have zN2 := lhb
      clear lt_B0 lt_B1 lt_B2 lt_B3 lt_B4 lt_B5 lt_B6 lt_B7 lt_B8 lt_B9 lhb
      try simp only [Act.put, pA, pB, pC]
      clear HQR
      refine wpIn_seq ?_
      refine regionIn_of (nd_of (by rfl)) (fun _ _ h => h) ?_
      by_cases hz : deg (resP p X (ofN p x)) < 0
      · have HSn := Lib.hid (hSn.trans (if_pos hz))
        clear hSn
        have heq := fun W => zeb (P := Try.prog) W 9998 28 5 64 (resP p X (ofN p x)) (fun _ => 0) Try.underlying28 Try.underlying5 Try.size5
        rw [eqN_zero, show decide (deg (resP p X (ofN p x)) < 0) = true by simp [hz]] at heq
        simp only [z64] at heq
        have hgd := Try.noGuard28
        go_wp2_with (first | (refine zla (.tmp 10) B11 Try.underlying28 Try.size28 ?_))
        clear heq hgd
        refine wpIn_cond_true rfl ?_
        refine wpIn_seq ?_
        refine regionIn_of (nd_of (by rfl)) (fun _ _ h => h) ?_
        have lu_0 := B0.lt
        have lu_1 := B1.lt
        have lu_2 := B2.lt
        have lu_3 := B3.lt
        have lu_10 := B10.lt
        go_wp2_with (first | (refine zlo rfl 30 (.tmp 7) rfl _ rfl 30 vv B3 _ Try.underlying30 rfl ?_) | (refine zla (.tmp 8) B4 Try.underlying28 Try.size28 ?_) | (refine wpList_build_polys rfl 30 _ [ofN p x] rfl 28 rfl Try.underlying30 Try.elem28 (by simp) (by simp) rfl ?_; intro wa hwa hps hba; clear hwa; have eB0 := B0.zw hba; have eB1 := B1.zw hba; have eB2 := B2.zw hba; have eB3 := B3.zw hba; have eB4 := B4.zw hba; have eB5 := B5.zw hba; have eB6 := B6.zw hba; have eB7 := B7.zw hba; have eB8 := B8.zw hba; have eB9 := B9.zw hba; have eB10 := B10.zw hba; have eB11 := B11.zw hba; have ehb := hb.trans (hba.mono hb.size)) | (at_builtin; refine wpList_append_sl _ rfl _ _ 30 rfl WM.heap.size 28 (.agg (zb 64 fun _ => 0)) 64 64 Try.underlying30 Try.infoPoly (by simp [Value.cells, bl]) (by decide) vv _ rfl eB5.1 W5.heap.size (bl 64 (ofN p x)) rfl (zl _ _) (by have := hps.range (i := 0) (f := ofN p x) rfl; rwa [Nat.zero_mul] at this) bl_one (by rw [polRows_len]; unfold maxLen; omega) (by rw [polRows_len]; omega) ?_; intro vp wp hSp hg1; have fB0 := eB0.grownO hg1 (eB5.1.own) (base := WM.heap.size) (by omega); have fB1 := eB1.grownO hg1 (eB5.1.own) (base := WM.heap.size) (by omega); have fB2 := eB2.grownO hg1 (eB5.1.own) (base := WM.heap.size) (by omega); have fB3 := eB3.grownO hg1 (eB5.1.own) (base := WM.heap.size) (by omega); have fB6 := eB6.grownO hg1 (eB5.1.own) (base := WM.heap.size) (by omega); have fB7 := eB7.grownO hg1 (eB5.1.own) (base := WM.heap.size) (by omega); have fB8 := eB8.grownO hg1 (eB5.1.own) (base := WM.heap.size) (by omega); have fB10 := eB10.grownT hg1 eB5.2 (by omega); have fB9 := eB9.grown hg1 (fun r e => by obtain ⟨cur, hc⟩ := eB5.1.ownCells r e; exact ⟨cur, _, _, hc⟩); have fhb := ehb.grown hg1 ehb.size (fun k e => Nat.le_trans lw (eB5.1.own k e))) | (refine wpList_store_oneV rfl 30 (.tmp 7) (.tmp 32) rfl _ rfl vp rfl hSp.one 30 vv fB3 Try.sizeSl ?_))
        have fl : WM.heap.size ≤ wp.heap.size := hSp.lt
        have gB0 : One (wp.setRow (N1) #[vp]) (w.heap.size) 2 (.int .i64 (p : Int)) := fB0.rowOther (by omega)
        have gB1 : Blk (wp.setRow (N1) #[vp]) (w.heap.size + 1) 64 28 (X) := fB1.rowOther (by omega)
        have gB2 : One (wp.setRow (N1) #[vp]) (w.heap.size + 1 + 1) 3 (.int .i64 (n : Int)) := fB2.rowOther (by omega)
        have gB3 : One (wp.setRow (N1) #[vp]) (N1) 30 vp := fB3.row vp
        have gB6 : One (wp.setRow (N1) #[vp]) (ba) 2 (.int .i64 ((p ^ n : Nat) : Int)) := fB6.rowOther (by omega)
        have gB7 : One (wp.setRow (N1) #[vp]) (bb) 2 (.int .i64 ((p ^ n + p ^ n : Nat) : Int)) := fB7.rowOther (by omega)
        have gB8 : One (wp.setRow (N1) #[vp]) (bp) 2 (.int .i64 (p : Int)) := fB8.rowOther (by omega)
        have gB5 : SlT (wp.setRow (N1) #[vp]) WM.heap.size wp.heap.size 28 64 vp (polRows p (LL ++ [x])) := (by rw [polRows_snoc]; exact hSp.top.rowOther (.inl (by omega)))
        have gB9 : KF WM.heap.size W (wp.setRow (N1) #[vp]) := fB9.rowOther (by omega)
        have gB10 : Blk (wp.setRow (N1) #[vp]) (N2) 64 28 (quoP p X (ofN p x)) := fB10.rowOther (by omega)
        have ghb : Below w.heap.size w (wp.setRow (N1) #[vp]) := zr fhb (by omega) _
        obtain ⟨WN, hWN⟩ : ∃ v : World, v = (wp.setRow (N1) #[vp]) := ⟨_, rfl⟩
        rw [← hWN] at gB0 gB1 gB2 gB3 gB6 gB7 gB8 gB5 gB9 gB10 ghb ⊢
        clear hWN
        clear B0 B1 B2 B3 B4 B5 B6 B7 B8 B9 B10 B11 hb eB0 eB1 eB2 eB3 eB4 eB5 eB6 eB7 eB8 eB9 eB10 eB11 ehb hps
        clear fB0 fB1 fB2 fB3 fB6 fB7 fB8 fB9 fB10 fhb
        have B0 := gB0
        clear gB0
        have B1 := gB1
        clear gB1
        have B2 := gB2
        clear gB2
        have B3 := gB3
        clear gB3
        have B5 := gB5
        clear gB5
        have B6 := gB6
        clear gB6
        have B7 := gB7
        clear gB7
        have B8 := gB8
        clear gB8
        have B9 := gB9
        clear gB9
        have B10 := gB10
        clear gB10
        have hb := ghb
        clear ghb
        refine regionIn_of (nd_of (by rfl)) (fun _ _ h => h) ?_
        have lt_B0 := B0.lt
        have lt_B1 := B1.lt
        have lt_B2 := B2.lt
        have lt_B3 := B3.lt
        have lt_B5 := B5.lt
        have lt_B6 := B6.lt
        have lt_B7 := B7.lt
        have lt_B8 := B8.lt
        have lt_B9 := B9.lt
        have lt_B10 := B10.lt
        go_wp2_with (first | rw [← z64] | (refine zla (.tmp 9) B10 Try.underlying28 Try.size28 ?_) | (refine zsr (.tmp 4) (.tmp 33) (quoP p X (ofN p x)) B1 Try.size28 ?_; try simp only [Act.put]))
        obtain ⟨W6, hwo, hzQ⟩ : ∃ v : World, v = (WN.setRow (w.heap.size + 1) (zb 64 (quoP p X (ofN p x)))) ∧ One v (w.heap.size) 2 (.int .i64 (p : Int)) ∧ Blk v (w.heap.size + 1) 64 28 (quoP p X (ofN p x)) ∧ One v (w.heap.size + 1 + 1) 3 (.int .i64 (n : Int)) ∧ One v (N1) 30 vp ∧ SlT v WM.heap.size wp.heap.size 28 64 vp (polRows p (LL ++ [x])) ∧ One v (ba) 2 (.int .i64 ((p ^ n : Nat) : Int)) ∧ One v (bb) 2 (.int .i64 ((p ^ n + p ^ n : Nat) : Int)) ∧ One v (bp) 2 (.int .i64 (p : Int)) ∧ KF WM.heap.size W v ∧ Blk v (N2) 64 28 (quoP p X (ofN p x)) ∧ Below w.heap.size w v := ⟨_, rfl, (B0.rowOther (by omega)), (B1.row (quoP p X (ofN p x))), (B2.rowOther (by omega)), (B3.rowOther (by omega)), (B5.rowOther (by omega)), (B6.rowOther (by omega)), (B7.rowOther (by omega)), (B8.rowOther (by omega)), (B9.rowOther (by omega)), (B10.rowOther (by omega)), (zr hb (by omega) _)⟩
        rw [← hwo]
        clear hwo B0 B1 B10 B2 B3 B5 B6 B7 B8 B9 hb
        obtain ⟨B0, B1, B2, B3, B5, B6, B7, B8, B9, B10, hb⟩ := hzQ
        try simp only [Act.put, pA, pB, pC]
        exact ⟨B9, (show KpN ba bb bp W W6 from ⟨One.same HA0.out B6, One.same HB0.out B7, One.same HP0.out B8⟩), (show EqI p n f WM.heap.size (w.heap.size) (w.heap.size + 1) (w.heap.size + 1 + 1) (N1) ba bb bp w (pre ++ [⟨x, hx⟩]) W6 by unfold EqI; rw [HSn.out]; exact ⟨B0, B1, B2, ⟨_, B3, B5.1⟩, B6, B7, B8, hb⟩)⟩
      · have HSn := Lib.hid (hSn.trans (if_neg hz))
        clear hSn
        have heq := fun W => zeb (P := Try.prog) W 9998 28 5 64 (resP p X (ofN p x)) (fun _ => 0) Try.underlying28 Try.underlying5 Try.size5
        rw [eqN_zero, show decide (deg (resP p X (ofN p x)) < 0) = false by simp [hz]] at heq
        simp only [z64] at heq
        have hgd := Try.noGuard28
        go_wp2_with (first | (refine zla (.tmp 10) B11 Try.underlying28 Try.size28 ?_))
        refine wpIn_cond_false rfl ?_
        refine wpIn_skip ?_
        exact ⟨B9, (show KpN ba bb bp W W5 from ⟨One.same HA0.out B6, One.same HB0.out B7, One.same HP0.out B8⟩), (show EqI p n f WM.heap.size (w.heap.size) (w.heap.size + 1) (w.heap.size + 1 + 1) (N1) ba bb bp w (pre ++ [⟨x, hx⟩]) W5 by unfold EqI; rw [HSn.out]; exact ⟨B0, B1, B2, ⟨_, B3, B5.1⟩, B6, B7, B8, hb⟩)⟩
 case done =>
  rintro D ys W hD hS hi hK
  have hE : eqS p n (monL p n) f = eqS p n (vals ys) f := by rw [show vals ys = monL p n from hS]
  clear hS
  unfold EqI at hi
  obtain ⟨LL, X, hLX⟩ : ∃ LL X, eqS p n (vals ys) f = (LL, X) := ⟨_, _, rfl⟩
  rw [hLX] at hi hE
  dsimp only at hi
  have B5 : DF W D := hK
  obtain ⟨B0, B1, B2, ⟨vv, B3, B4⟩, _, _, _, hb⟩ := hi
  replace B4 := B4.top
  have lX : ∀ k, k < 64 → X k < p := by have := eqS_lt (n := n) p0 (monL p n) f lf; rw [hE] at this; exact this
  have hLen2 : LL.length ≤ 13841287201 := by
   have := eqS_len (p := p) (n := n) (monL p n) f
   rw [hE] at this
   have h2 : (monL p n).length = p ^ n := by unfold monL; simp
   have h3 := mon_bound p7 hn
   have h4 : LL.length ≤ (monL p n).length := this
   omega
  have HX := Lib.hid lX
  have HE := Lib.hid hE
  clear hE hLX lX lf hK
  by_cases hd : deg X = (n : Int)
  · have hq : ((deg X) == (n : Int)) = true := beq_iff_eq.2 hd
    have HF := Lib.hid (show polRows p (eqf p n (monL p n) f) = polRows p LL ++ [bl 64 X] by rw [eqf_eqS, HE.out]; show polRows p (LL ++ (if deg X = (n : Int) then _ else _)) = _; rw [if_pos hd, polRows_snoc]; congr 2; unfold bl; exact List.map_congr_left (fun i hi => by rw [vl_back p2 HX.out hd i (by simpa using hi)]))
    clear hd
    go_upto_region 9 with (fail)
    refine zq Try.mixed (by kernel_rfl) (by kernel_rfl) (fun v => by (simp only [frL, Act.put, pA, pB, pC, Nat.reduceAdd, Nat.zero_add]; exact rfl))
     (fun L v W3 => Below W.heap.size W W3 ∧ VF L v [some (.agg (zb 64 (X))), some (.int .i64 (deg X)), some (.int .i64 (n : Int)), some (.bool true)]) ?_ ?_ ?_
    · intro v hv0
      exact ⟨(Below.refl _ W).drew, VF.start⟩
    · refine (.cons rfl ?_ (.cons rfl ?_ (.cons rfl ?_ (.cons rfl ?_ (.nil _)))))
      all_goals intro L v W3 hd hn ⟨hY, V⟩ K hK
      · refine zlc (B1.zw hY) Try.underlying28 Try.size28 ?_
        exact hK _ _ _ rfl ⟨hY, V.step 0 rfl⟩
      · have e0 := V.at (zdq hd 0 rfl) rfl
        go_wp2_with (go_at_call 77; refine (degree_any X _).mono ?_; rintro e wy ⟨rfl, hy⟩)
        exact hK _ (.int .i64 (deg X)) _ (by simp only [Act.put, pA, pB, pC, e0]) ⟨hY.trans (hy.mono hY.size), V.step 1 rfl⟩
      · refine wp_load_one 3 _ rfl _ rfl 3 _ (B2.zw hY) _ Try.underlying3 rfl ?_
        exact hK _ _ _ rfl ⟨hY, V.step 2 rfl⟩
      · have e1 := V.at (zdq hd 1 rfl) rfl
        have e2 := V.at (zdq hd 2 rfl) rfl
        go_wp2_with fail
        exact hK _ (.bool true) _ (by simp only [Act.put, pA, pB, pC, e1, e2]) ⟨hY, V.step 3 rfl⟩
    · intro L v W3 hL ⟨hY, V⟩
      have e0 := V.at (hL 0 (by decide)) rfl
      have e1 := V.at (hL 1 (by decide)) rfl
      have e2 := V.at (hL 2 (by decide)) rfl
      have e3 := V.at (hL 3 (by decide)) rfl
      clear hL V
      replace B0 := B0.zw hY
      replace B1 := B1.zw hY
      replace B2 := B2.zw hY
      replace B3 := B3.zw hY
      replace B4 := B4.zw hY
      replace B5 := B5.zw hY
      replace hb := hb.trans (hY.mono hb.size)
      clear hY
      simp only [Exit.then, e0, e1, e2, e3]
      clear e0 e1 e2 e3
      have lu_0 := B0.lt
      have lu_1 := B1.lt
      have lu_2 := B2.lt
      have lu_3 := B3.lt
      have lu_4 := B4.lt
      have lu_5 := B5.lt
      go_upto_region 11 with (first | (refine zlo rfl 30 (.tmp 7) rfl _ rfl 30 vv B3 _ Try.underlying30 rfl ?_) | (refine zla (.tmp 4) B1 Try.underlying28 Try.size28 ?_) | (refine wpList_build_polys rfl 30 _ [X] rfl 28 rfl Try.underlying30 Try.elem28 (by simp) (by simp) rfl ?_; intro wa hwa hps hba; clear hwa; have eB0 := B0.zw hba; have eB1 := B1.zw hba; have eB2 := B2.zw hba; have eB3 := B3.zw hba; have eB4 := B4.zw hba; have eB5 := B5.zw hba; have ehb := hb.trans (hba.mono hb.size)) | (at_builtin; refine wpList_append_sl _ rfl _ _ 30 rfl WM.heap.size 28 (.agg (zb 64 fun _ => 0)) 64 64 Try.underlying30 Try.infoPoly (by simp [Value.cells, bl]) (by decide) vv _ rfl eB4.1 W3.heap.size (bl 64 X) rfl (zl _ _) (by have := hps.range (i := 0) (f := X) rfl; rwa [Nat.zero_mul] at this) bl_one (by rw [polRows_len]; unfold maxLen; omega) (by rw [polRows_len]; omega) ?_; intro vp wp hSp hg1; have fB3 := eB3.grownO hg1 (eB4.1.own) (base := WM.heap.size) (by omega); have fB5 := eB5.grown hg1 (fun r e => by obtain ⟨cur, hc⟩ := eB4.1.ownCells r e; exact ⟨cur, _, _, hc⟩); have fhb := ehb.grown hg1 ehb.size (fun k e => Nat.le_trans lw (eB4.1.own k e))) | (refine wpList_store_oneV rfl 30 (.tmp 7) (.tmp 41) rfl _ rfl vp rfl hSp.one 30 vv fB3 Try.sizeSl ?_; go_upto_region 11 with (fail)))
      have fl : WM.heap.size ≤ wp.heap.size := hSp.lt
      have gS : SlT (wp.setRow (N1) #[vp]) WM.heap.size wp.heap.size 28 64 vp (polRows p LL ++ [bl 64 X]) := hSp.top.rowOther (.inl (by omega))
      have g7 : One (wp.setRow (N1) #[vp]) (N1) 30 vp := fB3.row vp
      have gD : DF (wp.setRow (N1) #[vp]) D := fB5.rowOther (by omega)
      have ghb : Below w.heap.size w (wp.setRow (N1) #[vp]) := zr fhb (by omega) _
      obtain ⟨WN, hWN⟩ : ∃ v : World, v = (wp.setRow (N1) #[vp]) := ⟨_, rfl⟩
      rw [← hWN] at gS g7 gD ghb ⊢
      clear hWN
      clear B0 B1 B2 B3 B4 B5 hb eB0 eB1 eB2 eB3 eB4 eB5 ehb hps fB3 fB5 fhb
      have B3 := g7
      have B4 := gS
      have B5 := gD
      have hb := ghb
      clear g7 gS gD ghb
      go_wp2_with (first | (refine zlo rfl 30 (.tmp 7) rfl _ rfl 30 vp B3 _ Try.underlying30 rfl ?_))
      have fin := B5
      refine ⟨by simp, .inl ⟨_, _, rfl, run_takeDeferred (show WN.heap[D]? = some (.deferred (some [])) from fin), ?_⟩⟩
      have hg := grownBy_putObj' WN D (.deferred none)
      refine ⟨_, results_tmp rfl _ _ _, vp, rfl, ?_, hb.grown hg hb.size (fun k e => by cases e; omega)⟩
      have hs := (B4.1.grownN hg (fun r e => by cases e; exact ⟨_, fin, rfl⟩)).base lw
      rw [HF.out]
      exact hs
  · have hq : ((deg X) == (n : Int)) = false := beq_eq_false_iff_ne.2 hd
    have HF := Lib.hid (show eqf p n (monL p n) f = LL by rw [eqf_eqS, HE.out]; show LL ++ (if deg X = (n : Int) then _ else _) = LL; rw [if_neg hd, List.append_nil])
    clear hd
    go_upto_region 9 with (fail)
    refine zq Try.mixed (by kernel_rfl) (by kernel_rfl) (fun v => by (simp only [frL, Act.put, pA, pB, pC, Nat.reduceAdd, Nat.zero_add]; exact rfl))
     (fun L v W3 => Below W.heap.size W W3 ∧ VF L v [some (.agg (zb 64 (X))), some (.int .i64 (deg X)), some (.int .i64 (n : Int)), some (.bool false)]) ?_ ?_ ?_
    · intro v hv0
      exact ⟨(Below.refl _ W).drew, VF.start⟩
    · refine (.cons rfl ?_ (.cons rfl ?_ (.cons rfl ?_ (.cons rfl ?_ (.nil _)))))
      all_goals intro L v W3 hd hn ⟨hY, V⟩ K hK
      · refine zlc (B1.zw hY) Try.underlying28 Try.size28 ?_
        exact hK _ _ _ rfl ⟨hY, V.step 0 rfl⟩
      · have e0 := V.at (zdq hd 0 rfl) rfl
        go_wp2_with (go_at_call 77; refine (degree_any X _).mono ?_; rintro e wy ⟨rfl, hy⟩)
        exact hK _ (.int .i64 (deg X)) _ (by simp only [Act.put, pA, pB, pC, e0]) ⟨hY.trans (hy.mono hY.size), V.step 1 rfl⟩
      · refine wp_load_one 3 _ rfl _ rfl 3 _ (B2.zw hY) _ Try.underlying3 rfl ?_
        exact hK _ _ _ rfl ⟨hY, V.step 2 rfl⟩
      · have e1 := V.at (zdq hd 1 rfl) rfl
        have e2 := V.at (zdq hd 2 rfl) rfl
        go_wp2_with fail
        exact hK _ (.bool false) _ (by simp only [Act.put, pA, pB, pC, e1, e2]) ⟨hY, V.step 3 rfl⟩
    · intro L v W3 hL ⟨hY, V⟩
      have e0 := V.at (hL 0 (by decide)) rfl
      have e1 := V.at (hL 1 (by decide)) rfl
      have e2 := V.at (hL 2 (by decide)) rfl
      have e3 := V.at (hL 3 (by decide)) rfl
      clear hL V
      replace B0 := B0.zw hY
      replace B1 := B1.zw hY
      replace B2 := B2.zw hY
      replace B3 := B3.zw hY
      replace B4 := B4.zw hY
      replace B5 := B5.zw hY
      replace hb := hb.trans (hY.mono hb.size)
      clear hY
      simp only [Exit.then, e0, e1, e2, e3]
      clear e0 e1 e2 e3
      go_wp2_with (first | (refine zlo rfl 30 (.tmp 7) rfl _ rfl 30 vv B3 _ Try.underlying30 rfl ?_))
      have fin := B5
      refine ⟨by simp, .inl ⟨_, _, rfl, run_takeDeferred (show W3.heap[D]? = some (.deferred (some [])) from fin), ?_⟩⟩
      have hg := grownBy_putObj' W3 D (.deferred none)
      refine ⟨_, results_tmp rfl _ _ _, vv, rfl, ?_, hb.grown hg hb.size (fun k e => by cases e; omega)⟩
      have hs := (B4.1.grownN hg (fun r e => by cases e; exact ⟨_, fin, rfl⟩)).base lw
      rw [HF.out]
      exact hs
 case stop =>
  rintro D c ys W hD hS ⟨rfl, hi, hle⟩ hK
  have hE : eqS p n (monL p n) f = eqS p n (vals ys) f := by obtain ⟨z, hz⟩ := (show vals ys <+: monL p n from hS); rw [← hz]; exact eqS_more (vals ys) z hle
  clear hS hle
  refine wpIn_exit ?_
  unfold EqI at hi
  obtain ⟨LL, X, hLX⟩ : ∃ LL X, eqS p n (vals ys) f = (LL, X) := ⟨_, _, rfl⟩
  rw [hLX] at hi hE
  dsimp only at hi
  have B5 : DF W D := hK
  obtain ⟨B0, B1, B2, ⟨vv, B3, B4⟩, _, _, _, hb⟩ := hi
  replace B4 := B4.top
  have lX : ∀ k, k < 64 → X k < p := by have := eqS_lt (n := n) p0 (monL p n) f lf; rw [hE] at this; exact this
  have hLen2 : LL.length ≤ 13841287201 := by
   have := eqS_len (p := p) (n := n) (monL p n) f
   rw [hE] at this
   have h2 : (monL p n).length = p ^ n := by unfold monL; simp
   have h3 := mon_bound p7 hn
   have h4 : LL.length ≤ (monL p n).length := this
   omega
  have HX := Lib.hid lX
  have HE := Lib.hid hE
  clear hE hLX lX lf hK
  by_cases hd : deg X = (n : Int)
  · have hq : ((deg X) == (n : Int)) = true := beq_iff_eq.2 hd
    have HF := Lib.hid (show polRows p (eqf p n (monL p n) f) = polRows p LL ++ [bl 64 X] by rw [eqf_eqS, HE.out]; show polRows p (LL ++ (if deg X = (n : Int) then _ else _)) = _; rw [if_pos hd, polRows_snoc]; congr 2; unfold bl; exact List.map_congr_left (fun i hi => by rw [vl_back p2 HX.out hd i (by simpa using hi)]))
    clear hd
    go_upto_region 9 with (fail)
    refine zq Try.mixed (by kernel_rfl) (by kernel_rfl) (fun v => by (simp only [frL, Act.put, pA, pB, pC, Nat.reduceAdd, Nat.zero_add]; exact rfl))
     (fun L v W3 => Below W.heap.size W W3 ∧ VF L v [some (.agg (zb 64 (X))), some (.int .i64 (deg X)), some (.int .i64 (n : Int)), some (.bool true)]) ?_ ?_ ?_
    · intro v hv0
      exact ⟨(Below.refl _ W).drew, VF.start⟩
    · refine (.cons rfl ?_ (.cons rfl ?_ (.cons rfl ?_ (.cons rfl ?_ (.nil _)))))
      all_goals intro L v W3 hd hn ⟨hY, V⟩ K hK
      · refine zlc (B1.zw hY) Try.underlying28 Try.size28 ?_
        exact hK _ _ _ rfl ⟨hY, V.step 0 rfl⟩
      · have e0 := V.at (zdq hd 0 rfl) rfl
        go_wp2_with (go_at_call 77; refine (degree_any X _).mono ?_; rintro e wy ⟨rfl, hy⟩)
        exact hK _ (.int .i64 (deg X)) _ (by simp only [Act.put, pA, pB, pC, e0]) ⟨hY.trans (hy.mono hY.size), V.step 1 rfl⟩
      · refine wp_load_one 3 _ rfl _ rfl 3 _ (B2.zw hY) _ Try.underlying3 rfl ?_
        exact hK _ _ _ rfl ⟨hY, V.step 2 rfl⟩
      · have e1 := V.at (zdq hd 1 rfl) rfl
        have e2 := V.at (zdq hd 2 rfl) rfl
        go_wp2_with fail
        exact hK _ (.bool true) _ (by simp only [Act.put, pA, pB, pC, e1, e2]) ⟨hY, V.step 3 rfl⟩
    · intro L v W3 hL ⟨hY, V⟩
      have e0 := V.at (hL 0 (by decide)) rfl
      have e1 := V.at (hL 1 (by decide)) rfl
      have e2 := V.at (hL 2 (by decide)) rfl
      have e3 := V.at (hL 3 (by decide)) rfl
      clear hL V
      replace B0 := B0.zw hY
      replace B1 := B1.zw hY
      replace B2 := B2.zw hY
      replace B3 := B3.zw hY
      replace B4 := B4.zw hY
      replace B5 := B5.zw hY
      replace hb := hb.trans (hY.mono hb.size)
      clear hY
      simp only [Exit.then, e0, e1, e2, e3]
      clear e0 e1 e2 e3
      have lu_0 := B0.lt
      have lu_1 := B1.lt
      have lu_2 := B2.lt
      have lu_3 := B3.lt
      have lu_4 := B4.lt
      have lu_5 := B5.lt
      go_upto_region 11 with (first | (refine zlo rfl 30 (.tmp 7) rfl _ rfl 30 vv B3 _ Try.underlying30 rfl ?_) | (refine zla (.tmp 4) B1 Try.underlying28 Try.size28 ?_) | (refine wpList_build_polys rfl 30 _ [X] rfl 28 rfl Try.underlying30 Try.elem28 (by simp) (by simp) rfl ?_; intro wa hwa hps hba; clear hwa; have eB0 := B0.zw hba; have eB1 := B1.zw hba; have eB2 := B2.zw hba; have eB3 := B3.zw hba; have eB4 := B4.zw hba; have eB5 := B5.zw hba; have ehb := hb.trans (hba.mono hb.size)) | (at_builtin; refine wpList_append_sl _ rfl _ _ 30 rfl WM.heap.size 28 (.agg (zb 64 fun _ => 0)) 64 64 Try.underlying30 Try.infoPoly (by simp [Value.cells, bl]) (by decide) vv _ rfl eB4.1 W3.heap.size (bl 64 X) rfl (zl _ _) (by have := hps.range (i := 0) (f := X) rfl; rwa [Nat.zero_mul] at this) bl_one (by rw [polRows_len]; unfold maxLen; omega) (by rw [polRows_len]; omega) ?_; intro vp wp hSp hg1; have fB3 := eB3.grownO hg1 (eB4.1.own) (base := WM.heap.size) (by omega); have fB5 := eB5.grown hg1 (fun r e => by obtain ⟨cur, hc⟩ := eB4.1.ownCells r e; exact ⟨cur, _, _, hc⟩); have fhb := ehb.grown hg1 ehb.size (fun k e => Nat.le_trans lw (eB4.1.own k e))) | (refine wpList_store_oneV rfl 30 (.tmp 7) (.tmp 41) rfl _ rfl vp rfl hSp.one 30 vv fB3 Try.sizeSl ?_; go_upto_region 11 with (fail)))
      have fl : WM.heap.size ≤ wp.heap.size := hSp.lt
      have gS : SlT (wp.setRow (N1) #[vp]) WM.heap.size wp.heap.size 28 64 vp (polRows p LL ++ [bl 64 X]) := hSp.top.rowOther (.inl (by omega))
      have g7 : One (wp.setRow (N1) #[vp]) (N1) 30 vp := fB3.row vp
      have gD : DF (wp.setRow (N1) #[vp]) D := fB5.rowOther (by omega)
      have ghb : Below w.heap.size w (wp.setRow (N1) #[vp]) := zr fhb (by omega) _
      obtain ⟨WN, hWN⟩ : ∃ v : World, v = (wp.setRow (N1) #[vp]) := ⟨_, rfl⟩
      rw [← hWN] at gS g7 gD ghb ⊢
      clear hWN
      clear B0 B1 B2 B3 B4 B5 hb eB0 eB1 eB2 eB3 eB4 eB5 ehb hps fB3 fB5 fhb
      have B3 := g7
      have B4 := gS
      have B5 := gD
      have hb := ghb
      clear g7 gS gD ghb
      go_wp2_with (first | (refine zlo rfl 30 (.tmp 7) rfl _ rfl 30 vp B3 _ Try.underlying30 rfl ?_))
      have fin := B5
      refine ⟨by simp, .inl ⟨_, _, rfl, run_takeDeferred (show WN.heap[D]? = some (.deferred (some [])) from fin), ?_⟩⟩
      have hg := grownBy_putObj' WN D (.deferred none)
      refine ⟨_, results_tmp rfl _ _ _, vp, rfl, ?_, hb.grown hg hb.size (fun k e => by cases e; omega)⟩
      have hs := (B4.1.grownN hg (fun r e => by cases e; exact ⟨_, fin, rfl⟩)).base lw
      rw [HF.out]
      exact hs
  · have hq : ((deg X) == (n : Int)) = false := beq_eq_false_iff_ne.2 hd
    have HF := Lib.hid (show eqf p n (monL p n) f = LL by rw [eqf_eqS, HE.out]; show LL ++ (if deg X = (n : Int) then _ else _) = LL; rw [if_neg hd, List.append_nil])
    clear hd
    go_upto_region 9 with (fail)
    refine zq Try.mixed (by kernel_rfl) (by kernel_rfl) (fun v => by (simp only [frL, Act.put, pA, pB, pC, Nat.reduceAdd, Nat.zero_add]; exact rfl))
     (fun L v W3 => Below W.heap.size W W3 ∧ VF L v [some (.agg (zb 64 (X))), some (.int .i64 (deg X)), some (.int .i64 (n : Int)), some (.bool false)]) ?_ ?_ ?_
    · intro v hv0
      exact ⟨(Below.refl _ W).drew, VF.start⟩
    · refine (.cons rfl ?_ (.cons rfl ?_ (.cons rfl ?_ (.cons rfl ?_ (.nil _)))))
      all_goals intro L v W3 hd hn ⟨hY, V⟩ K hK
      · refine zlc (B1.zw hY) Try.underlying28 Try.size28 ?_
        exact hK _ _ _ rfl ⟨hY, V.step 0 rfl⟩
      · have e0 := V.at (zdq hd 0 rfl) rfl
        go_wp2_with (go_at_call 77; refine (degree_any X _).mono ?_; rintro e wy ⟨rfl, hy⟩)
        exact hK _ (.int .i64 (deg X)) _ (by simp only [Act.put, pA, pB, pC, e0]) ⟨hY.trans (hy.mono hY.size), V.step 1 rfl⟩
      · refine wp_load_one 3 _ rfl _ rfl 3 _ (B2.zw hY) _ Try.underlying3 rfl ?_
        exact hK _ _ _ rfl ⟨hY, V.step 2 rfl⟩
      · have e1 := V.at (zdq hd 1 rfl) rfl
        have e2 := V.at (zdq hd 2 rfl) rfl
        go_wp2_with fail
        exact hK _ (.bool false) _ (by simp only [Act.put, pA, pB, pC, e1, e2]) ⟨hY, V.step 3 rfl⟩
    · intro L v W3 hL ⟨hY, V⟩
      have e0 := V.at (hL 0 (by decide)) rfl
      have e1 := V.at (hL 1 (by decide)) rfl
      have e2 := V.at (hL 2 (by decide)) rfl
      have e3 := V.at (hL 3 (by decide)) rfl
      clear hL V
      replace B0 := B0.zw hY
      replace B1 := B1.zw hY
      replace B2 := B2.zw hY
      replace B3 := B3.zw hY
      replace B4 := B4.zw hY
      replace B5 := B5.zw hY
      replace hb := hb.trans (hY.mono hb.size)
      clear hY
      simp only [Exit.then, e0, e1, e2, e3]
      clear e0 e1 e2 e3
      go_wp2_with (first | (refine zlo rfl 30 (.tmp 7) rfl _ rfl 30 vv B3 _ Try.underlying30 rfl ?_))
      have fin := B5
      refine ⟨by simp, .inl ⟨_, _, rfl, run_takeDeferred (show W3.heap[D]? = some (.deferred (some [])) from fin), ?_⟩⟩
      have hg := grownBy_putObj' W3 D (.deferred none)
      refine ⟨_, results_tmp rfl _ _ _, vv, rfl, ?_, hb.grown hg hb.size (fun k e => by cases e; omega)⟩
      have hs := (B4.1.grownN hg (fun r e => by cases e; exact ⟨_, fin, rfl⟩)).base lw
      rw [HF.out]
      exact hs
end Go.Proofs.Ytelgefgphhebnaa
end
