/-
  Plain mathematics of powers by squares, for any product.
  Maps keyed by arrays that the call itself makes: the block's entries as a list, with laws for the operations.
  Polynomials as keys of maps.
  Walks: the program's powers modulo a polynomial: the closure, and the powers by squares with a map of squares.
  Walks: powers modulo a polynomial behind their checks.
-/
import Derived.Test.YtbjpkmbhbpcbgaaMa
import Derived.Test.YtbjpkmbhbpcbgaaPol
import Derived.Maps.OwnOps
import Derived.DeepKeys4
import Derived.Carry
import Derived.Test.YtbjpkmbhbpcbgaaProg
import Derived.Test.YtbjpkmbhbpcbgaaW33
namespace Go.Proofs.Ytbjpkmbhbpcbgaa
open Go.RowKit
/-- squares and products, at most f more rounds -/
def pgR (mul : (Nat → Nat) → (Nat → Nat) → (Nat → Nat)) : Nat → Nat → (Nat → Nat) → (Nat → Nat) → (Nat → Nat)
  | 0, _, o, _ => o
  | f + 1, k, o, s => if k = 0 then o else pgR mul f (k / 2) (if k % 2 = 1 then mul o s else o) (mul s s)
theorem pgR_z {mul : (Nat → Nat) → (Nat → Nat) → (Nat → Nat)} {f : Nat} {o s : Nat → Nat} : pgR mul f 0 o s = o := by cases f <;> simp [pgR]
theorem pgR_odd {mul : (Nat → Nat) → (Nat → Nat) → (Nat → Nat)} {f k : Nat} {o s : Nat → Nat} (h0 : k ≠ 0) (h : k % 2 = 1) : pgR mul (f + 1) k o s = pgR mul f (k / 2) (mul o s) (mul s s) := by rw [pgR, if_neg h0, if_pos h]
theorem pgR_even {mul : (Nat → Nat) → (Nat → Nat) → (Nat → Nat)} {f k : Nat} {o s : Nat → Nat} (h0 : k ≠ 0) (h : ¬ k % 2 = 1) : pgR mul (f + 1) k o s = pgR mul f (k / 2) o (mul s s) := by rw [pgR, if_neg h0, if_neg h]
/-- the last round wants no square -/
theorem pgR_one {mul : (Nat → Nat) → (Nat → Nat) → (Nat → Nat)} {f : Nat} {o s : Nat → Nat} : pgR mul (f + 1) 1 o s = mul o s := by
  rw [pgR_odd (by decide) (by decide)]
  exact pgR_z
/-- the power's residue, if the product is one modulo m -/
theorem pgR_rm {p : Nat} {m : Nat → Nat} {mul : (Nat → Nat) → (Nat → Nat) → (Nat → Nat)} (hM : ∀ x y, rm p (lz m) (mz (lz x) (lz y)) (lz (mul x y))) : ∀ (f k : Nat) (o s : Nat → Nat), k < 2 ^ f → rm p (lz m) (lz (pgR mul f k o s)) (mz (lz o) (pwz (lz s) k))
  | 0, k, o, s, hk => by
    rw [Nat.pow_zero] at hk
    obtain rfl : k = 0 := by omega
    have : mz (lz o) (pwz (lz s) 0) = lz o := by rw [mz_comm]; exact mz_one _
    rw [this]; exact rm_refl _ _ _
  | f + 1, k, o, s, hk => by
    by_cases hz : k = 0
    · subst hz
      rw [pgR_z]
      have : mz (lz o) (pwz (lz s) 0) = lz o := by rw [mz_comm]; exact mz_one _
      rw [this]; exact rm_refl _ _ _
    · have hk2 : k / 2 < 2 ^ f := by rw [Nat.pow_succ] at hk; omega
      have sq : rm p (lz m) (pwz (lz (mul s s)) (k / 2)) (pwz (lz s) (2 * (k / 2))) := by
        rw [pwz_two]
        exact rm_symm (rm_pwz (fin_mz (fin_lz s) (fin_lz s)) (fin_lz _) (hM s s) _)
      by_cases ho2 : k % 2 = 1
      · rw [pgR_odd hz ho2]
        refine rm_trans (pgR_rm hM f (k / 2) (mul o s) (mul s s) hk2) ?_
        have e : mz (lz o) (pwz (lz s) k) = mz (mz (lz o) (lz s)) (pwz (lz s) (2 * (k / 2))) := by
          have : k = 2 * (k / 2) + 1 := by omega
          conv => lhs; rw [this]
          show mz (lz o) (mz (pwz (lz s) (2 * (k / 2))) (lz s)) = _
          rw [mz_comm (pwz (lz s) (2 * (k / 2))), ← mz_assoc]
        rw [e]
        exact rm_mz2 (fin_pwz (fin_lz _) _) (fin_mz (fin_lz o) (fin_lz s)) (rm_symm (hM o s)) sq
      · rw [pgR_even hz ho2]
        refine rm_trans (pgR_rm hM f (k / 2) o (mul s s) hk2) ?_
        have e : k = 2 * (k / 2) := by omega
        conv => rhs; rw [e]
        exact rm_mz2 (fin_pwz (fin_lz _) _) (fin_lz o) (rm_refl _ _ _) sq
theorem pgR_lt {p : Nat} {mul : (Nat → Nat) → (Nat → Nat) → (Nat → Nat)} (hM : ∀ x y i, i < 64 → mul x y i < p) : ∀ (f k : Nat) (o s : Nat → Nat), (∀ i, i < 64 → o i < p) → ∀ i, i < 64 → pgR mul f k o s i < p
  | 0, _, _, _, ho => ho
  | f + 1, k, o, s, ho => by
    by_cases hz : k = 0
    · subst hz; rw [pgR_z]; exact ho
    · by_cases h2 : k % 2 = 1
      · rw [pgR_odd hz h2]; exact pgR_lt hM f _ _ _ (hM o s)
      · rw [pgR_even hz h2]; exact pgR_lt hM f _ _ _ ho
theorem cut_cut (f : Nat → Nat) : cut (cut f) = cut f := by funext i; unfold cut; split <;> rfl
theorem lz_cut (f : Nat → Nat) : lz (cut f) = lz f := by unfold lz; rw [cut_cut]
theorem cut_eq {f g : Nat → Nat} (h : ∀ i, i < 64 → f i = g i) : cut f = cut g := by
  funext i; unfold cut
  split
  · rename_i hi; exact h i hi
  · rfl
theorem bcells_cut (f : Nat → Nat) : bcells 64 (cut f) = bcells 64 f := by unfold bcells; rw [bl_cut]
/-- the program's product modulo m, of what the arrays hold -/
def mmC (p : Nat) (m x y : Nat → Nat) : Nat → Nat := mmP p (cut x) (cut y) m
/-- the program's power modulo m -/
def pmI (p : Nat) (a : Nat → Nat) (k : Nat) (m : Nat → Nat) : Nat → Nat := resP p (pgR (mmC p m) 64 k oneP a) m
theorem mmC_lt {p : Nat} (hp : 0 < p) (m x y : Nat → Nat) (i : Nat) (hi : i < 64) : mmC p m x y i < p := mmP_lt hp i (by omega)
theorem pmI_lt {p : Nat} (hp : 2 ≤ p) {a m : Nat → Nat} {k : Nat} (i : Nat) (hi : i < 64) : pmI p a k m i < p :=
  resP_lt (by omega) (pgR_lt (mmC_lt (by omega) m) 64 k oneP a (fun i _ => by unfold oneP; split <;> omega)) i hi
theorem pmI_spec {p k : Nat} {a m : Nat → Nat} (hp : p = 2 ∨ p = 3 ∨ p = 5 ∨ p = 7) (hm : ∀ k, k < 64 → m k < p) (h0 : 0 ≤ deg m) (hk : k < 2 ^ 64) :
    deg (pmI p a k m) < deg m ∧ rm p (lz m) (lz (pmI p a k m)) (pwz (lz a) k) := by
  have hp0 : 0 < p := by omega
  have h1 : ∀ i, i < 64 → pgR (mmC p m) 64 k oneP a i < p := pgR_lt (mmC_lt hp0 m) 64 k oneP a (fun i _ => by unfold oneP; split <;> omega)
  refine ⟨(resP_deg hp h1 hm h0).1, ?_⟩
  unfold pmI
  refine rm_trans (rm_symm (res_rm hp h1 hm h0)) ?_
  have := pgR_rm (p := p) (m := m) (mul := mmC p m) (fun x y => by
    have := mmP_rm (a := cut x) (b := cut y) hp hm h0
    rw [lz_cut, lz_cut] at this
    exact this) 64 k oneP a hk
  rw [one_lz] at this
  have e3 : mz oneS (pwz (lz a) k) = pwz (lz a) k := mz_one _
  rwa [e3] at this
/-- residues are told by their class -/
theorem res_sameN {p : Nat} {a b m : Nat → Nat} (hp : p = 2 ∨ p = 3 ∨ p = 5 ∨ p = 7) (ha : ∀ k, k < 64 → a k < p) (hb : ∀ k, k < 64 → b k < p) (hm : ∀ k, k < 64 → m k < p) (h0 : 0 ≤ deg m) (h1 : deg a < deg m) (h2 : deg b < deg m) (h : rm p (lz m) (lz a) (lz b)) : ∀ k, k < 64 → a k = b k := by
  have hp0 : 0 < p := by omega
  obtain ⟨d, hd⟩ : ∃ d : Nat, deg m = (d : Int) := ⟨(deg m).toNat, by omega⟩
  obtain ⟨d6, m2, m3⟩ := deg_top hd
  obtain ⟨_, _, iv3, _⟩ := invF hp m2 (hm d d6)
  have low : ∀ (f : Nat → Nat), deg f < (d : Int) → ∀ k, d ≤ k → lz f k = 0 := by
    intro f hf k hk
    unfold lz
    by_cases hk2 : k < 64
    · rw [cut_in _ hk2, zero_above (f := f) (k := k) (by omega) hk2]; rfl
    · rw [cut_zero _ (by omega)]; rfl
  have hu := rm_unique (d := d) (v := (invN p (m d) : Int)) (m := lz m) (f := lz a) (g := lz b) (p := p) (by
    unfold lz; rw [cut_in m d6]
    have := mod_dvd p (invN p (m d) * m d)
    rw [iv3] at this
    obtain ⟨x, hx⟩ := this
    rw [Int.natCast_mul, Int.mul_comm] at hx
    exact ⟨-x, by rw [Int.mul_neg]; omega⟩) (fun k hk => lz_above hd hk) (fun k hk => by
    rw [low _ (by omega) k hk, low _ (by omega) k hk]; exact ⟨0, by omega⟩) h
  exact lz_inj ha hb hu
end Go.Proofs.Ytbjpkmbhbpcbgaa
namespace Go.Proofs.Ytbjpkmbhbpcbgaa
open Go Go.RowKit Go.ChangeMaps
open Go.Maps (Keyed)
/-- block b is a map with the entries L, keys of type k -/
def MapG (P : Program) (k : TypeId) (w : World) (b : Nat) (L : List (Value × Value)) : Prop :=
  ∃ es clock, w.heap[b]? = some (.map es clock) ∧ es.toList.map (fun e => (e.key, e.val)) = L ∧ ∀ e ∈ es.toList, ∃ l, keyOf P k e.key = some l
theorem MapG.lt {P : Program} {k : TypeId} {w : World} {b : Nat} {L : List (Value × Value)} (h : MapG P k w b L) : b < w.heap.size := by
  obtain ⟨es, clock, hb, _⟩ := h
  exact (Array.getElem?_eq_some_iff.1 hb).1
theorem MapG.new (P : Program) (k : TypeId) (w : World) : MapG P k (w.alloc (.map #[] 0)) w.heap.size [] := ⟨#[], 0, (MapKept.heap_alloc w _).1, rfl, by simp⟩
theorem MapG.of {P : Program} {k : TypeId} {w w' : World} {b : Nat} {L : List (Value × Value)} (h : MapG P k w b L) (e : w'.heap[b]? = w.heap[b]?) : MapG P k w' b L := by
  obtain ⟨es, clock, hb, r⟩ := h
  exact ⟨es, clock, e.trans hb, r⟩
theorem MapG.alloc {P : Program} {k : TypeId} {w : World} {b : Nat} {L : List (Value × Value)} (h : MapG P k w b L) (o : Obj) : MapG P k (w.alloc o) b L := h.of (Below.heap_alloc _ _ _ h.lt)
theorem MapG.drew {P : Program} {k : TypeId} {w : World} {b : Nat} {L : List (Value × Value)} (h : MapG P k w b L) : MapG P k w.drew b L := h
theorem MapG.below {P : Program} {k : TypeId} {w w' : World} {B b : Nat} {L : List (Value × Value)} (h : MapG P k w b L) (hb : Below B w w') (e : b < B) : MapG P k w' b L := h.of (hb.block b e)
theorem MapG.setOther {P : Program} {k : TypeId} {w : World} {b : Nat} {L : List (Value × Value)} (h : MapG P k w b L) {a : Addr} {v : Value} (e : b ≠ a.block) : MapG P k (w.setCell a v) b L := h.of (heap_setCell_other _ _ _ _ e)
theorem MapG.rowOther {P : Program} {k : TypeId} {w : World} {b : Nat} {L : List (Value × Value)} (h : MapG P k w b L) {j : Nat} {cs : Array Value} (e : b ≠ j) : MapG P k (w.setRow j cs) b L := h.of (setRow_other _ _ _ _ e)
/-- block b is one cell that holds v -/
def One (w : World) (b : Nat) (t : TypeId) (v : Value) : Prop := w.heap[b]? = some (.cells #[v] t (0, 0))
theorem One.new (w : World) (t : TypeId) (v : Value) : One (w.alloc (.cells #[v] t)) w.heap.size t v := heap_alloc_last w _
theorem One.lt {w : World} {b : Nat} {t : TypeId} {v : Value} (h : One w b t v) : b < w.heap.size := by
  unfold One at h
  exact (Array.getElem?_eq_some_iff.1 h).1
theorem One.cell {w : World} {b : Nat} {t : TypeId} {v : Value} (h : One w b t v) : w.cell? ⟨b, 0, none⟩ = some v := by
  rw [cell_of_row _ _ _ _ _ _ h]; rfl
theorem One.frozen {w : World} {b : Nat} {t : TypeId} {v : Value} (h : One w b t v) (i : Nat) : w.frozen? ⟨b, i, none⟩ = false := frozen_of_row _ _ _ _ _ h
theorem One.of {w w' : World} {b : Nat} {t : TypeId} {v : Value} (h : One w b t v) (e : w'.heap[b]? = w.heap[b]?) : One w' b t v := by unfold One at *; rw [e]; exact h
theorem One.alloc {w : World} {b : Nat} {t : TypeId} {v : Value} (h : One w b t v) (o : Obj) : One (w.alloc o) b t v := h.of (Below.heap_alloc _ _ _ h.lt)
theorem One.drew {w : World} {b : Nat} {t : TypeId} {v : Value} (h : One w b t v) : One w.drew b t v := h
theorem One.below {w w' : World} {B b : Nat} {t : TypeId} {v : Value} (h : One w b t v) (hb : Below B w w') (e : b < B) : One w' b t v := h.of (hb.block b e)
theorem One.setOther {w : World} {b : Nat} {t : TypeId} {v x : Value} (h : One w b t v) {a : Addr} (e : b ≠ a.block) : One (w.setCell a x) b t v := h.of (heap_setCell_other _ _ _ _ e)
theorem One.rowOther {w : World} {b : Nat} {t : TypeId} {v : Value} (h : One w b t v) {j : Nat} {cs : Array Value} (e : b ≠ j) : One (w.setRow j cs) b t v := h.of (setRow_other _ _ _ _ e)
theorem One.grown {w w' : World} {b j : Nat} {t : TypeId} {v : Value} (h : One w b t v) (hg : w.grownBy w' (some j)) (e : b ≠ j) : One w' b t v := h.of (hg.block b h.lt (fun x => e (by cases x; rfl)))
theorem wp_load_one {P : Program} {o : Oper} {a : Act} {w : World} {K : Act → World → Prop} {Q : Exit → Act → World → Prop} (ty : TypeId) (x : Operand) (ho : o.op = .load ty x)
    (b : Nat) (hx : a.eval x = .pointer (some ⟨b, 0, none⟩)) (t : TypeId) (v : Value) (hb : One w b t v) (d : TypeDesc)
    (hu : P.underlying ty = some d) (hd : (match d with | .struct _ | .array _ _ => true | _ => false) = false) (h : K (a.put o.dst v) w) : o.wp P a w K Q := by
  have hc := hb.cell
  have hagg : (isAgg ty).run P w = .ok false w := by
    unfold isAgg
    rw [Sem.run_bind, run_underlying hu w]
    cases d <;> simp_all
  unfold Oper.wp execOp
  simp only [ho, hx, Instr.loadAt, Instr.sureAddr, Sem.run_bind, Sem.run_pure, Result.andThen_ok, loadVar, hagg, Bool.false_eq_true, if_false, Sem.run_ite, run_load, hc]
  exact h
theorem wpList_load_one {P : Program} {ops : Array Oper} {rest : List Oper} {o : Oper} {a : Act} {w : World} {Q : Exit → Act → World → Prop} (hgd : o.guard = none) (ty : TypeId) (x : Operand) (ho : o.op = .load ty x)
    (b : Nat) (hx : a.eval x = .pointer (some ⟨b, 0, none⟩)) (t : TypeId) (v : Value) (hb : One w b t v) (d : TypeDesc)
    (hu : P.underlying ty = some d) (hd : (match d with | .struct _ | .array _ _ => true | _ => false) = false) (h : wpList P ops Q rest (a.put o.dst v) w) : wpList P ops Q (o :: rest) a w :=
  wpList_plain hgd fun _ hK => wp_load_one ty x ho b hx t v hb d hu hd (hK _ _ h)
/-- the look-up at a key -/
theorem MapG.look {P : Program} {k e t : TypeId} (K : Keyed P k) (ht : P.underlying t = some (.map k e)) {w : World} {b : Nat} {L : List (Value × Value)} (h : MapG P k w b L) {z : Value} (hz : (zeroValue e).run P w = .ok z w) (c : Bool) {key : Value} {kl : Lit} (hkey : keyOf P k key = some kl) :
    ((Instr.lookup t (.map (some b)) key c).run P w = .ok (if c then .tuple #[z, .bool false] else z) w ∧ ∀ q ∈ L, q.1 ≠ key) ∨
    ∃ v, (key, v) ∈ L ∧ (Instr.lookup t (.map (some b)) key c).run P w = .ok (if c then .tuple #[v, .bool true] else v) w := by
  obtain ⟨es, clock, hb, rfl, hr⟩ := h
  rcases K.find w hkey es.toList hr with ⟨h1, h2⟩ | ⟨j, e0, h1, h2, h3⟩
  · refine .inl ⟨by simp [Instr.lookup, run_underlying ht, MapKept.run_getObj_map hb, K.check w _ hkey, h1, hz, Result.andThen], ?_⟩
    intro q hq
    obtain ⟨e, he, rfl⟩ := List.mem_map.1 hq
    exact h2 e he
  · refine .inr ⟨e0.val, ?_, by simp [Instr.lookup, run_underlying ht, MapKept.run_getObj_map hb, K.check w _ hkey, h1, Result.andThen]⟩
    exact List.mem_map.2 ⟨e0, List.mem_of_getElem? h2, by rw [h3]⟩
/-- a new key -/
theorem MapG.put {P : Program} {k e t : TypeId} (K : Keyed P k) (ht : P.underlying t = some (.map k e)) {w : World} {b : Nat} {L : List (Value × Value)} (h : MapG P k w b L) {key val : Value} {kl : Lit} (hkey : keyOf P k key = some kl) (hn : ∀ q ∈ L, q.1 ≠ key) :
    ∃ w', (Instr.mapUpdate t (.map (some b)) key val).run P w = .ok () w' ∧ MapG P k w' b (L ++ [(key, val)]) ∧ w.grownBy w' (some b) := by
  obtain ⟨es, clock, hb, rfl, hr⟩ := h
  rcases K.find w hkey es.toList hr with ⟨h1, h2⟩ | ⟨j, e0, h1, h2, h3⟩
  · refine ⟨setBlock w b (.map (es.push ⟨key, val, clock⟩) (clock + 1)), ?_, ⟨_, _, heap_setBlock_same hb _, by simp, ?_⟩, ⟨rfl, rfl, rfl, by simp [setBlock], fun i _ hi => heap_setBlock_other hb _ (fun e => hi (by rw [e]))⟩⟩
    · simp [Instr.mapUpdate, run_underlying ht, MapKept.run_getObj_map hb, K.check w false hkey, h1, MapKept.run_setObj_map _ hb, Result.andThen, setBlock]
    · intro x hx
      simp only [Array.toList_push, List.mem_append, List.mem_singleton] at hx
      rcases hx with hx | rfl
      · exact hr x hx
      · exact ⟨_, hkey⟩
  · exact absurd h3 (hn (e0.key, e0.val) (List.mem_map.2 ⟨e0, List.mem_of_getElem? h2, rfl⟩))
theorem mapM_ex {α β : Type} (f : α → Option β) : ∀ l : List α, (∀ x ∈ l, ∃ y, f x = some y) → ∃ ys, l.mapM f = some ys
  | [], _ => ⟨[], rfl⟩
  | a :: l, h => by
    obtain ⟨y, hy⟩ := h a (by simp)
    obtain ⟨ys, hys⟩ := mapM_ex f l fun x hx => h x (by simp [hx])
    exact ⟨y :: ys, by simp [List.mapM_cons, hy, hys]⟩
/-- an array of bytes is a key -/
theorem keyOf_bytes {P : Program} {k u : TypeId} {n : Nat} (hk : P.underlying k = some (.array n u)) (hu : P.underlying u = some (.int .u8)) (hc : P.cellsOf k = n) (hc1 : P.cellsOf u = 1) (hkt : P.keyType k = true) (hsz : 0 < P.types.size)
    {f : Nat → Nat} (hf : ∀ i, i < n → f i < 256) : ∃ l, keyOf P k (.agg (bcells n f)) = some l := by
  obtain ⟨d, hd⟩ : ∃ d, P.types.size = d + 1 := ⟨P.types.size - 1, by omega⟩
  have hform : (Value.agg (bcells n f)).formed P k = true := by simp [Value.formed, hk, hc, bl]
  have hlen : (Value.agg (bcells n f)).cells.toList.length = P.cellsOf k := by simp [Value.cells, bl, hc]
  obtain ⟨ys, hys⟩ := mapM_ex (fun i => P.keyLits (d + 1) u (((Value.agg (bcells n f)).cells.toList.drop (i * P.cellsOf u)).take (P.cellsOf u))) (List.range n) (by
    intro i hi
    have hi' : i < n := by simpa using hi
    refine ⟨[.int .u8 (f i : Int)], ?_⟩
    have e : ((Value.agg (bcells n f)).cells.toList.drop (i * P.cellsOf u)).take (P.cellsOf u) = [.int .u8 (f i : Int)] := by
      rw [hc1, Nat.mul_one]
      show (List.drop i (bl n f)).take 1 = _
      have hl : i < (bl n f).length := by rw [bl_length]; exact hi'
      rw [List.drop_eq_getElem_cons hl]
      simp [bl]
    rw [e]
    have hw : (Lit.int .u8 (f i : Int)).wf = true := by
      have := hf i hi'
      simp only [Lit.wf, Bool.and_eq_true, decide_eq_true_eq]
      have e1 : IntKind.u8.min = 0 := by decide
      have e2 : IntKind.u8.max = 255 := by decide
      rw [e1, e2]
      omega
    simp [Program.keyLits, hu, hw])
  have hl2 : P.keyLits (P.types.size + 1) k (Value.agg (bcells n f)).cells.toList = some ys.flatten := by
    rw [hd]
    unfold Program.keyLits
    rw [hk]
    dsimp only
    rw [if_pos hlen, hys]
    rfl
  refine ⟨.string (keyBytes ys.flatten), ?_⟩
  unfold keyOf
  rw [hk]
  simp only [hkt, hform, Bool.and_self, if_true]
  rw [hl2]
  rfl
/-- what a store into the map leaves of another block -/
theorem Blk.grown {w w' : World} {b n j : Nat} {t : TypeId} {f : Nat → Nat} (h : Blk w b n t f) (hg : w.grownBy w' (some j)) (e : b ≠ j) : Blk w' b n t f := by
  have hl := h.lt
  unfold Blk at *; rw [hg.block b hl (fun x => e (by cases x; rfl))]; exact h
theorem wpList_look {P : Program} (w : World) {ops : Array Oper} {rest : List Oper} {o : Oper} {a : Act} {Q : Exit → Act → World → Prop}
    (hg : o.guard = none) (m x : Operand) (t : TypeId) (c : Bool) (hop : o.op = Op.lookup t m x c) (mv : Value) (hm : a.eval m = mv) (key : Value) (hx : a.eval x = key) (v : Value) (hrun : (Instr.lookup t mv key c).run P w = .ok v w)
    (hK : wpList P ops Q rest (a.put o.dst v) w) : wpList P ops Q (o :: rest) a w := by
  refine wpList_plain hg fun K' hK' => ?_
  unfold Oper.wp
  simp [execOp, hop, hm, hx, hrun, Result.andThen]
  exact hK' _ _ hK
theorem wpList_put {P : Program} (w : World) {ops : Array Oper} {rest : List Oper} {o : Oper} {a : Act} {Q : Exit → Act → World → Prop}
    (hg : o.guard = none) (m x v : Operand) (t : TypeId) (hop : o.op = Op.mapUpdate t m x v) (mv : Value) (hm : a.eval m = mv) (key : Value) (hx : a.eval x = key) (val : Value) (hv : a.eval v = val) (w' : World) (hrun : (Instr.mapUpdate t mv key val).run P w = .ok () w')
    (hK : wpList P ops Q rest (a.put o.dst undef) w') : wpList P ops Q (o :: rest) a w := by
  refine wpList_plain hg fun K' hK' => ?_
  unfold Oper.wp
  simp [execOp, hop, hm, hx, hv, hrun, Result.andThen]
  exact hK' _ _ hK
attribute [irreducible] MapG One
end Go.Proofs.Ytbjpkmbhbpcbgaa
namespace Go.Proofs.Ytbjpkmbhbpcbgaa
open Go Go.RowKit Go.ChangeMaps
open Go.Maps (Keyed)
theorem Try.laidOutP : laidOutB Try.prog = true := by kernel_rfl
theorem Try.keyPoly : Keyed Try.prog 23 := Keyed.of_law (deep_law_laid Try.laidOutP (m := 2) (by omega) (of_decide_eq_true (by kernel_rfl)) (by kernel_rfl) (by rw [Try.underlying23]))
theorem Try.keyOfPoly {f : Nat → Nat} (hf : ∀ i, i < 64 → f i < 256) : ∃ l, keyOf Try.prog 23 (.agg (bcells 64 f)) = some l :=
  keyOf_bytes Try.underlying23 Try.underlying5 (by kernel_rfl) (by kernel_rfl) (by kernel_rfl) (of_decide_eq_true (by kernel_rfl)) hf
theorem Try.zeroPoly (w : World) : (zeroValue 23).run Try.prog w = .ok (.agg (bcells 64 fun _ => 0)) w := by kernel_rfl
theorem Try.zeroBool (w : World) : (zeroValue 4).run Try.prog w = .ok (.bool false) w := by kernel_rfl
end Go.Proofs.Ytbjpkmbhbpcbgaa
namespace Go.Proofs.Ytbjpkmbhbpcbgaa
open Go.RowKit
set_option linter.unusedVariables false
set_option linter.unusedSimpArgs false
attribute [local irreducible] deg invN dS qS stp stpr quoP resP oneP upP upF hmR mmP shA addK pgR mmC pmI
set_option maxRecDepth 100000 in
set_option maxHeartbeats 1600000 in
theorem timesMod_any (p : Nat) (f g m : Nat → Nat) (bp bm : Nat) (w : World) (hpr : p = 2 ∨ p = 3 ∨ p = 5 ∨ p = 7) (lf : ∀ k, k < 64 → f k < p) (lg : ∀ k, k < 64 → g k < p) (lm : ∀ k, k < 64 → m k < p) (h0 : 0 ≤ deg m)
    (B0 : One w bp 2 (.int .i64 (p : Int))) (B1 : Blk w bm 64 23 m) :
    Calls Try.prog 187 #[.agg (bcells 64 f), .agg (bcells 64 g), .pointer (some ⟨bp, 0, none⟩), .pointer (some ⟨bm, 0, none⟩)] w fun e w' => e = .returned (.agg (bcells 64 (mmP p f g m))) ∧ Below w.heap.size w w' := by
  have HRP := Lib.hid (fun W => restOfProduct_any p f g m W hpr lf lg lm h0)
  have zx_0 := B0.lt
  have zx_1 := B1.lt
  go_enter Try.func187, Try.ntmps187
  go_upto_region 1 with (fail)
  rw [← zero64]
  obtain ⟨W1, hwo⟩ : ∃ v : World, v = (((w.alloc (.cells (bcells 64 (f)) 23)).alloc (.cells (bcells 64 (g)) 23)).alloc (.cells (bcells 64 fun _ => 0) 23)) := ⟨_, rfl⟩
  have B2 : Blk W1 (w.heap.size) 64 23 (f) := by subst hwo; have := (((Blk.new w 64 23 (f)).alloc (.cells (bcells 64 (g)) 23)).alloc (.cells (bcells 64 fun _ => 0) 23)); simpa using this
  have B3 : Blk W1 (w.heap.size + 1) 64 23 (g) := by subst hwo; have := ((Blk.new (w.alloc (.cells (bcells 64 (f)) 23)) 64 23 (g)).alloc (.cells (bcells 64 fun _ => 0) 23)); simpa using this
  have B4 : Blk W1 (w.heap.size + 1 + 1) 64 23 (fun _ => 0) := by subst hwo; have := (Blk.new ((w.alloc (.cells (bcells 64 (f)) 23)).alloc (.cells (bcells 64 (g)) 23)) 64 23 (fun _ => 0)); simpa using this
  replace B0 : One W1 (bp) 2 (.int .i64 (p : Int)) := by subst hwo; exact (((B0.alloc (.cells (bcells 64 (f)) 23)).alloc (.cells (bcells 64 (g)) 23)).alloc (.cells (bcells 64 fun _ => 0) 23))
  replace B1 : Blk W1 (bm) 64 23 (m) := by subst hwo; exact (((B1.alloc (.cells (bcells 64 (f)) 23)).alloc (.cells (bcells 64 (g)) 23)).alloc (.cells (bcells 64 fun _ => 0) 23))
  have hb : Below w.heap.size w W1 := by subst hwo; exact ((((Below.refl _ _).alloc (Nat.le_refl _) _).alloc (by simp) _).alloc (by simp; omega) _)
  rw [← hwo]
  clear hwo
  have lt_B0 := B0.lt
  have lt_B1 := B1.lt
  have lt_B2 := B2.lt
  have lt_B3 := B3.lt
  have lt_B4 := B4.lt
  go_wp2_with (first | rw [← zero64] | (refine wpList_load_one rfl 2 (.tmp 2) rfl _ rfl 2 ((.int .i64 (p : Int))) (B0) _ Try.underlying2 rfl ?_) | (refine wpList_load_any rfl 23 (.tmp 4) rfl _ rfl 64 23 _ (B2) _ Try.underlying23 rfl Try.size23 ?_) | (refine wpList_load_any rfl 23 (.tmp 5) rfl _ rfl 64 23 _ (B3) _ Try.underlying23 rfl Try.size23 ?_) | (refine wpList_load_any rfl 23 (.tmp 3) rfl _ rfl 64 23 _ (B1) _ Try.underlying23 rfl Try.size23 ?_) | (go_at_call 188; refine (HRP.out _).mono ?_; rintro e W2 ⟨rfl, hW2⟩; replace B0 := B0.below hW2 B0.lt; replace B1 := B1.below hW2 B1.lt; replace B2 := B2.below hW2 B2.lt; replace B3 := B3.below hW2 B3.lt; replace B4 := B4.below hW2 B4.lt; replace hb := (hb).trans (hW2.mono (hb).size)) | (refine wpList_store_blk rfl 23 (.tmp 6) (.tmp 11) rfl _ 64 (mmP p f g m) rfl rfl 23 _ (B4) Try.size23 ?_; try simp only [Act.put]))
  have qB0 : One (W2.setRow (w.heap.size + 1 + 1) (bcells 64 (mmP p f g m))) (bp) 2 (.int .i64 (p : Int)) := (B0.rowOther (by omega))
  have qB1 : Blk (W2.setRow (w.heap.size + 1 + 1) (bcells 64 (mmP p f g m))) (bm) 64 23 (m) := (B1.rowOther (by omega))
  have qB2 : Blk (W2.setRow (w.heap.size + 1 + 1) (bcells 64 (mmP p f g m))) (w.heap.size) 64 23 (f) := (B2.rowOther (by omega))
  have qB3 : Blk (W2.setRow (w.heap.size + 1 + 1) (bcells 64 (mmP p f g m))) (w.heap.size + 1) 64 23 (g) := (B3.rowOther (by omega))
  have qB4 : Blk (W2.setRow (w.heap.size + 1 + 1) (bcells 64 (mmP p f g m))) (w.heap.size + 1 + 1) 64 23 (mmP p f g m) := (B4.row (mmP p f g m))
  have qhb : Below w.heap.size w (W2.setRow (w.heap.size + 1 + 1) (bcells 64 (mmP p f g m))) := (below_row hb (by omega) _)
  obtain ⟨W3, hwo⟩ : ∃ v : World, v = (W2.setRow (w.heap.size + 1 + 1) (bcells 64 (mmP p f g m))) := ⟨_, rfl⟩
  rw [← hwo] at qB0 qB1 qB2 qB3 qB4 qhb ⊢
  clear hwo
  clear B0 B1 B2 B3 B4 hb
  have B0 := qB0
  have B1 := qB1
  have B2 := qB2
  have B3 := qB3
  have B4 := qB4
  have hb := qhb
  clear qB0 qB1 qB2 qB3 qB4 qhb
  try simp only [Act.put, List.setIfInBounds_toArray, List.set_cons_zero, List.set_cons_succ]
  refine bodyPost_ret (results_blk rfl _ _ _ 64 23 5 _ rfl B4 Try.underlying23 Try.size23) rfl ⟨rfl, hb⟩
set_option maxRecDepth 100000 in
set_option maxHeartbeats 1600000 in
theorem powerMod (mul : (Nat → Nat) → (Nat → Nat) → (Nat → Nat)) (P : Nat → (Nat → Nat) → (Nat → Nat) → Prop) (c1 c2 : Value) (f : Nat → Nat) (k0 : Nat) (w : World)
    (HT1 : Hid (∀ k r s W, P k r s → k % 2 = 1 → Below w.heap.size w W → Calls Try.prog 187 #[.agg (bcells 64 r), .agg (bcells 64 s), c1, c2] W fun e w' => e = .returned (.agg (bcells 64 (mul r s))) ∧ Below W.heap.size W w'))
    (HT2 : Hid (∀ k r s W, P k r s → 1 < k → Below w.heap.size w W → Calls Try.prog 187 #[.agg (bcells 64 s), .agg (bcells 64 s), c1, c2] W fun e w' => e = .returned (.agg (bcells 64 (mul s s))) ∧ Below W.heap.size W w'))
    (HS : Hid (∀ k r s, P k r s → 1 < k → P (k / 2) (if k % 2 = 1 then mul r s else r) (mul s s)))
    (HC : Hid (∀ x y, (∀ i, i < 64 → x i = y i) → mul x x = mul y y)) (HB : Hid (∀ k r s, P k r s → ∀ i, i < 64 → s i < 256)) (H0 : 0 < k0 → P k0 oneP f) (hk0 : (k0 : Int) ≤ 1000000000000) :
    Calls Try.prog 81 #[.agg (bcells 64 f), .int .i64 (k0 : Int), .func (.func 187) #[] #[c1, c2]] w fun e w' => e = .returned (.agg (bcells 64 (pgR mul 64 k0 oneP f))) ∧ Below w.heap.size w w' := by
  have hmm := @run_makeMap Try.prog
  go_enter Try.func81, Try.ntmps81
  go_upto_region 1 with (fail)
  rw [← zero64]
  obtain ⟨W1, hwo⟩ : ∃ v : World, v = ((w.alloc (.cells (bcells 64 (f)) 23)).alloc (.cells (bcells 64 fun _ => 0) 23)) := ⟨_, rfl⟩
  have B0 : Blk W1 (w.heap.size) 64 23 (f) := by subst hwo; have := ((Blk.new w 64 23 (f)).alloc (.cells (bcells 64 fun _ => 0) 23)); simpa using this
  have B1 : Blk W1 (w.heap.size + 1) 64 23 (fun _ => 0) := by subst hwo; have := (Blk.new (w.alloc (.cells (bcells 64 (f)) 23)) 64 23 (fun _ => 0)); simpa using this
  have hb : Below w.heap.size w W1 := by subst hwo; exact (((Below.refl _ _).alloc (Nat.le_refl _) _).alloc (by simp) _)
  rw [← hwo]
  clear hwo
  go_upto_region 2 with (fail)
  have lt_B0 := B0.lt
  have lt_B1 := B1.lt
  have lhb := hb.size
  have qB0 : Blk (W1.alloc (.map #[] 0)) (w.heap.size) 64 23 (f) := (B0.alloc (.map #[] 0))
  have qB1 : Blk (W1.alloc (.map #[] 0)) (w.heap.size + 1) 64 23 (fun _ => 0) := (B1.alloc (.map #[] 0))
  have qB2 : MapG Try.prog 23 (W1.alloc (.map #[] 0)) (W1.heap.size) [] := (MapG.new Try.prog 23 W1)
  have qhb : Below w.heap.size w (W1.alloc (.map #[] 0)) := (hb.alloc hb.size (.map #[] 0))
  obtain ⟨W2, hwo⟩ : ∃ v : World, v = (W1.alloc (.map #[] 0)) := ⟨_, rfl⟩
  rw [← hwo] at qB0 qB1 qB2 qhb ⊢
  clear hwo
  clear B0 B1 hb
  have B0 := qB0
  have B1 := qB1
  have B2 := qB2
  have hb := qhb
  clear qB0 qB1 qB2 qhb
  obtain ⟨N1, hNN⟩ : ∃ n : Nat, n = W1.heap.size := ⟨_, rfl⟩
  rw [← hNN] at lt_B0 lt_B1 lhb B2 ⊢
  clear hNN
  have zN1_0 := lt_B0
  have zN1_1 := lt_B1
  have zN1 := lhb
  clear lt_B0 lt_B1 lhb
  try simp only [Act.put, List.setIfInBounds_toArray, List.set_cons_zero, List.set_cons_succ]
  have lt_B0 := B0.lt
  have lt_B1 := B1.lt
  have lt_B2 := B2.lt
  go_wp2_with (first | rw [← zero64] | (refine wpList_build_of rfl 23 _ rfl (bcells 64 oneP) (by rw [Array.toList_map]; exact built_one) ?_) | (refine wpList_store_blk rfl 23 (.tmp 8) (.tmp 12) rfl _ 64 (oneP) rfl rfl 23 _ ((Blk.new W2 64 23 (fun _ => 0))) Try.size23 ?_; try simp only [Act.put]))
  have lt_B0 := B0.lt
  have lt_B1 := B1.lt
  have lt_B2 := B2.lt
  have lhb := hb.size
  have qB0 : Blk ((W2.alloc (.cells (bcells 64 fun _ => 0) 23)).setRow (W2.heap.size) (bcells 64 (oneP))) (w.heap.size) 64 23 (f) := ((B0.alloc (.cells (bcells 64 fun _ => 0) 23)).rowOther (by omega))
  have qB1 : Blk ((W2.alloc (.cells (bcells 64 fun _ => 0) 23)).setRow (W2.heap.size) (bcells 64 (oneP))) (w.heap.size + 1) 64 23 (fun _ => 0) := ((B1.alloc (.cells (bcells 64 fun _ => 0) 23)).rowOther (by omega))
  have qB2 : MapG Try.prog 23 ((W2.alloc (.cells (bcells 64 fun _ => 0) 23)).setRow (W2.heap.size) (bcells 64 (oneP))) (N1) [] := ((B2.alloc (.cells (bcells 64 fun _ => 0) 23)).rowOther (by omega))
  have qB3 : Blk ((W2.alloc (.cells (bcells 64 fun _ => 0) 23)).setRow (W2.heap.size) (bcells 64 (oneP))) (W2.heap.size) 64 23 (oneP) := ((Blk.new W2 64 23 (fun _ => 0)).row (oneP))
  have qhb : Below w.heap.size w ((W2.alloc (.cells (bcells 64 fun _ => 0) 23)).setRow (W2.heap.size) (bcells 64 (oneP))) := (below_row (hb.alloc (by have := hb.size; simp; omega) (.cells (bcells 64 fun _ => 0) 23)) (by omega) _)
  obtain ⟨W3, hwo⟩ : ∃ v : World, v = ((W2.alloc (.cells (bcells 64 fun _ => 0) 23)).setRow (W2.heap.size) (bcells 64 (oneP))) := ⟨_, rfl⟩
  rw [← hwo] at qB0 qB1 qB2 qB3 qhb ⊢
  clear hwo
  clear B0 B1 B2 hb
  have B0 := qB0
  have B1 := qB1
  have B2 := qB2
  have B3 := qB3
  have hb := qhb
  clear qB0 qB1 qB2 qB3 qhb
  obtain ⟨N2, hNN⟩ : ∃ n : Nat, n = W2.heap.size := ⟨_, rfl⟩
  rw [← hNN] at lt_B0 lt_B1 lt_B2 lhb B3 ⊢
  clear hNN
  have zN2_0 := lt_B0
  have zN2_1 := lt_B1
  have zN2_2 := lt_B2
  have zN2 := lhb
  clear lt_B0 lt_B1 lt_B2 lhb
  try simp only [Act.put, List.setIfInBounds_toArray, List.set_cons_zero, List.set_cons_succ]
  go_loopw [1] (fun i wr => ∃ (q k : Nat) (po ps : Nat → Nat) (L : List (Value × Value)), Hid (pgR mul 64 k0 oneP f = pgR mul q k po ps) ∧ k < 2 ^ q ∧ (k : Int) ≤ 1000000000000 ∧ Hid (0 < k → P k po ps) ∧ Hid (∀ q ∈ L, ∃ x, q.1 = .agg (bcells 64 x) ∧ q.2 = .agg (bcells 64 (mul x x))) ∧ i = .int .i64 (k : Int) ∧ Below w.heap.size w wr ∧ Blk wr (w.heap.size) 64 23 ps ∧ Blk wr (w.heap.size + 1) 64 23 (fun _ => 0) ∧ MapG Try.prog 23 wr (N1) L ∧ Blk wr (N2) 64 23 po) (fun i _ => (intOf i).toNat)
  case atStart => exact ⟨64, k0, _, _, [], Lib.hid rfl, (by have h6 : (1000000000000 : Nat) < 2 ^ 64 := (by decide); omega), hk0, Lib.hid H0, Lib.hid (by simp), rfl, hb, B0, B1, B2, B3⟩
  case round =>
    clear hb B0 B1 B2 B3 H0
    obtain ⟨q, k, po, ps, L, hP, hkq, hk, hI, hL, rfl, hb, B0, B1, B2, B3⟩ := hrel
    have HKQ := Lib.hid hkq
    clear hkq hk0 hmm
    by_cases hz : k = 0
    · subst hz
      have HV := Lib.hid (hP.out.trans pgR_z)
      go_upto_region 13 with (fail)
      have lt_B0 := B0.lt
      have lt_B1 := B1.lt
      have lt_B2 := B2.lt
      have lt_B3 := B3.lt
      go_wp2_with (first | rw [← zero64] | (refine wpList_load_any rfl 23 (.tmp 8) rfl _ rfl 64 23 _ (B3) _ Try.underlying23 rfl Try.size23 ?_) | (refine wpList_store_blk rfl 23 (.tmp 6) (.tmp 42) rfl _ 64 (po) rfl rfl 23 _ (B1) Try.size23 ?_; try simp only [Act.put]))
      have qB0 : Blk (wr.setRow (w.heap.size + 1) (bcells 64 (po))) (w.heap.size) 64 23 (ps) := (B0.rowOther (by omega))
      have qB1 : Blk (wr.setRow (w.heap.size + 1) (bcells 64 (po))) (w.heap.size + 1) 64 23 (po) := (B1.row (po))
      have qB2 : MapG Try.prog 23 (wr.setRow (w.heap.size + 1) (bcells 64 (po))) (N1) L := (B2.rowOther (by omega))
      have qB3 : Blk (wr.setRow (w.heap.size + 1) (bcells 64 (po))) (N2) 64 23 (po) := (B3.rowOther (by omega))
      have qhb : Below w.heap.size w (wr.setRow (w.heap.size + 1) (bcells 64 (po))) := (below_row hb (by omega) _)
      obtain ⟨W4, hwo⟩ : ∃ v : World, v = (wr.setRow (w.heap.size + 1) (bcells 64 (po))) := ⟨_, rfl⟩
      rw [← hwo] at qB0 qB1 qB2 qB3 qhb ⊢
      clear hwo
      clear B0 B1 B2 B3 hb
      have B0 := qB0
      have B1 := qB1
      have B2 := qB2
      have B3 := qB3
      have hb := qhb
      clear qB0 qB1 qB2 qB3 qhb
      try simp only [Act.put, List.setIfInBounds_toArray, List.set_cons_zero, List.set_cons_succ]
      refine bodyPost_ret (results_blk rfl _ _ _ 64 23 5 _ rfl B1 Try.underlying23 Try.size23) rfl ⟨by rw [HV.out], hb⟩
    · obtain ⟨q, rfl⟩ : ∃ t, q = t + 1 := ⟨q - 1, by have h1 := HKQ.out; have h2 : q ≠ 0 := (by intro h; rw [h, Nat.pow_zero] at h1; omega); omega⟩
      have hpos : (0 : Int) < (k : Int) := by omega
      have HP := Lib.hid (hI.out (by omega))
      clear hI
      by_cases hodd : k % 2 = 1
      · have hb1 : (((k : Int) % 2) == 1) = true := beq_iff_eq.2 (by omega)
        have hb2 : (((k : Int).tmod 2) == 1) = true := by rw [Int.tmod_eq_emod_of_nonneg (by omega)]; exact hb1
        have HO := Lib.hid hodd
        have HV := Lib.hid (hP.out.trans (pgR_odd hz hodd))
        have HD := Lib.hid (show k / 2 < 2 ^ q by have := HKQ.out; rw [Nat.pow_succ] at this; omega)
        clear hodd hz hP
        go_upto_region 5 with (fail)
        clear hb1 hb2
        have lt_B0 := B0.lt
        have lt_B1 := B1.lt
        have lt_B2 := B2.lt
        have lt_B3 := B3.lt
        go_upto_region 6 with (first | rw [← zero64] | (refine wpList_load_any rfl 23 (.tmp 8) rfl _ rfl 64 23 _ (B3) _ Try.underlying23 rfl Try.size23 ?_) | (refine wpList_load_any rfl 23 (.tmp 3) rfl _ rfl 64 23 _ (B0) _ Try.underlying23 rfl Try.size23 ?_) | (go_at_call 187; refine (HT1.out k po ps _ HP.out HO.out hb).mono ?_; rintro e W4 ⟨rfl, hW4⟩; replace B0 := B0.below hW4 B0.lt; replace B1 := B1.below hW4 B1.lt; replace B2 := B2.below hW4 B2.lt; replace B3 := B3.below hW4 B3.lt; replace hb := (hb).trans (hW4.mono (hb).size)) | (refine wpList_store_blk rfl 23 (.tmp 8) (.tmp 21) rfl _ 64 (mul po ps) rfl rfl 23 _ (B3) Try.size23 ?_; try simp only [Act.put]))
        have qB0 : Blk (W4.setRow (N2) (bcells 64 (mul po ps))) (w.heap.size) 64 23 (ps) := (B0.rowOther (by omega))
        have qB1 : Blk (W4.setRow (N2) (bcells 64 (mul po ps))) (w.heap.size + 1) 64 23 (fun _ => 0) := (B1.rowOther (by omega))
        have qB2 : MapG Try.prog 23 (W4.setRow (N2) (bcells 64 (mul po ps))) (N1) L := (B2.rowOther (by omega))
        have qB3 : Blk (W4.setRow (N2) (bcells 64 (mul po ps))) (N2) 64 23 (mul po ps) := (B3.row (mul po ps))
        have qhb : Below w.heap.size w (W4.setRow (N2) (bcells 64 (mul po ps))) := (below_row hb (by omega) _)
        obtain ⟨W5, hwo⟩ : ∃ v : World, v = (W4.setRow (N2) (bcells 64 (mul po ps))) := ⟨_, rfl⟩
        rw [← hwo] at qB0 qB1 qB2 qB3 qhb ⊢
        clear hwo
        clear B0 B1 B2 B3 hb
        have B0 := qB0
        have B1 := qB1
        have B2 := qB2
        have B3 := qB3
        have hb := qhb
        clear qB0 qB1 qB2 qB3 qhb
        try simp only [Act.put, List.setIfInBounds_toArray, List.set_cons_zero, List.set_cons_succ]
        by_cases h1 : 1 < k
        · have hq : 1 ≤ (k : Int) / 2 := by omega
          have hq2 : 0 < (k : Int) / 2 := by omega
          have HS2 := Lib.hid (HS.out k po ps HP.out h1)
          have HT := Lib.hid (fun W => HT2.out k po ps W HP.out h1)
          obtain ⟨kl, hkl⟩ := Try.keyOfPoly (HB.out k po ps HP.out)
          have HKL := Lib.hid hkl
          have hlk := B2.look Try.keyPoly Try.underlying121 (Try.zeroPoly _) true hkl
          clear hkl h1
          go_upto_region 8 with (fail)
          clear hq2
          rcases hlk with ⟨hrun, hno⟩ | ⟨v, hin, hrun⟩
          · simp only [if_true] at hrun
            have lt_B0 := B0.lt
            have lt_B1 := B1.lt
            have lt_B2 := B2.lt
            have lt_B3 := B3.lt
            go_upto_region 10 with (first | rw [← zero64] | (refine wpList_load_any rfl 23 (.tmp 3) rfl _ rfl 64 23 _ (B0) _ Try.underlying23 rfl Try.size23 ?_) | (at_lookup; refine wpList_look _ rfl _ _ 121 true rfl _ rfl _ rfl (.tuple #[.agg (bcells 64 fun _ => 0), .bool false]) hrun ?_) | (refine wpList_store_blk rfl 23 (.tmp 9) (.tmp 30) rfl _ 64 (fun _ => 0) rfl rfl 23 _ ((Blk.new W5 64 23 (fun _ => 0))) Try.size23 ?_; try simp only [Act.put]; go_upto_region 10 with (fail)))
            have lt_B0 := B0.lt
            have lt_B1 := B1.lt
            have lt_B2 := B2.lt
            have lt_B3 := B3.lt
            have lhb := hb.size
            have qB0 : Blk ((W5.alloc (.cells (bcells 64 fun _ => 0) 23)).setRow (W5.heap.size) (bcells 64 (fun _ => 0))) (w.heap.size) 64 23 (ps) := ((B0.alloc (.cells (bcells 64 fun _ => 0) 23)).rowOther (by omega))
            have qB1 : Blk ((W5.alloc (.cells (bcells 64 fun _ => 0) 23)).setRow (W5.heap.size) (bcells 64 (fun _ => 0))) (w.heap.size + 1) 64 23 (fun _ => 0) := ((B1.alloc (.cells (bcells 64 fun _ => 0) 23)).rowOther (by omega))
            have qB2 : MapG Try.prog 23 ((W5.alloc (.cells (bcells 64 fun _ => 0) 23)).setRow (W5.heap.size) (bcells 64 (fun _ => 0))) (N1) L := ((B2.alloc (.cells (bcells 64 fun _ => 0) 23)).rowOther (by omega))
            have qB3 : Blk ((W5.alloc (.cells (bcells 64 fun _ => 0) 23)).setRow (W5.heap.size) (bcells 64 (fun _ => 0))) (N2) 64 23 (mul po ps) := ((B3.alloc (.cells (bcells 64 fun _ => 0) 23)).rowOther (by omega))
            have qB4 : Blk ((W5.alloc (.cells (bcells 64 fun _ => 0) 23)).setRow (W5.heap.size) (bcells 64 (fun _ => 0))) (W5.heap.size) 64 23 (fun _ => 0) := ((Blk.new W5 64 23 (fun _ => 0)).row (fun _ => 0))
            have qhb : Below w.heap.size w ((W5.alloc (.cells (bcells 64 fun _ => 0) 23)).setRow (W5.heap.size) (bcells 64 (fun _ => 0))) := (below_row (hb.alloc (by have := hb.size; simp; omega) (.cells (bcells 64 fun _ => 0) 23)) (by omega) _)
            obtain ⟨W6, hwo⟩ : ∃ v : World, v = ((W5.alloc (.cells (bcells 64 fun _ => 0) 23)).setRow (W5.heap.size) (bcells 64 (fun _ => 0))) := ⟨_, rfl⟩
            rw [← hwo] at qB0 qB1 qB2 qB3 qB4 qhb ⊢
            clear hwo
            clear B0 B1 B2 B3 hb
            have B0 := qB0
            have B1 := qB1
            have B2 := qB2
            have B3 := qB3
            have B4 := qB4
            have hb := qhb
            clear qB0 qB1 qB2 qB3 qB4 qhb
            obtain ⟨N3, hNN⟩ : ∃ n : Nat, n = W5.heap.size := ⟨_, rfl⟩
            rw [← hNN] at lt_B0 lt_B1 lt_B2 lt_B3 lhb B4 ⊢
            clear hNN
            have zN3_0 := lt_B0
            have zN3_1 := lt_B1
            have zN3_2 := lt_B2
            have zN3_3 := lt_B3
            have zN3 := lhb
            clear lt_B0 lt_B1 lt_B2 lt_B3 lhb
            try simp only [Act.put, List.setIfInBounds_toArray, List.set_cons_zero, List.set_cons_succ]
            clear hrun
            have lt_B0 := B0.lt
            have lt_B1 := B1.lt
            have lt_B2 := B2.lt
            have lt_B3 := B3.lt
            have lt_B4 := B4.lt
            go_upto_region 11 with (first | rw [← zero64] | (refine wpList_load_any rfl 23 (.tmp 3) rfl _ rfl 64 23 _ (B0) _ Try.underlying23 rfl Try.size23 ?_) | (refine wpList_load_any rfl 23 (.tmp 3) rfl _ rfl 64 23 _ (B0) _ Try.underlying23 rfl Try.size23 ?_) | (go_at_call 187; refine (HT.out _ hb).mono ?_; rintro e W7 ⟨rfl, hW7⟩; replace B0 := B0.below hW7 B0.lt; replace B1 := B1.below hW7 B1.lt; replace B2 := B2.below hW7 B2.lt; replace B3 := B3.below hW7 B3.lt; replace B4 := B4.below hW7 B4.lt; replace hb := (hb).trans (hW7.mono (hb).size)) | (refine wpList_store_blk rfl 23 (.tmp 9) (.tmp 37) rfl _ 64 (mul ps ps) rfl rfl 23 _ (B4) Try.size23 ?_; try simp only [Act.put]))
            have qB0 : Blk (W7.setRow (N3) (bcells 64 (mul ps ps))) (w.heap.size) 64 23 (ps) := (B0.rowOther (by omega))
            have qB1 : Blk (W7.setRow (N3) (bcells 64 (mul ps ps))) (w.heap.size + 1) 64 23 (fun _ => 0) := (B1.rowOther (by omega))
            have qB2 : MapG Try.prog 23 (W7.setRow (N3) (bcells 64 (mul ps ps))) (N1) L := (B2.rowOther (by omega))
            have qB3 : Blk (W7.setRow (N3) (bcells 64 (mul ps ps))) (N2) 64 23 (mul po ps) := (B3.rowOther (by omega))
            have qB4 : Blk (W7.setRow (N3) (bcells 64 (mul ps ps))) (N3) 64 23 (mul ps ps) := (B4.row (mul ps ps))
            have qhb : Below w.heap.size w (W7.setRow (N3) (bcells 64 (mul ps ps))) := (below_row hb (by omega) _)
            obtain ⟨W8, hwo⟩ : ∃ v : World, v = (W7.setRow (N3) (bcells 64 (mul ps ps))) := ⟨_, rfl⟩
            rw [← hwo] at qB0 qB1 qB2 qB3 qB4 qhb ⊢
            clear hwo
            clear B0 B1 B2 B3 B4 hb
            have B0 := qB0
            have B1 := qB1
            have B2 := qB2
            have B3 := qB3
            have B4 := qB4
            have hb := qhb
            clear qB0 qB1 qB2 qB3 qB4 qhb
            try simp only [Act.put, List.setIfInBounds_toArray, List.set_cons_zero, List.set_cons_succ]
            obtain ⟨wM, hput, hmn, hgr⟩ := B2.put (val := .agg (bcells 64 (mul ps ps))) Try.keyPoly Try.underlying121 HKL.out hno
            have gB0 : Blk wM (w.heap.size) 64 23 (ps) := B0.grown hgr (by omega)
            have gB1 : Blk wM (w.heap.size + 1) 64 23 (fun _ => 0) := B1.grown hgr (by omega)
            have gB3 : Blk wM (N2) 64 23 (mul po ps) := B3.grown hgr (by omega)
            have gB4 : Blk wM (N3) 64 23 (mul ps ps) := B4.grown hgr (by omega)
            have ghb : Below w.heap.size w wM := hb.grown hgr hb.size (fun j e => by cases e; omega)
            go_upto_region 12 with (first | (refine wpList_load_any rfl 23 (.tmp 3) rfl _ rfl 64 23 _ (B0) _ Try.underlying23 rfl Try.size23 ?_) | (refine wpList_load_any rfl 23 (.tmp 9) rfl _ rfl 64 23 _ (B4) _ Try.underlying23 rfl Try.size23 ?_) | (at_mapUpdate; refine wpList_put _ rfl _ _ _ 121 rfl _ rfl _ rfl _ rfl wM hput ?_; go_upto_region 12 with (fail)))
            clear B0 B1 B2 B3 B4 hb hput hgr hno
            have B0 := gB0
            clear gB0
            have B1 := gB1
            clear gB1
            have B2 := hmn
            clear hmn
            have B3 := gB3
            clear gB3
            have B4 := gB4
            clear gB4
            have hb := ghb
            clear ghb
            have lt_B0 := B0.lt
            have lt_B1 := B1.lt
            have lt_B2 := B2.lt
            have lt_B3 := B3.lt
            have lt_B4 := B4.lt
            go_wp2_with (first | rw [← zero64] | (refine wpList_load_any rfl 23 (.tmp 9) rfl _ rfl 64 23 _ (B4) _ Try.underlying23 rfl Try.size23 ?_) | (refine wpList_store_blk rfl 23 (.tmp 3) (.tmp 41) rfl _ 64 (mul ps ps) rfl rfl 23 _ (B0) Try.size23 ?_; try simp only [Act.put]))
            have qB0 : Blk (wM.setRow (w.heap.size) (bcells 64 (mul ps ps))) (w.heap.size) 64 23 (mul ps ps) := (B0.row (mul ps ps))
            have qB1 : Blk (wM.setRow (w.heap.size) (bcells 64 (mul ps ps))) (w.heap.size + 1) 64 23 (fun _ => 0) := (B1.rowOther (by omega))
            have qB2 : MapG Try.prog 23 (wM.setRow (w.heap.size) (bcells 64 (mul ps ps))) (N1) (L ++ [(.agg (bcells 64 ps), .agg (bcells 64 (mul ps ps)))]) := (B2.rowOther (by omega))
            have qB3 : Blk (wM.setRow (w.heap.size) (bcells 64 (mul ps ps))) (N2) 64 23 (mul po ps) := (B3.rowOther (by omega))
            have qB4 : Blk (wM.setRow (w.heap.size) (bcells 64 (mul ps ps))) (N3) 64 23 (mul ps ps) := (B4.rowOther (by omega))
            have qhb : Below w.heap.size w (wM.setRow (w.heap.size) (bcells 64 (mul ps ps))) := (below_row hb (by omega) _)
            obtain ⟨W9, hwo⟩ : ∃ v : World, v = (wM.setRow (w.heap.size) (bcells 64 (mul ps ps))) := ⟨_, rfl⟩
            rw [← hwo] at qB0 qB1 qB2 qB3 qB4 qhb ⊢
            clear hwo
            clear B0 B1 B2 B3 B4 hb
            have B0 := qB0
            have B1 := qB1
            have B2 := qB2
            have B3 := qB3
            have B4 := qB4
            have hb := qhb
            clear qB0 qB1 qB2 qB3 qB4 qhb
            try simp only [Act.put, List.setIfInBounds_toArray, List.set_cons_zero, List.set_cons_succ]
            go_roundw
            case rel => exact ⟨q, k / 2, mul po ps, mul ps ps, L ++ [(.agg (bcells 64 ps), .agg (bcells 64 (mul ps ps)))], HV, HD.out, by omega, Lib.hid (fun _ => by have := HS2.out; rw [if_pos HO.out] at this; exact this), Lib.hid (by intro q hq; rcases List.mem_append.1 hq with h | h; exact hL.out q h; rw [List.mem_singleton] at h; subst h; exact ⟨ps, rfl, rfl⟩), by rw [show ((k / 2 : Nat) : Int) = (k : Int) / 2 by push_cast; rfl], hb, B0, B1, B2, B3⟩
            case measure => simp [intOf] <;> omega
          · simp only [if_true] at hrun
            obtain rfl : v = .agg (bcells 64 (mul ps ps)) := by
              obtain ⟨x, e1, e2⟩ := hL.out _ hin
              have e3 : (Value.agg (bcells 64 ps)) = .agg (bcells 64 x) := e1
              have e4 : bcells 64 ps = bcells 64 x := by injection e3
              have e5 : v = .agg (bcells 64 (mul x x)) := e2
              rw [e5, HC.out x ps (fun i hi => (bcells_inj e4 i hi).symm)]
            clear hin
            have lt_B0 := B0.lt
            have lt_B1 := B1.lt
            have lt_B2 := B2.lt
            have lt_B3 := B3.lt
            go_upto_region 12 with (first | rw [← zero64] | (refine wpList_load_any rfl 23 (.tmp 3) rfl _ rfl 64 23 _ (B0) _ Try.underlying23 rfl Try.size23 ?_) | (at_lookup; refine wpList_look _ rfl _ _ 121 true rfl _ rfl _ rfl (.tuple #[.agg (bcells 64 (mul ps ps)), .bool true]) hrun ?_) | (refine wpList_store_blk rfl 23 (.tmp 9) (.tmp 30) rfl _ 64 (mul ps ps) rfl rfl 23 _ ((Blk.new W5 64 23 (fun _ => 0))) Try.size23 ?_; try simp only [Act.put]; go_upto_region 12 with (fail)))
            have lt_B0 := B0.lt
            have lt_B1 := B1.lt
            have lt_B2 := B2.lt
            have lt_B3 := B3.lt
            have lhb := hb.size
            have qB0 : Blk ((W5.alloc (.cells (bcells 64 fun _ => 0) 23)).setRow (W5.heap.size) (bcells 64 (mul ps ps))) (w.heap.size) 64 23 (ps) := ((B0.alloc (.cells (bcells 64 fun _ => 0) 23)).rowOther (by omega))
            have qB1 : Blk ((W5.alloc (.cells (bcells 64 fun _ => 0) 23)).setRow (W5.heap.size) (bcells 64 (mul ps ps))) (w.heap.size + 1) 64 23 (fun _ => 0) := ((B1.alloc (.cells (bcells 64 fun _ => 0) 23)).rowOther (by omega))
            have qB2 : MapG Try.prog 23 ((W5.alloc (.cells (bcells 64 fun _ => 0) 23)).setRow (W5.heap.size) (bcells 64 (mul ps ps))) (N1) L := ((B2.alloc (.cells (bcells 64 fun _ => 0) 23)).rowOther (by omega))
            have qB3 : Blk ((W5.alloc (.cells (bcells 64 fun _ => 0) 23)).setRow (W5.heap.size) (bcells 64 (mul ps ps))) (N2) 64 23 (mul po ps) := ((B3.alloc (.cells (bcells 64 fun _ => 0) 23)).rowOther (by omega))
            have qB4 : Blk ((W5.alloc (.cells (bcells 64 fun _ => 0) 23)).setRow (W5.heap.size) (bcells 64 (mul ps ps))) (W5.heap.size) 64 23 (mul ps ps) := ((Blk.new W5 64 23 (fun _ => 0)).row (mul ps ps))
            have qhb : Below w.heap.size w ((W5.alloc (.cells (bcells 64 fun _ => 0) 23)).setRow (W5.heap.size) (bcells 64 (mul ps ps))) := (below_row (hb.alloc (by have := hb.size; simp; omega) (.cells (bcells 64 fun _ => 0) 23)) (by omega) _)
            obtain ⟨W6, hwo⟩ : ∃ v : World, v = ((W5.alloc (.cells (bcells 64 fun _ => 0) 23)).setRow (W5.heap.size) (bcells 64 (mul ps ps))) := ⟨_, rfl⟩
            rw [← hwo] at qB0 qB1 qB2 qB3 qB4 qhb ⊢
            clear hwo
            clear B0 B1 B2 B3 hb
            have B0 := qB0
            have B1 := qB1
            have B2 := qB2
            have B3 := qB3
            have B4 := qB4
            have hb := qhb
            clear qB0 qB1 qB2 qB3 qB4 qhb
            obtain ⟨N3, hNN⟩ : ∃ n : Nat, n = W5.heap.size := ⟨_, rfl⟩
            rw [← hNN] at lt_B0 lt_B1 lt_B2 lt_B3 lhb B4 ⊢
            clear hNN
            have zN3_0 := lt_B0
            have zN3_1 := lt_B1
            have zN3_2 := lt_B2
            have zN3_3 := lt_B3
            have zN3 := lhb
            clear lt_B0 lt_B1 lt_B2 lt_B3 lhb
            try simp only [Act.put, List.setIfInBounds_toArray, List.set_cons_zero, List.set_cons_succ]
            clear hrun
            have lt_B0 := B0.lt
            have lt_B1 := B1.lt
            have lt_B2 := B2.lt
            have lt_B3 := B3.lt
            have lt_B4 := B4.lt
            go_wp2_with (first | rw [← zero64] | (refine wpList_load_any rfl 23 (.tmp 9) rfl _ rfl 64 23 _ (B4) _ Try.underlying23 rfl Try.size23 ?_) | (refine wpList_store_blk rfl 23 (.tmp 3) (.tmp 41) rfl _ 64 (mul ps ps) rfl rfl 23 _ (B0) Try.size23 ?_; try simp only [Act.put]))
            have qB0 : Blk (W6.setRow (w.heap.size) (bcells 64 (mul ps ps))) (w.heap.size) 64 23 (mul ps ps) := (B0.row (mul ps ps))
            have qB1 : Blk (W6.setRow (w.heap.size) (bcells 64 (mul ps ps))) (w.heap.size + 1) 64 23 (fun _ => 0) := (B1.rowOther (by omega))
            have qB2 : MapG Try.prog 23 (W6.setRow (w.heap.size) (bcells 64 (mul ps ps))) (N1) L := (B2.rowOther (by omega))
            have qB3 : Blk (W6.setRow (w.heap.size) (bcells 64 (mul ps ps))) (N2) 64 23 (mul po ps) := (B3.rowOther (by omega))
            have qB4 : Blk (W6.setRow (w.heap.size) (bcells 64 (mul ps ps))) (N3) 64 23 (mul ps ps) := (B4.rowOther (by omega))
            have qhb : Below w.heap.size w (W6.setRow (w.heap.size) (bcells 64 (mul ps ps))) := (below_row hb (by omega) _)
            obtain ⟨W7, hwo⟩ : ∃ v : World, v = (W6.setRow (w.heap.size) (bcells 64 (mul ps ps))) := ⟨_, rfl⟩
            rw [← hwo] at qB0 qB1 qB2 qB3 qB4 qhb ⊢
            clear hwo
            clear B0 B1 B2 B3 B4 hb
            have B0 := qB0
            have B1 := qB1
            have B2 := qB2
            have B3 := qB3
            have B4 := qB4
            have hb := qhb
            clear qB0 qB1 qB2 qB3 qB4 qhb
            try simp only [Act.put, List.setIfInBounds_toArray, List.set_cons_zero, List.set_cons_succ]
            go_roundw
            case rel => exact ⟨q, k / 2, mul po ps, mul ps ps, L, HV, HD.out, by omega, Lib.hid (fun _ => by have := HS2.out; rw [if_pos HO.out] at this; exact this), hL, by rw [show ((k / 2 : Nat) : Int) = (k : Int) / 2 by push_cast; rfl], hb, B0, B1, B2, B3⟩
            case measure => simp [intOf] <;> omega
        · have hq : (k : Int) / 2 = 0 := by omega
          have hq2 : ((k : Int).tdiv 2) = 0 := by rw [Int.tdiv_eq_ediv_of_nonneg (by omega)]; exact hq
          have HE := Lib.hid (show k / 2 = 0 by omega)
          clear h1
          go_wp2_with fail
          go_roundw
          case rel => exact ⟨q, 0, mul po ps, ps, L, Lib.hid (HV.out.trans (by rw [HE.out, pgR_z, pgR_z])), Nat.pow_pos (by omega), by omega, Lib.hid (fun h => absurd h (by omega)), hL, by simp, hb, B0, B1, B2, B3⟩
          case measure => simp [intOf] <;> omega
      · have hb1 : (((k : Int) % 2) == 1) = false := beq_eq_false_iff_ne.2 (by omega)
        have hb2 : (((k : Int).tmod 2) == 1) = false := by rw [Int.tmod_eq_emod_of_nonneg (by omega)]; exact hb1
        have HO := Lib.hid hodd
        have HV := Lib.hid (hP.out.trans (pgR_even hz hodd))
        have HD := Lib.hid (show k / 2 < 2 ^ q by have := HKQ.out; rw [Nat.pow_succ] at this; omega)
        clear hodd hz hP
        go_upto_region 6 with (fail)
        clear hb1 hb2
        by_cases h1 : 1 < k
        · have hq : 1 ≤ (k : Int) / 2 := by omega
          have hq2 : 0 < (k : Int) / 2 := by omega
          have HS2 := Lib.hid (HS.out k po ps HP.out h1)
          have HT := Lib.hid (fun W => HT2.out k po ps W HP.out h1)
          obtain ⟨kl, hkl⟩ := Try.keyOfPoly (HB.out k po ps HP.out)
          have HKL := Lib.hid hkl
          have hlk := B2.look Try.keyPoly Try.underlying121 (Try.zeroPoly _) true hkl
          clear hkl h1
          go_upto_region 8 with (fail)
          clear hq2
          rcases hlk with ⟨hrun, hno⟩ | ⟨v, hin, hrun⟩
          · simp only [if_true] at hrun
            have lt_B0 := B0.lt
            have lt_B1 := B1.lt
            have lt_B2 := B2.lt
            have lt_B3 := B3.lt
            go_upto_region 10 with (first | rw [← zero64] | (refine wpList_load_any rfl 23 (.tmp 3) rfl _ rfl 64 23 _ (B0) _ Try.underlying23 rfl Try.size23 ?_) | (at_lookup; refine wpList_look _ rfl _ _ 121 true rfl _ rfl _ rfl (.tuple #[.agg (bcells 64 fun _ => 0), .bool false]) hrun ?_) | (refine wpList_store_blk rfl 23 (.tmp 9) (.tmp 30) rfl _ 64 (fun _ => 0) rfl rfl 23 _ ((Blk.new wr 64 23 (fun _ => 0))) Try.size23 ?_; try simp only [Act.put]; go_upto_region 10 with (fail)))
            have lt_B0 := B0.lt
            have lt_B1 := B1.lt
            have lt_B2 := B2.lt
            have lt_B3 := B3.lt
            have lhb := hb.size
            have qB0 : Blk ((wr.alloc (.cells (bcells 64 fun _ => 0) 23)).setRow (wr.heap.size) (bcells 64 (fun _ => 0))) (w.heap.size) 64 23 (ps) := ((B0.alloc (.cells (bcells 64 fun _ => 0) 23)).rowOther (by omega))
            have qB1 : Blk ((wr.alloc (.cells (bcells 64 fun _ => 0) 23)).setRow (wr.heap.size) (bcells 64 (fun _ => 0))) (w.heap.size + 1) 64 23 (fun _ => 0) := ((B1.alloc (.cells (bcells 64 fun _ => 0) 23)).rowOther (by omega))
            have qB2 : MapG Try.prog 23 ((wr.alloc (.cells (bcells 64 fun _ => 0) 23)).setRow (wr.heap.size) (bcells 64 (fun _ => 0))) (N1) L := ((B2.alloc (.cells (bcells 64 fun _ => 0) 23)).rowOther (by omega))
            have qB3 : Blk ((wr.alloc (.cells (bcells 64 fun _ => 0) 23)).setRow (wr.heap.size) (bcells 64 (fun _ => 0))) (N2) 64 23 (po) := ((B3.alloc (.cells (bcells 64 fun _ => 0) 23)).rowOther (by omega))
            have qB4 : Blk ((wr.alloc (.cells (bcells 64 fun _ => 0) 23)).setRow (wr.heap.size) (bcells 64 (fun _ => 0))) (wr.heap.size) 64 23 (fun _ => 0) := ((Blk.new wr 64 23 (fun _ => 0)).row (fun _ => 0))
            have qhb : Below w.heap.size w ((wr.alloc (.cells (bcells 64 fun _ => 0) 23)).setRow (wr.heap.size) (bcells 64 (fun _ => 0))) := (below_row (hb.alloc (by have := hb.size; simp; omega) (.cells (bcells 64 fun _ => 0) 23)) (by omega) _)
            obtain ⟨W4, hwo⟩ : ∃ v : World, v = ((wr.alloc (.cells (bcells 64 fun _ => 0) 23)).setRow (wr.heap.size) (bcells 64 (fun _ => 0))) := ⟨_, rfl⟩
            rw [← hwo] at qB0 qB1 qB2 qB3 qB4 qhb ⊢
            clear hwo
            clear B0 B1 B2 B3 hb
            have B0 := qB0
            have B1 := qB1
            have B2 := qB2
            have B3 := qB3
            have B4 := qB4
            have hb := qhb
            clear qB0 qB1 qB2 qB3 qB4 qhb
            obtain ⟨N3, hNN⟩ : ∃ n : Nat, n = wr.heap.size := ⟨_, rfl⟩
            rw [← hNN] at lt_B0 lt_B1 lt_B2 lt_B3 lhb B4 ⊢
            clear hNN
            have zN3_0 := lt_B0
            have zN3_1 := lt_B1
            have zN3_2 := lt_B2
            have zN3_3 := lt_B3
            have zN3 := lhb
            clear lt_B0 lt_B1 lt_B2 lt_B3 lhb
            try simp only [Act.put, List.setIfInBounds_toArray, List.set_cons_zero, List.set_cons_succ]
            clear hrun
            have lt_B0 := B0.lt
            have lt_B1 := B1.lt
            have lt_B2 := B2.lt
            have lt_B3 := B3.lt
            have lt_B4 := B4.lt
            go_upto_region 11 with (first | rw [← zero64] | (refine wpList_load_any rfl 23 (.tmp 3) rfl _ rfl 64 23 _ (B0) _ Try.underlying23 rfl Try.size23 ?_) | (refine wpList_load_any rfl 23 (.tmp 3) rfl _ rfl 64 23 _ (B0) _ Try.underlying23 rfl Try.size23 ?_) | (go_at_call 187; refine (HT.out _ hb).mono ?_; rintro e W5 ⟨rfl, hW5⟩; replace B0 := B0.below hW5 B0.lt; replace B1 := B1.below hW5 B1.lt; replace B2 := B2.below hW5 B2.lt; replace B3 := B3.below hW5 B3.lt; replace B4 := B4.below hW5 B4.lt; replace hb := (hb).trans (hW5.mono (hb).size)) | (refine wpList_store_blk rfl 23 (.tmp 9) (.tmp 37) rfl _ 64 (mul ps ps) rfl rfl 23 _ (B4) Try.size23 ?_; try simp only [Act.put]))
            have qB0 : Blk (W5.setRow (N3) (bcells 64 (mul ps ps))) (w.heap.size) 64 23 (ps) := (B0.rowOther (by omega))
            have qB1 : Blk (W5.setRow (N3) (bcells 64 (mul ps ps))) (w.heap.size + 1) 64 23 (fun _ => 0) := (B1.rowOther (by omega))
            have qB2 : MapG Try.prog 23 (W5.setRow (N3) (bcells 64 (mul ps ps))) (N1) L := (B2.rowOther (by omega))
            have qB3 : Blk (W5.setRow (N3) (bcells 64 (mul ps ps))) (N2) 64 23 (po) := (B3.rowOther (by omega))
            have qB4 : Blk (W5.setRow (N3) (bcells 64 (mul ps ps))) (N3) 64 23 (mul ps ps) := (B4.row (mul ps ps))
            have qhb : Below w.heap.size w (W5.setRow (N3) (bcells 64 (mul ps ps))) := (below_row hb (by omega) _)
            obtain ⟨W6, hwo⟩ : ∃ v : World, v = (W5.setRow (N3) (bcells 64 (mul ps ps))) := ⟨_, rfl⟩
            rw [← hwo] at qB0 qB1 qB2 qB3 qB4 qhb ⊢
            clear hwo
            clear B0 B1 B2 B3 B4 hb
            have B0 := qB0
            have B1 := qB1
            have B2 := qB2
            have B3 := qB3
            have B4 := qB4
            have hb := qhb
            clear qB0 qB1 qB2 qB3 qB4 qhb
            try simp only [Act.put, List.setIfInBounds_toArray, List.set_cons_zero, List.set_cons_succ]
            obtain ⟨wM, hput, hmn, hgr⟩ := B2.put (val := .agg (bcells 64 (mul ps ps))) Try.keyPoly Try.underlying121 HKL.out hno
            have gB0 : Blk wM (w.heap.size) 64 23 (ps) := B0.grown hgr (by omega)
            have gB1 : Blk wM (w.heap.size + 1) 64 23 (fun _ => 0) := B1.grown hgr (by omega)
            have gB3 : Blk wM (N2) 64 23 (po) := B3.grown hgr (by omega)
            have gB4 : Blk wM (N3) 64 23 (mul ps ps) := B4.grown hgr (by omega)
            have ghb : Below w.heap.size w wM := hb.grown hgr hb.size (fun j e => by cases e; omega)
            go_upto_region 12 with (first | (refine wpList_load_any rfl 23 (.tmp 3) rfl _ rfl 64 23 _ (B0) _ Try.underlying23 rfl Try.size23 ?_) | (refine wpList_load_any rfl 23 (.tmp 9) rfl _ rfl 64 23 _ (B4) _ Try.underlying23 rfl Try.size23 ?_) | (at_mapUpdate; refine wpList_put _ rfl _ _ _ 121 rfl _ rfl _ rfl _ rfl wM hput ?_; go_upto_region 12 with (fail)))
            clear B0 B1 B2 B3 B4 hb hput hgr hno
            have B0 := gB0
            clear gB0
            have B1 := gB1
            clear gB1
            have B2 := hmn
            clear hmn
            have B3 := gB3
            clear gB3
            have B4 := gB4
            clear gB4
            have hb := ghb
            clear ghb
            have lt_B0 := B0.lt
            have lt_B1 := B1.lt
            have lt_B2 := B2.lt
            have lt_B3 := B3.lt
            have lt_B4 := B4.lt
            go_wp2_with (first | rw [← zero64] | (refine wpList_load_any rfl 23 (.tmp 9) rfl _ rfl 64 23 _ (B4) _ Try.underlying23 rfl Try.size23 ?_) | (refine wpList_store_blk rfl 23 (.tmp 3) (.tmp 41) rfl _ 64 (mul ps ps) rfl rfl 23 _ (B0) Try.size23 ?_; try simp only [Act.put]))
            have qB0 : Blk (wM.setRow (w.heap.size) (bcells 64 (mul ps ps))) (w.heap.size) 64 23 (mul ps ps) := (B0.row (mul ps ps))
            have qB1 : Blk (wM.setRow (w.heap.size) (bcells 64 (mul ps ps))) (w.heap.size + 1) 64 23 (fun _ => 0) := (B1.rowOther (by omega))
            have qB2 : MapG Try.prog 23 (wM.setRow (w.heap.size) (bcells 64 (mul ps ps))) (N1) (L ++ [(.agg (bcells 64 ps), .agg (bcells 64 (mul ps ps)))]) := (B2.rowOther (by omega))
            have qB3 : Blk (wM.setRow (w.heap.size) (bcells 64 (mul ps ps))) (N2) 64 23 (po) := (B3.rowOther (by omega))
            have qB4 : Blk (wM.setRow (w.heap.size) (bcells 64 (mul ps ps))) (N3) 64 23 (mul ps ps) := (B4.rowOther (by omega))
            have qhb : Below w.heap.size w (wM.setRow (w.heap.size) (bcells 64 (mul ps ps))) := (below_row hb (by omega) _)
            obtain ⟨W7, hwo⟩ : ∃ v : World, v = (wM.setRow (w.heap.size) (bcells 64 (mul ps ps))) := ⟨_, rfl⟩
            rw [← hwo] at qB0 qB1 qB2 qB3 qB4 qhb ⊢
            clear hwo
            clear B0 B1 B2 B3 B4 hb
            have B0 := qB0
            have B1 := qB1
            have B2 := qB2
            have B3 := qB3
            have B4 := qB4
            have hb := qhb
            clear qB0 qB1 qB2 qB3 qB4 qhb
            try simp only [Act.put, List.setIfInBounds_toArray, List.set_cons_zero, List.set_cons_succ]
            go_roundw
            case rel => exact ⟨q, k / 2, po, mul ps ps, L ++ [(.agg (bcells 64 ps), .agg (bcells 64 (mul ps ps)))], HV, HD.out, by omega, Lib.hid (fun _ => by have := HS2.out; rw [if_neg HO.out] at this; exact this), Lib.hid (by intro q hq; rcases List.mem_append.1 hq with h | h; exact hL.out q h; rw [List.mem_singleton] at h; subst h; exact ⟨ps, rfl, rfl⟩), by rw [show ((k / 2 : Nat) : Int) = (k : Int) / 2 by push_cast; rfl], hb, B0, B1, B2, B3⟩
            case measure => simp [intOf] <;> omega
          · simp only [if_true] at hrun
            obtain rfl : v = .agg (bcells 64 (mul ps ps)) := by
              obtain ⟨x, e1, e2⟩ := hL.out _ hin
              have e3 : (Value.agg (bcells 64 ps)) = .agg (bcells 64 x) := e1
              have e4 : bcells 64 ps = bcells 64 x := by injection e3
              have e5 : v = .agg (bcells 64 (mul x x)) := e2
              rw [e5, HC.out x ps (fun i hi => (bcells_inj e4 i hi).symm)]
            clear hin
            have lt_B0 := B0.lt
            have lt_B1 := B1.lt
            have lt_B2 := B2.lt
            have lt_B3 := B3.lt
            go_upto_region 12 with (first | rw [← zero64] | (refine wpList_load_any rfl 23 (.tmp 3) rfl _ rfl 64 23 _ (B0) _ Try.underlying23 rfl Try.size23 ?_) | (at_lookup; refine wpList_look _ rfl _ _ 121 true rfl _ rfl _ rfl (.tuple #[.agg (bcells 64 (mul ps ps)), .bool true]) hrun ?_) | (refine wpList_store_blk rfl 23 (.tmp 9) (.tmp 30) rfl _ 64 (mul ps ps) rfl rfl 23 _ ((Blk.new wr 64 23 (fun _ => 0))) Try.size23 ?_; try simp only [Act.put]; go_upto_region 12 with (fail)))
            have lt_B0 := B0.lt
            have lt_B1 := B1.lt
            have lt_B2 := B2.lt
            have lt_B3 := B3.lt
            have lhb := hb.size
            have qB0 : Blk ((wr.alloc (.cells (bcells 64 fun _ => 0) 23)).setRow (wr.heap.size) (bcells 64 (mul ps ps))) (w.heap.size) 64 23 (ps) := ((B0.alloc (.cells (bcells 64 fun _ => 0) 23)).rowOther (by omega))
            have qB1 : Blk ((wr.alloc (.cells (bcells 64 fun _ => 0) 23)).setRow (wr.heap.size) (bcells 64 (mul ps ps))) (w.heap.size + 1) 64 23 (fun _ => 0) := ((B1.alloc (.cells (bcells 64 fun _ => 0) 23)).rowOther (by omega))
            have qB2 : MapG Try.prog 23 ((wr.alloc (.cells (bcells 64 fun _ => 0) 23)).setRow (wr.heap.size) (bcells 64 (mul ps ps))) (N1) L := ((B2.alloc (.cells (bcells 64 fun _ => 0) 23)).rowOther (by omega))
            have qB3 : Blk ((wr.alloc (.cells (bcells 64 fun _ => 0) 23)).setRow (wr.heap.size) (bcells 64 (mul ps ps))) (N2) 64 23 (po) := ((B3.alloc (.cells (bcells 64 fun _ => 0) 23)).rowOther (by omega))
            have qB4 : Blk ((wr.alloc (.cells (bcells 64 fun _ => 0) 23)).setRow (wr.heap.size) (bcells 64 (mul ps ps))) (wr.heap.size) 64 23 (mul ps ps) := ((Blk.new wr 64 23 (fun _ => 0)).row (mul ps ps))
            have qhb : Below w.heap.size w ((wr.alloc (.cells (bcells 64 fun _ => 0) 23)).setRow (wr.heap.size) (bcells 64 (mul ps ps))) := (below_row (hb.alloc (by have := hb.size; simp; omega) (.cells (bcells 64 fun _ => 0) 23)) (by omega) _)
            obtain ⟨W4, hwo⟩ : ∃ v : World, v = ((wr.alloc (.cells (bcells 64 fun _ => 0) 23)).setRow (wr.heap.size) (bcells 64 (mul ps ps))) := ⟨_, rfl⟩
            rw [← hwo] at qB0 qB1 qB2 qB3 qB4 qhb ⊢
            clear hwo
            clear B0 B1 B2 B3 hb
            have B0 := qB0
            have B1 := qB1
            have B2 := qB2
            have B3 := qB3
            have B4 := qB4
            have hb := qhb
            clear qB0 qB1 qB2 qB3 qB4 qhb
            obtain ⟨N3, hNN⟩ : ∃ n : Nat, n = wr.heap.size := ⟨_, rfl⟩
            rw [← hNN] at lt_B0 lt_B1 lt_B2 lt_B3 lhb B4 ⊢
            clear hNN
            have zN3_0 := lt_B0
            have zN3_1 := lt_B1
            have zN3_2 := lt_B2
            have zN3_3 := lt_B3
            have zN3 := lhb
            clear lt_B0 lt_B1 lt_B2 lt_B3 lhb
            try simp only [Act.put, List.setIfInBounds_toArray, List.set_cons_zero, List.set_cons_succ]
            clear hrun
            have lt_B0 := B0.lt
            have lt_B1 := B1.lt
            have lt_B2 := B2.lt
            have lt_B3 := B3.lt
            have lt_B4 := B4.lt
            go_wp2_with (first | rw [← zero64] | (refine wpList_load_any rfl 23 (.tmp 9) rfl _ rfl 64 23 _ (B4) _ Try.underlying23 rfl Try.size23 ?_) | (refine wpList_store_blk rfl 23 (.tmp 3) (.tmp 41) rfl _ 64 (mul ps ps) rfl rfl 23 _ (B0) Try.size23 ?_; try simp only [Act.put]))
            have qB0 : Blk (W4.setRow (w.heap.size) (bcells 64 (mul ps ps))) (w.heap.size) 64 23 (mul ps ps) := (B0.row (mul ps ps))
            have qB1 : Blk (W4.setRow (w.heap.size) (bcells 64 (mul ps ps))) (w.heap.size + 1) 64 23 (fun _ => 0) := (B1.rowOther (by omega))
            have qB2 : MapG Try.prog 23 (W4.setRow (w.heap.size) (bcells 64 (mul ps ps))) (N1) L := (B2.rowOther (by omega))
            have qB3 : Blk (W4.setRow (w.heap.size) (bcells 64 (mul ps ps))) (N2) 64 23 (po) := (B3.rowOther (by omega))
            have qB4 : Blk (W4.setRow (w.heap.size) (bcells 64 (mul ps ps))) (N3) 64 23 (mul ps ps) := (B4.rowOther (by omega))
            have qhb : Below w.heap.size w (W4.setRow (w.heap.size) (bcells 64 (mul ps ps))) := (below_row hb (by omega) _)
            obtain ⟨W5, hwo⟩ : ∃ v : World, v = (W4.setRow (w.heap.size) (bcells 64 (mul ps ps))) := ⟨_, rfl⟩
            rw [← hwo] at qB0 qB1 qB2 qB3 qB4 qhb ⊢
            clear hwo
            clear B0 B1 B2 B3 B4 hb
            have B0 := qB0
            have B1 := qB1
            have B2 := qB2
            have B3 := qB3
            have B4 := qB4
            have hb := qhb
            clear qB0 qB1 qB2 qB3 qB4 qhb
            try simp only [Act.put, List.setIfInBounds_toArray, List.set_cons_zero, List.set_cons_succ]
            go_roundw
            case rel => exact ⟨q, k / 2, po, mul ps ps, L, HV, HD.out, by omega, Lib.hid (fun _ => by have := HS2.out; rw [if_neg HO.out] at this; exact this), hL, by rw [show ((k / 2 : Nat) : Int) = (k : Int) / 2 by push_cast; rfl], hb, B0, B1, B2, B3⟩
            case measure => simp [intOf] <;> omega
        · have hq : (k : Int) / 2 = 0 := by omega
          have hq2 : ((k : Int).tdiv 2) = 0 := by rw [Int.tdiv_eq_ediv_of_nonneg (by omega)]; exact hq
          have HE := Lib.hid (show k / 2 = 0 by omega)
          clear h1
          go_wp2_with fail
          go_roundw
          case rel => exact ⟨q, 0, po, ps, L, Lib.hid (HV.out.trans (by rw [HE.out, pgR_z, pgR_z])), Nat.pow_pos (by omega), by omega, Lib.hid (fun h => absurd h (by omega)), hL, by simp, hb, B0, B1, B2, B3⟩
          case measure => simp [intOf] <;> omega
end Go.Proofs.Ytbjpkmbhbpcbgaa
namespace Go.Proofs.Ytbjpkmbhbpcbgaa
open Go.RowKit
set_option linter.unusedVariables false
set_option linter.unusedSimpArgs false
attribute [local irreducible] deg invN dS qS stp stpr quoP resP oneP upP upF hmR mmP shA addK pgR mmC pmI pmP
theorem pmI_pmP {p k : Nat} {a m : Nat → Nat} (hp : p = 2 ∨ p = 3 ∨ p = 5 ∨ p = 7) (ha : ∀ i, i < 64 → a i < p) (hm : ∀ k, k < 64 → m k < p) (h0 : 0 ≤ deg m) (hk : k < 2 ^ 64) : ∀ i, i < 64 → pmI p a k m i = pmP p a k m i :=
  res_sameN hp (fun i hi => pmI_lt (by omega) i hi) (pmP_spec hp ha hm h0 hk).1 hm h0 (pmI_spec hp hm h0 hk).1 (pmP_spec hp ha hm h0 hk).2.1 (rm_trans (pmI_spec hp hm h0 hk).2 (rm_symm (pmP_spec hp ha hm h0 hk).2.2))
theorem powMod_any (p : Nat) (f : Nat → Nat) (k0 : Nat) (m : Nat → Nat) (bp bm : Nat) (w : World) (hpr : p = 2 ∨ p = 3 ∨ p = 5 ∨ p = 7) (lf : ∀ k, k < 64 → f k < p) (lm : ∀ k, k < 64 → m k < p) (h0 : 0 ≤ deg m) (hk0 : (k0 : Int) ≤ 1000000000000)
    (B0 : One w bp 2 (.int .i64 (p : Int))) (B1 : Blk w bm 64 23 m) :
    Calls Try.prog 81 #[.agg (bcells 64 f), .int .i64 (k0 : Int), .func (.func 187) #[] #[.pointer (some ⟨bp, 0, none⟩), .pointer (some ⟨bm, 0, none⟩)]] w fun e w' => e = .returned (.agg (bcells 64 (pgR (mmC p m) 64 k0 oneP f))) ∧ Below w.heap.size w w' := by
  have p0 : 0 < p := by omega
  have key : ∀ (x y : Nat → Nat) W, (∀ i, i < 64 → x i < p) → (∀ i, i < 64 → y i < p) → Below w.heap.size w W → Calls Try.prog 187 #[.agg (bcells 64 x), .agg (bcells 64 y), .pointer (some ⟨bp, 0, none⟩), .pointer (some ⟨bm, 0, none⟩)] W fun e w' => e = .returned (.agg (bcells 64 (mmC p m x y))) ∧ Below W.heap.size W w' := by
    intro x y W hx hy hB
    have := timesMod_any p (cut x) (cut y) m bp bm W hpr (fun k hk => by rw [cut_in _ hk]; exact hx k hk) (fun k hk => by rw [cut_in _ hk]; exact hy k hk) lm h0 (B0.below hB B0.lt) (B1.below hB B1.lt)
    rw [bcells_cut, bcells_cut] at this
    unfold mmC
    exact this
  exact powerMod (mmC p m) (fun _ r s => (∀ i, i < 64 → r i < p) ∧ ∀ i, i < 64 → s i < p) _ _ f k0 w
    (Lib.hid fun k r s W hP _ hB => key r s W hP.1 hP.2 hB) (Lib.hid fun k r s W hP _ hB => key s s W hP.2 hP.2 hB)
    (Lib.hid fun k r s hP _ => ⟨fun i hi => by
      by_cases h : k % 2 = 1
      · rw [if_pos h]; exact mmC_lt p0 m r s i hi
      · rw [if_neg h]; exact hP.1 i hi, mmC_lt p0 m s s⟩)
    (Lib.hid fun x y h => by unfold mmC; rw [cut_eq h]) (Lib.hid fun k r s hP i hi => by have := hP.2 i hi; omega) (fun _ => ⟨fun i _ => by unfold oneP; split <;> omega, lf⟩) hk0
set_option maxRecDepth 100000 in
set_option maxHeartbeats 1600000 in
theorem powerModulo_any (p : Nat) (f : Nat → Nat) (k0 : Nat) (m : Nat → Nat) (w : World) (hpr : p = 2 ∨ p = 3 ∨ p = 5 ∨ p = 7) (lf : ∀ k, k < 64 → f k < p) (lm : ∀ k, k < 64 → m k < p) (h0 : 0 ≤ deg m) (hk0 : (k0 : Int) ≤ 1000000000000) :
    Calls Try.prog 159 #[.int .i64 (p : Int), .agg (bcells 64 f), .int .i64 (k0 : Int), .agg (bcells 64 m)] w fun e w' => e = .returned (.agg (bcells 64 (pmP p f k0 m))) ∧ Below w.heap.size w w' := by
  have p0 : 0 < p := by omega
  have HE := Lib.hid (show bcells 64 (resP p (pgR (mmC p m) 64 k0 oneP f) m) = bcells 64 (pmP p f k0 m) from bcells_congr (by
    have := pmI_pmP (k := k0) hpr lf lm h0 (by have h6 : (1000000000000 : Nat) < 2 ^ 64 := (by decide); omega)
    unfold pmI at this; exact this))
  have HPW := Lib.hid (fun bp bm W => powMod_any p f k0 m bp bm W hpr lf lm h0 hk0)
  have HRO := Lib.hid (fun W => restOf_any p (pgR (mmC p m) 64 k0 oneP f) m W hpr (pgR_lt (mmC_lt p0 m) 64 k0 oneP f (fun i _ => by unfold oneP; split <;> omega)) lm h0)
  have hmf : ∀ (fn : Fn) (first cap : Array Value) (w : World), (Instr.makeFunc fn first cap).run Try.prog w = .ok (.func fn first cap) w := fun _ _ _ _ => rfl
  go_enter Try.func159, Try.ntmps159
  go_upto_region 1 with (fail)
  rw [← zero64]
  obtain ⟨W1, hwo⟩ : ∃ v : World, v = ((((w.alloc (.cells #[(.int .i64 (p : Int))] 2)).alloc (.cells (bcells 64 (f)) 23)).alloc (.cells (bcells 64 (m)) 23)).alloc (.cells (bcells 64 fun _ => 0) 23)) := ⟨_, rfl⟩
  have B0 : One W1 (w.heap.size) 2 (.int .i64 (p : Int)) := by subst hwo; have := ((((One.new w 2 (.int .i64 (p : Int))).alloc (.cells (bcells 64 (f)) 23)).alloc (.cells (bcells 64 (m)) 23)).alloc (.cells (bcells 64 fun _ => 0) 23)); simpa using this
  have B1 : Blk W1 (w.heap.size + 1) 64 23 (f) := by subst hwo; have := (((Blk.new (w.alloc (.cells #[(.int .i64 (p : Int))] 2)) 64 23 (f)).alloc (.cells (bcells 64 (m)) 23)).alloc (.cells (bcells 64 fun _ => 0) 23)); simpa using this
  have B2 : Blk W1 (w.heap.size + 1 + 1) 64 23 (m) := by subst hwo; have := ((Blk.new ((w.alloc (.cells #[(.int .i64 (p : Int))] 2)).alloc (.cells (bcells 64 (f)) 23)) 64 23 (m)).alloc (.cells (bcells 64 fun _ => 0) 23)); simpa using this
  have B3 : Blk W1 (w.heap.size + 1 + 1 + 1) 64 23 (fun _ => 0) := by subst hwo; have := (Blk.new (((w.alloc (.cells #[(.int .i64 (p : Int))] 2)).alloc (.cells (bcells 64 (f)) 23)).alloc (.cells (bcells 64 (m)) 23)) 64 23 (fun _ => 0)); simpa using this
  have hb : Below w.heap.size w W1 := by subst hwo; exact (((((Below.refl _ _).alloc (Nat.le_refl _) _).alloc (by simp) _).alloc (by simp; omega) _).alloc (by simp; omega) _)
  rw [← hwo]
  clear hwo
  go_upto_region 2 with (fail)
  clear hmf
  have lt_B0 : (w.heap.size) < W1.heap.size := B0.lt
  have lt_B1 : (w.heap.size + 1) < W1.heap.size := B1.lt
  have lt_B2 : (w.heap.size + 1 + 1) < W1.heap.size := B2.lt
  have lt_B3 : (w.heap.size + 1 + 1 + 1) < W1.heap.size := B3.lt
  have hbase : w.heap.size ≤ W1.heap.size := hb.size
  refine wp_region_steps0 Try.mixed (by kernel_rfl) (by kernel_rfl) (fun v => by (simp only [frL, Act.put, List.setIfInBounds_toArray, List.set_cons_zero, List.set_cons_succ, Nat.reduceAdd, Nat.zero_add]; exact rfl))
    (fun L v W2 => Below w.heap.size w W2 ∧ W1.heap.size ≤ W2.heap.size ∧ One W2 (w.heap.size) 2 (.int .i64 (p : Int)) ∧ Blk W2 (w.heap.size + 1) 64 23 (f) ∧ Blk W2 (w.heap.size + 1 + 1) 64 23 (m) ∧ (∃ g, Blk W2 (w.heap.size + 1 + 1 + 1) 64 23 (g)) ∧ (L 7 = false → Blk W2 (w.heap.size + 1 + 1 + 1) 64 23 (fun _ => 0)) ∧ (L 7 = true → Blk W2 (w.heap.size + 1 + 1 + 1) 64 23 (resP p (pgR (mmC p m) 64 k0 oneP f) m)) ∧ (L 0 = true → v 0 = (.int .i64 (p : Int))) ∧ (L 1 = true → v 1 = (.agg (bcells 64 (f)))) ∧ (L 2 = true → v 2 = (.int .i64 (k0 : Int))) ∧ (L 3 = true → v 3 = (.func (.func 187) #[] #[(.pointer (some ⟨w.heap.size, 0, none⟩)), (.pointer (some ⟨w.heap.size + 1 + 1, 0, none⟩))])) ∧ (L 4 = true → v 4 = (.agg (bcells 64 (pgR (mmC p m) 64 k0 oneP f)))) ∧ (L 5 = true → v 5 = (.agg (bcells 64 (m)))) ∧ (L 6 = true → v 6 = (.agg (bcells 64 (resP p (pgR (mmC p m) 64 k0 oneP f) m))))) ?_ ?_ ?_
  · intro v hv0
    exact ⟨hb.drew, Nat.le_refl _, B0.drew, B1.drew, B2.drew, ⟨_, B3.drew⟩, (fun _ => B3.drew), (fun h => by cases h), (fun h => by cases h), (fun h => by cases h), (fun h => by cases h), (fun h => by cases h), (fun h => by cases h), (fun h => by cases h), (fun h => by cases h)⟩
  · refine (.cons rfl ?_ (.cons rfl ?_ (.cons rfl ?_ (.cons rfl ?_ (.cons rfl ?_ (.cons rfl ?_ (.cons rfl ?_ (.cons rfl ?_ (.nil _)))))))))
    · intro L v W2 hd hn ⟨hB, hz, s0, s1, s2, x3, q3, n3, h0, h1, h2, h3, h4, h5, h6⟩ K hK
      refine wp_load_one 2 _ rfl _ rfl 2 _ s0 _ Try.underlying2 rfl ?_
      exact hK _ _ _ rfl ⟨hB, hz, s0, s1, s2, x3, q3, n3, (fun _ => rfl), h1, h2, h3, h4, h5, h6⟩
    · intro L v W2 hd hn ⟨hB, hz, s0, s1, s2, x3, q3, n3, h0, h1, h2, h3, h4, h5, h6⟩ K hK
      refine wp_load_any 23 _ rfl _ rfl 64 23 _ s1 _ Try.underlying23 rfl Try.size23 ?_
      exact hK _ _ _ rfl ⟨hB, hz, s0, s1, s2, x3, q3, n3, h0, (fun _ => rfl), h2, h3, h4, h5, h6⟩
    · intro L v W2 hd hn ⟨hB, hz, s0, s1, s2, x3, q3, n3, h0, h1, h2, h3, h4, h5, h6⟩ K hK
      go_wp2_with fail
      exact hK _ (.int .i64 (k0 : Int)) _ (by simp only [Act.put, List.setIfInBounds_toArray, List.set_cons_zero, List.set_cons_succ ]) ⟨hB, hz, s0, s1, s2, x3, q3, n3, h0, h1, (fun _ => rfl), h3, h4, h5, h6⟩
    · intro L v W2 hd hn ⟨hB, hz, s0, s1, s2, x3, q3, n3, h0, h1, h2, h3, h4, h5, h6⟩ K hK
      go_wp2_with fail
      exact hK _ (.func (.func 187) #[] #[(.pointer (some ⟨w.heap.size, 0, none⟩)), (.pointer (some ⟨w.heap.size + 1 + 1, 0, none⟩))]) _ (by simp only [Act.put, List.setIfInBounds_toArray, List.set_cons_zero, List.set_cons_succ ]) ⟨hB, hz, s0, s1, s2, x3, q3, n3, h0, h1, h2, (fun _ => rfl), h4, h5, h6⟩
    · intro L v W2 hd hn ⟨hB, hz, s0, s1, s2, x3, q3, n3, h0, h1, h2, h3, h4, h5, h6⟩ K hK
      have e1 := h1 (hd ⟨1, .data⟩ (by simp) rfl)
      have e2 := h2 (hd ⟨2, .data⟩ (by simp) rfl)
      have e3 := h3 (hd ⟨3, .data⟩ (by simp) rfl)
      go_wp2_with (go_at_call 81; refine (HPW.out _ _ _ s0 s2).mono ?_; rintro e wy ⟨rfl, hy⟩)
      exact hK _ (.agg (bcells 64 (pgR (mmC p m) 64 k0 oneP f))) _ (by simp only [Act.put, List.setIfInBounds_toArray, List.set_cons_zero, List.set_cons_succ, e1, e2, e3]) ⟨hB.trans (hy.mono hB.size), (Nat.le_trans hz hy.size), (s0).below hy (s0).lt, (s1).below hy (s1).lt, (s2).below hy (s2).lt, (let ⟨g, h⟩ := x3; ⟨g, (h).below hy (h).lt⟩), (fun h => (q3 h).below hy (q3 h).lt), (fun h => (n3 h).below hy (n3 h).lt), h0, h1, h2, h3, (fun _ => rfl), h5, h6⟩
    · intro L v W2 hd hn ⟨hB, hz, s0, s1, s2, x3, q3, n3, h0, h1, h2, h3, h4, h5, h6⟩ K hK
      refine wp_load_any 23 _ rfl _ rfl 64 23 _ s2 _ Try.underlying23 rfl Try.size23 ?_
      exact hK _ _ _ rfl ⟨hB, hz, s0, s1, s2, x3, q3, n3, h0, h1, h2, h3, h4, (fun _ => rfl), h6⟩
    · intro L v W2 hd hn ⟨hB, hz, s0, s1, s2, x3, q3, n3, h0, h1, h2, h3, h4, h5, h6⟩ K hK
      have e0 := h0 (hd ⟨0, .data⟩ (by simp) rfl)
      have e4 := h4 (hd ⟨4, .data⟩ (by simp) rfl)
      have e5 := h5 (hd ⟨5, .data⟩ (by simp) rfl)
      go_wp2_with (go_at_call 113; refine (HRO.out _).mono ?_; rintro e wy ⟨rfl, hy⟩)
      exact hK _ (.agg (bcells 64 (resP p (pgR (mmC p m) 64 k0 oneP f) m))) _ (by simp only [Act.put, List.setIfInBounds_toArray, List.set_cons_zero, List.set_cons_succ, e0, e4, e5]) ⟨hB.trans (hy.mono hB.size), (Nat.le_trans hz hy.size), (s0).below hy (s0).lt, (s1).below hy (s1).lt, (s2).below hy (s2).lt, (let ⟨g, h⟩ := x3; ⟨g, (h).below hy (h).lt⟩), (fun h => (q3 h).below hy (q3 h).lt), (fun h => (n3 h).below hy (n3 h).lt), h0, h1, h2, h3, h4, h5, (fun _ => rfl)⟩
    · intro L v W2 hd hn ⟨hB, hz, s0, s1, s2, x3, q3, n3, h0, h1, h2, h3, h4, h5, h6⟩ K hK
      have e6 := h6 (hd ⟨6, .data⟩ (by simp) rfl)
      obtain ⟨gz, hk⟩ := x3
      refine wp_store_blk 23 _ _ rfl _ 64 (resP p (pgR (mmC p m) 64 k0 oneP f) m) rfl e6 23 gz hk Try.size23 ?_
      exact hK _ undef _ rfl ⟨below_row hB (by omega) _, (by simpa [World.setRow] using hz), (s0).rowOther (by omega), (s1).rowOther (by omega), (s2).rowOther (by omega), ⟨_, hk.row _⟩, (fun h => absurd h (by simp [setL])), (fun _ => hk.row _), h0, h1, h2, h3, h4, h5, h6⟩
  · intro L v W2 hL ⟨hB, hz, s0, s1, s2, x3, q3, n3, h0, h1, h2, h3, h4, h5, h6⟩
    have r3 := n3 (hL 7 (by decide))
    have e0 := h0 (hL 0 (by decide))
    have e1 := h1 (hL 1 (by decide))
    have e2 := h2 (hL 2 (by decide))
    have e3 := h3 (hL 3 (by decide))
    have e4 := h4 (hL 4 (by decide))
    have e5 := h5 (hL 5 (by decide))
    have e6 := h6 (hL 6 (by decide))
    clear hL x3 q3 n3 h0 h1 h2 h3 h4 h5 h6
    simp only [Exit.then, e0, e1, e2, e3, e4, e5, e6]
    clear e0 e1 e2 e3 e4 e5 e6
    clear B0
    have B0 := s0
    clear s0
    clear B1
    have B1 := s1
    clear s1
    clear B2
    have B2 := s2
    clear s2
    clear B3
    have B3 := r3
    clear r3
    clear hb
    have hb := hB
    clear hB
    clear hbase hz lt_B0 lt_B1 lt_B2 lt_B3
    go_wp2_with fail
    refine bodyPost_ret (results_blk rfl _ _ _ 64 23 5 _ rfl B3 Try.underlying23 Try.size23) rfl ⟨by rw [HE.out], hb⟩
/-- both answers -/
def pwV (p : Int) (f : Nat → Nat) (k : Int) (m : Nat → Nat) : (Nat → Nat) × Int := if codeL p [f, m] = 0 then (if 0 ≤ k ∧ k ≤ 1000000000000 then (if deg m < 0 then (fun _ => 0, 5) else (pmP p.toNat f k.toNat m, 0)) else (fun _ => 0, 2)) else (fun _ => 0, 1)
theorem pwV_1 {p k : Int} {f m : Nat → Nat} (h : codeL p [f, m] = 1) : pwV p f k m = (fun _ => 0, 1) := by unfold pwV; rw [if_neg (by omega)]
theorem pwV_2 {p k : Int} {f m : Nat → Nat} (h : codeL p [f, m] = 0) (h2 : ¬ (0 ≤ k ∧ k ≤ 1000000000000)) : pwV p f k m = (fun _ => 0, 2) := by unfold pwV; rw [if_pos h, if_neg h2]
theorem pwV_5 {p k : Int} {f m : Nat → Nat} (h : codeL p [f, m] = 0) (h2 : 0 ≤ k ∧ k ≤ 1000000000000) (h3 : deg m < 0) : pwV p f k m = (fun _ => 0, 5) := by unfold pwV; rw [if_pos h, if_pos h2, if_pos h3]
theorem pwV_0 {n k : Nat} {f m : Nat → Nat} (h : codeL (n : Int) [f, m] = 0) (h2 : 0 ≤ (k : Int) ∧ (k : Int) ≤ 1000000000000) (h3 : ¬ deg m < 0) : pwV (n : Int) f (k : Int) m = (pmP n f k m, 0) := by
  unfold pwV; rw [if_pos h, if_pos h2, if_neg h3]; rfl
end Go.Proofs.Ytbjpkmbhbpcbgaa
