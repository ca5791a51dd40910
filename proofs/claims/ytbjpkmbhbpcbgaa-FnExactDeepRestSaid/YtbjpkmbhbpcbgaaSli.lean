/-
  Slices of arrays of bytes that a literal lays out ('list ...Poly').
-/
import Derived.Test.YtbjpkmbhbpcbgaaBase
import Derived.Great.BuildSlice
namespace Go.Proofs.Ytbjpkmbhbpcbgaa
open Go.RowKit

theorem foldl_set : ∀ (vs : List Value) (k : Nat) (pre post old : List Value), old.length = vs.length → pre.length = k →
    (vs.zipIdx 0).foldl (fun (cs : Array Value) (x : Value × Nat) => cs.setIfInBounds (k + x.2) x.1) (pre ++ old ++ post).toArray = (pre ++ vs ++ post).toArray := by
  have key : ∀ (vs : List Value) (j k : Nat) (pre post old : List Value), old.length = vs.length → pre.length = k + j →
      (vs.zipIdx j).foldl (fun (cs : Array Value) (x : Value × Nat) => cs.setIfInBounds (k + x.2) x.1) (pre ++ old ++ post).toArray = (pre ++ vs ++ post).toArray := by
    intro vs
    induction vs with
    | nil => intro j k pre post old h _; have : old = [] := List.length_eq_zero_iff.1 h; subst this; rfl
    | cons v vs ih =>
      intro j k pre post old h hp
      cases old with
      | nil => simp at h
      | cons o old =>
        simp only [List.zipIdx_cons, List.foldl_cons]
        have e : (pre ++ o :: old ++ post).toArray.setIfInBounds (k + j) v = ((pre ++ [v]) ++ old ++ post).toArray := by
          rw [List.setIfInBounds_toArray]
          congr 1
          rw [← hp]
          simp
        rw [e, ih (j + 1) k (pre ++ [v]) post old (by simpa using h) (by simp; omega)]
        simp
  intro vs k pre post old h hp
  exact key vs 0 k pre post old h (by omega)
theorem fill_cat (sz : Nat) : ∀ (vss : List (List Value)) (k : Nat) (pre old : List Value), (∀ vs ∈ vss, vs.length = sz) → pre.length = k * sz → old.length = vss.length * sz →
    Instr.fill (fun i => some (i * sz, sz)) (pre ++ old).toArray ((vss.zipIdx k).map fun x => (x.2, Value.agg x.1.toArray)) = some (pre ++ vss.flatten).toArray := by
  intro vss
  induction vss with
  | nil => intro k pre old _ _ h; have : old = [] := List.length_eq_zero_iff.1 (by simpa using h); subst this; simp [Instr.fill]
  | cons vs vss ih =>
    intro k pre old hs hp ho
    have h1 : vs.length = sz := hs vs (by simp)
    have hlen : sz ≤ old.length := by rw [ho, List.length_cons, Nat.succ_mul]; omega
    simp only [List.zipIdx_cons, List.map_cons, Instr.fill]
    have hc : (Value.agg vs.toArray).cells = vs.toArray := rfl
    rw [hc, if_neg (by simp; omega)]
    have := foldl_set vs (k * sz) pre (old.drop sz) (old.take sz) (by simp; omega) hp
    rw [List.append_assoc, List.take_append_drop] at this
    have e : ∀ (cs : Array Value), vs.toArray.zipIdx.foldl (fun cs x => cs.setIfInBounds (k * sz + x.2) x.1) cs = (vs.zipIdx 0).foldl (fun cs x => cs.setIfInBounds (k * sz + x.2) x.1) cs := by
      intro cs
      rw [← Array.foldl_toList]
      simp
    rw [e, this]
    have := ih (k + 1) (pre ++ vs) (old.drop sz) (fun v hv => hs v (by simp [hv])) (by simp [hp, h1, Nat.succ_mul]) (by simp [ho, Nat.succ_mul])
    rw [this]
    simp

/-- block b holds the polynomials fs, one behind the other -/
def PolS (w : World) (b : Nat) (fs : List (Nat → Nat)) : Prop := w.heap[b]? = some (.cells ((fs.map (bl 64)).flatten).toArray 23 (0, 0))
theorem PolS.lt {w : World} {b : Nat} {fs : List (Nat → Nat)} (h : PolS w b fs) : b < w.heap.size := by
  unfold PolS at h
  exact (Array.getElem?_eq_some_iff.1 h).1
theorem PolS.below {w w' : World} {B b : Nat} {fs : List (Nat → Nat)} (h : PolS w b fs) (hb : Below B w w') (e : b < B) : PolS w' b fs := by
  unfold PolS at *; rw [hb.block b e]; exact h
theorem flat_get : ∀ (fs : List (Nat → Nat)) (i : Nat) (f : Nat → Nat) (j : Nat), fs[i]? = some f → j < 64 → ((fs.map (bl 64)).flatten)[i * 64 + j]? = some (.int .u8 (f j : Int))
  | [], _, _, _, h, _ => by simp at h
  | g :: fs, 0, f, j, h, hj => by
    simp only [List.getElem?_cons_zero, Option.some.injEq] at h
    subst h
    rw [List.map_cons, List.flatten_cons, Nat.zero_mul, Nat.zero_add, List.getElem?_append_left (by rw [bl_length]; exact hj)]
    simp [bl, hj]
  | g :: fs, i + 1, f, j, h, hj => by
    rw [List.map_cons, List.flatten_cons, List.getElem?_append_right (by rw [bl_length]; omega), bl_length]
    have := flat_get fs i f j (by simpa using h) hj
    rw [show (i + 1) * 64 + j - 64 = i * 64 + j by omega]
    exact this
theorem PolS.range {w : World} {b : Nat} {fs : List (Nat → Nat)} (h : PolS w b fs) {i : Nat} {f : Nat → Nat} (hi : fs[i]? = some f) : w.rangeAt b (i * 64) (bl 64 f) := by
  intro j v hv
  have hj : j < 64 := by
    have := (List.getElem?_eq_some_iff.1 hv).1
    rwa [bl_length] at this
  rw [cell_of_row _ _ _ _ _ _ h]
  have e : (bl 64 f)[j]? = some (.int .u8 (f j : Int)) := by simp [bl, hj]
  rw [e] at hv
  injection hv with hv
  subst hv
  simpa using flat_get fs i f j hi hj
section
variable {P : Program}
theorem wpList_build_polys {ops : Array Oper} {rest : List Oper} {o : Oper} {a : Act} {w : World} {Q : Exit → Act → World → Prop} (hg : o.guard = none) (t : TypeId) (parts : Array (Nat × Operand)) (fs : List (Nat → Nat))
    (ho : o.op = .buildSlice t fs.length parts) (e : TypeId) (he : e = 23)
    (hu : P.underlying t = some (.slice e)) (hie : (P.info? e).map (fun i => (i.size, i.zero.isSome)) = some (64, true)) (hpos : 0 < fs.length) (hsm : fs.length ≤ 8)
    (hp : (parts.toList.map fun x => (x.1, a.eval x.2)) = ((fs.map (bl 64)).zipIdx 0).map fun x => (x.2, Value.agg x.1.toArray))
    (h : ∀ w', w' = w.alloc (.cells ((fs.map (bl 64)).flatten).toArray e) → PolS w' w.heap.size fs → Below w.heap.size w w' → wpList P ops Q rest (a.put o.dst (.slice (some ⟨w.heap.size, 0, none⟩) fs.length fs.length)) w') : wpList P ops Q (o :: rest) a w := by
  subst he
  cases hi : P.info? 23 with
  | none => simp [hi] at hie
  | some ie =>
    simp only [hi, Option.map_some, Option.some.injEq, Prod.mk.injEq] at hie
    obtain ⟨hs, hz⟩ := hie
    obtain ⟨z, hzz⟩ := Option.isSome_iff_exists.1 hz
    refine wpList_buildSlice hg t 23 fs.length parts ho _ ie z hu hi hzz (by rw [hs]; omega) (by rw [hs]; omega) ?_ (h _ rfl (heap_alloc_last w _) (below_alloc' _ _))
    rw [Array.toList_map, hp, hs]
    have := fill_cat 64 (fs.map (bl 64)) 0 [] ((Array.range (fs.length * 64)).map (z.cells[· % z.cells.size]!)).toList (by
      intro vs hv
      obtain ⟨f, _, rfl⟩ := List.mem_map.1 hv
      exact bl_length _ _) (by simp) (by simp)
    rw [List.nil_append, List.nil_append, Array.toArray_toList] at this
    exact this
end
attribute [irreducible] PolS
end Go.Proofs.Ytbjpkmbhbpcbgaa
