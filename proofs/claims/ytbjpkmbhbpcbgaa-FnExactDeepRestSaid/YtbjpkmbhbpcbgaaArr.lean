/-
  An argument that is an array of bytes, by value: opened, and read again in whatever world.
-/
import Derived.Test.YtbjpkmbhbpcbgaaPol
import Derived.OpenShut
import Derived.ProofKit
namespace Go.Proofs.Ytbjpkmbhbpcbgaa
open Go.ChangeShapes Go.WideShapes Go.ChangeAt Go.RowKit

section
variable {H : Type} {enc : TypeId × Value → H} {P : Program}
theorem trod_int_to {e : TypeId} {k : IntKind} (he : P.underlying e = some (.int k)) {w : World} (w' : World) {b : Nat} (b' : Nat) {s : Nat → Bool} (s' : Nat → Bool) {h : Bool} (h' : Bool) {m : Nat} {c : List Value} {x : DataW H × List MemPlace}
    (hx : DataW.trod enc P w b s h m e c = some x) : DataW.trod enc P w' b' s' h' m e c = some x := by
  cases m with
  | zero => simp [DataW.trod] at hx
  | succ m =>
    obtain ⟨n, rfl, rfl, hw⟩ := DataW.trod_int he hx
    unfold DataW.trod
    rw [he]
    simp [hw]
theorem trod_int_same {e : TypeId} {k : IntKind} (he : P.underlying e = some (.int k)) (w w' : World) (b b' : Nat) (s s' : Nat → Bool) (h h' : Bool) (m : Nat) (c : List Value) :
    DataW.trod enc P w b s h m e c = DataW.trod enc P w' b' s' h' m e c := by
  cases h1 : DataW.trod enc P w b s h m e c with
  | some x => rw [trod_int_to he w' b' s' h' h1]
  | none =>
    cases h2 : DataW.trod enc P w' b' s' h' m e c with
    | none => rfl
    | some x => rw [trod_int_to he w b s h h2] at h1; cases h1
theorem open_barr {t e : TypeId} {n : Nat} {w : World} {r : Reach} {b0 base : Nat} {spare : Nat → Bool} {held : Bool} {v : Value} {d : DataW H} {p : List MemPlace}
    (ht : P.underlying t = some (.array n e)) (he : P.underlying e = some (.int .u8)) (hC : P.cellsOf t = n) (hCe : P.cellsOf e = 1)
    (hv : Value.okWide P w r b0 t v) (h : DataW.Trod enc P w base spare held t v d p) :
    ∃ f : Nat → Nat, byte f ∧ v = .agg (bcells n f) ∧ p = [] ∧ ∀ (w' : World) (base' : Nat) (spare' : Nat → Bool) (held' : Bool), DataW.Trod enc P w' base' spare' held' t v d [] := by
  unfold Value.okWide at hv
  rw [ht] at hv
  obtain ⟨cs, rfl, hsz, _⟩ := hv
  obtain ⟨fuel, hf⟩ := h
  obtain ⟨xs, m, hm, hx, hlen, hxl, hel⟩ := DataW.trod_array ht hf
  subst hm
  have hcs : cs.size = n := by rw [hsz, hC]
  have each : ∀ i, i < n → ∃ k : Nat, k < 256 ∧ cs[i]? = some (.int .u8 (k : Int)) ∧ xs[i]? = some (.lit (.int .u8 (k : Int)), []) := by
    intro i hi
    have h1 := hel i hi
    have hxi : xs[i]? = some (xs[i]'(by omega)) := List.getElem?_eq_getElem (by omega)
    rw [hxi, hCe] at h1
    obtain ⟨z, hz1, hz2, hz3⟩ := DataW.trod_int he h1
    have hb := bounds_u8 hz3
    obtain ⟨k, rfl⟩ := Int.eq_ofNat_of_zero_le hb.1
    refine ⟨k, by omega, ?_, by rw [hxi, hz2]⟩
    have h2 : ((cs.toList.drop (i * 1)).take 1)[0]? = some (.int .u8 (k : Int)) := by
      have h3 : (Value.agg cs).cells.toList = cs.toList := rfl
      rw [← h3, hz1]; rfl
    simpa using h2
  refine ⟨fun i => match cs[i]? with | some (.int _ z) => if i < n then z.toNat else 0 | _ => 0, ?_, ?_, ?_, ?_⟩
  · intro i
    by_cases hi : i < n
    · obtain ⟨k, hk, hc, _⟩ := each i hi
      simp only [hc, hi, if_true, Int.toNat_natCast]
      exact hk
    · have : cs[i]? = none := Array.getElem?_eq_none (by omega)
      simp [this]
  · congr 1
    apply Array.ext_getElem?
    intro i
    by_cases hi : i < n
    · obtain ⟨k, hk, hc, _⟩ := each i hi
      rw [bcells_get hi]
      simp only [hc, hi, if_true, Int.toNat_natCast]
    · rw [Array.getElem?_eq_none (by omega), Array.getElem?_eq_none (by rw [bcells_size]; omega)]
  · have hp : p = xs.flatMap (·.2) := by simpa using congrArg Prod.snd hx
    rw [hp]
    rw [List.flatMap_eq_nil_iff]
    intro x hxm
    obtain ⟨i, hi⟩ := List.getElem?_of_mem hxm
    have hin : i < n := by rw [← hxl]; exact (List.getElem?_eq_some_iff.1 hi).1
    obtain ⟨k, _, _, h2⟩ := each i hin
    rw [hi] at h2
    injection h2 with h2
    rw [h2]
  · intro w' base' spare' held'
    refine ⟨m + 1, ?_⟩
    have e1 : DataW.trod enc P w' base' spare' held' (m + 1) t (Value.agg cs).cells.toList = DataW.trod enc P w base spare held (m + 1) t (Value.agg cs).cells.toList := by
      unfold DataW.trod
      rw [ht]
      simp only [trod_int_same he w' w base' base spare' spare held' held m]
    rw [e1, hf]
    have hp : p = xs.flatMap (·.2) := by simpa using congrArg Prod.snd hx
    have : p = [] := by
      rw [hp, List.flatMap_eq_nil_iff]
      intro x hxm
      obtain ⟨i, hi⟩ := List.getElem?_of_mem hxm
      have hin : i < n := by rw [← hxl]; exact (List.getElem?_eq_some_iff.1 hi).1
      obtain ⟨k, _, _, h2⟩ := each i hin
      rw [hi] at h2
      injection h2 with h2
      rw [h2]
    rw [this]
/-- the row's last step where the call has only made new memory, and the row does not say 'again' -/
theorem post_of_below0 {f : Func} {s : ChangeSpec} {apart fresh handsOn : Bool} {W W' : World} {args : Array Value} {v : Value} {ds gs : List (DataW H)} {before pa pv : List MemPlace}
    (hW : DataW.Whole enc P f.params.toList s.vars apart W args.toList ds gs before)
    (hres : ∀ (b : Nat) (sp : Nat → Bool) (hd : Bool), DataW.TrodAll enc P W' b sp hd f.resultTypes.toList (v.resultList f.resultTypes.size) (s.fn H (ds ++ gs)).results [])
    (hargs : ∀ sp : Nat → Bool, (∀ p ∈ before, sp p.block = true) → DataW.TrodAll enc P W' 0 sp true f.params.toList args.toList (s.fn H (ds ++ gs)).args pa)
    (hvars : ∀ sp : Nat → Bool, (∀ p ∈ before, sp p.block = true) → DataW.TrodVars enc P W' sp s.vars (s.fn H (ds ++ gs)).vars pv)
    (hps : before = pa ++ pv) (hb : Below W.heap.size W W') : s.post enc P f apart fresh handsOn false W args v W' := by
  have held : ∀ p ∈ before, (fun b => decide (b < W.heap.size)) p.block = true := fun p hp => by simpa using hW.lt p hp
  refine ⟨ds, gs, before, [], pa, pv, hW, hres _ _ _, hargs _ held, hvars _ held, ?_, fun h => by cases h⟩
  refine World.keptBut_mono (fun p hp => ⟨hp, .inr ?_⟩) (hb.frame (· ∈ before))
  rw [hps, List.mem_append] at hp
  exact hp
end
end Go.Proofs.Ytbjpkmbhbpcbgaa
