/-
  The region's invariant, where an operation reads a slot that a later one of the same region writes: the start's values are at hand.
-/
import Derived.Test.YtbjpkmbhbpcbgaaInv
import Derived.Test.YtbjpkmbhbpcbgaaBase
namespace Go.Proofs.Ytbjpkmbhbpcbgaa
open Go Go.RowKit
section
variable {P : Program} {Q : Exit → Act → World → Prop}
theorem wp_region_psi0 {ops : Array Oper} {id : Nat} {a0 : Act} {w : World} (hm : P.follows .mixedOrders = true) (hd : dstsOkL ops.toList = true) (he : edgesOk ops = true)
    (Ψ : (Nat → Bool) → (Nat → Value) → World → Prop) (h0 : ∀ v, (∀ i, v i = ((ops[i]?.bind (·.dst)).map fun t => a0.tmps.getD t undef).getD undef) → Ψ (fun _ => false) v w.drew)
    (hstep : ∀ i o, ops[i]? = some o → StepOk P ops Q a0 Ψ i o)
    (hend : ∀ L v w, (∀ i, i < ops.size → L i = true) → Ψ L v w → Q .normal (fr a0 ops v) w) : (Code.region id ops true).wp P Q a0 w := by
  refine wp_region_any hm ?_
  have hfr : fr a0 ops (fun i => ((ops[i]?.bind (·.dst)).map fun t => a0.tmps.getD t undef).getD undef) = a0 := by
    refine frL_start _ _ _ _ fun i o ho => ?_
    have ho' : ops[i]? = some o := by simpa using ho
    simp [ho']
  have key := wpAny_inv (P := P) (Q := Q) hd he hstep hend ops.size (Array.replicate ops.size false) (fun i => ((ops[i]?.bind (·.dst)).map fun t => a0.tmps.getD t undef).getD undef) w.drew (by simp) (by simp) (by
    have e : (fun j => (Array.replicate ops.size false).getD j false) = fun _ => false := by
      funext j; simp [Array.getD]
    rw [e]; exact h0 _ (fun _ => rfl)) (by
    intro j p _ hj
    simp [Array.getD] at hj)
  rw [hfr] at key
  exact key
theorem wp_region_steps0 {os : List Oper} {id : Nat} {a0 : Act} {w : World} (hm : P.follows .mixedOrders = true) (hd : dstsOkL os = true) (he : edgesOk os.toArray = true)
    {F : (Nat → Value) → Act} (hF : ∀ v, frL a0 os 0 v = F v)
    (Ψ : (Nat → Bool) → (Nat → Value) → World → Prop) (h0 : ∀ v, (∀ i, v i = ((os[i]?.bind (·.dst)).map fun t => a0.tmps.getD t undef).getD undef) → Ψ (fun _ => false) v w.drew)
    (hstep : Steps P os.toArray Q F Ψ os 0)
    (hend : ∀ L v w, (∀ i, i < os.length → L i = true) → Ψ L v w → Q .normal (F v) w) : (Code.region id os.toArray true).wp P Q a0 w := by
  refine wp_region_psi0 hm (by simpa using hd) he Ψ (fun v hv => h0 v (by simpa using hv)) (fun i o ho => ?_) (fun L v w hL hΨ => ?_)
  · obtain ⟨hg, hs⟩ := steps_of _ _ hstep i o (by simpa using ho)
    rw [Nat.zero_add] at hs
    intro L v w h1 h2 h3 K hK
    have hw : Region.wanted o (yielded os.toArray (fr a0 os.toArray v).tmps) = true := by simp [Region.wanted, hg]
    rw [if_pos hw]
    have hf : fr a0 os.toArray v = F v := hF v
    rw [hf] at hK ⊢
    exact hs L v w h1 h2 h3 K hK
  · have hf : fr a0 os.toArray v = F v := hF v
    rw [hf]
    exact hend L v w (by simpa using hL) hΨ
end
theorem PF.ne_low {y : Value} {w : World} {N n b : Nat} {t : TypeId} {g : Nat → Nat} (h : PF y w N n t g) (hb : b < N) : y ≠ .pointer (some ⟨b, 0, none⟩) := by
  obtain ⟨b', e, hN, _⟩ := h.out
  subst e
  intro h2
  simp at h2 <;> omega
theorem upd_again {f g : Nat → Nat} {i v : Nat} (h : ∀ k, upd f i v k = g k) : ∀ k, upd g i v k = g k := by
  intro k
  unfold upd at *
  by_cases e : k = i
  · subst e; rw [if_pos rfl]; have := h k; rwa [if_pos rfl] at this
  · rw [if_neg e]
end Go.Proofs.Ytbjpkmbhbpcbgaa
