/-
  For all values of the arguments p and Va and Ub the law FnExactComposeActions returns true and leaves its arguments as they were.
  Conditions: none of its own; the row's.
-/
import Derived.Test.YtelgefgphhebnaaZv3
namespace Go.Proofs.Ytelgefgphhebnaa.fnExactComposeActions
open Go.ChangeShapes Go.WideShapes Go.ChangeAt Go.RowKit
set_option linter.unusedVariables false

theorem own : ownKnob Try.prog.godebug = none := by kernel_rfl
theorem cells64 : Try.prog.cellsOf 22 = 64 := by kernel_rfl
theorem cells1 : Try.prog.cellsOf 5 = 1 := by kernel_rfl

set_option maxRecDepth 100000 in
theorem lifted (os : Os) (started : os.Started) (H : Type) (enc : TypeId × Value → H) :
    ReturnsInHanded {} Try.checked os 12 .any (Rows.fnExactComposeActionsSpec.pre6 enc Try.prog Try.f12 Rows.fnExactComposeActionsRow.domain false) (Rows.fnExactComposeActionsSpec.post enc Try.prog Try.f12 false true false false) := by
  refine returnsInHanded_of_change (C := Try.checked) own started (by kernel_rfl) Try.func12
    (ChangeSpec.witness6 (enc := enc) (C := Try.checked) false ⟨#[], #[.int .i64 0, .slice none 0 0, .slice none 0 0], []⟩ 8 (by kernel_rfl) (by kernel_rfl) (by kernel_rfl) (by kernel_rfl)) ?_
  intro W base args ds gs before hval0 hW hcnd _
  have hval : ∀ (j : Nat) t v, Try.f12.params[j]? = some t → args[j]? = some v → Value.okWide Try.prog W .any base t v := hval0
  have hW' := hW
  obtain ⟨p, q, hA0, hV, rfl, hfz, hnd⟩ := hW
  have hA : DataW.TrodAll enc Try.prog W 0 (fun _ => true) true Try.f12.params.toList args.toList ds p := hA0
  rw [Try.params12] at hA hval
  obtain ⟨v0, vs0, d0, ds0, p0, q0, hargs, rfl, rfl, h0, r0⟩ := trodAll_cons hA
  obtain ⟨v1, vs1, d1, ds1, p1, q1, rfl, rfl, rfl, h1, r1⟩ := trodAll_cons r0
  obtain ⟨v2, vs2, d2, ds2, p2, q2, rfl, rfl, rfl, h2, r2⟩ := trodAll_cons r1
  obtain ⟨rfl, rfl, rfl⟩ := trodAll_nil r2
  obtain rfl : args = #[v0, v1, v2] := by cases args; simp_all
  obtain ⟨rfl, rfl⟩ := trodVars_none hV
  obtain ⟨a0, rfl, rfl, rfl, w0⟩ := open_int Try.underlying2 (hval 0 2 v0 rfl rfl) h0
  have hk1 := h1
  obtain ⟨a1, n1, c1, X1, rfl, w1, x1, l1⟩ := open_polyS (hval 1 23 v1 rfl rfl) Try.underlying23 Try.underlying22 Try.underlying5 cells64 cells1 h1
  have hk2 := h2
  obtain ⟨a2, n2, c2, X2, rfl, w2, x2, l2⟩ := open_polyS (hval 2 23 v2 rfl rfl) Try.underlying23 Try.underlying22 Try.underlying5 cells64 cells1 h2
  clear hA0 hval0
  have hlt1 : ∀ x ∈ p1, x.block < W.heap.size := fun x hx => hW'.lt x (by simp [hx])
  have hlt2 : ∀ x ∈ p2, x.block < W.heap.size := fun x hx => hW'.lt x (by simp [hx])
  refine (FnExactComposeActions_walk a0 a1 n1 c1 X1 x1 w1 l1 a2 n2 c2 X2 x2 w2 l2 W rfl).mono fun e W' ⟨he, hg⟩ => ?_
  subst he
  exact ⟨_, rfl, post_of_belowL (pa := _) (pv := []) hW' (fun _ _ _ => (trodAll_cons_mk (shut_bool Try.underlying4 _) trodAll_mk0)) (trodAll_cons_mk (shut_int Try.underlying2 w0) (trodAll_cons_mk (Below.trod (by kernel_rfl) (by kernel_rfl) (of_decide_eq_true (by kernel_rfl)) hk1 hg hlt1) (trodAll_cons_mk (Below.trod (by kernel_rfl) (by kernel_rfl) (of_decide_eq_true (by kernel_rfl)) hk2 hg hlt2) trodAll_mk0))) rfl rfl hg⟩

theorem facts : joinedFacts Try.pinned.checked.prog 12 Try.f12 Rows.fnExactComposeActionsSpec Rows.fnExactComposeActionsRow = true := by
  simp only [joinedFacts, Bool.and_eq_true]
  and_intros
  all_goals first
    | with_reducible exact Try.mayEnter
    | (rw [Try.liftsFinal]; rfl)
    | (rw [Try.make]; rfl)
    | kernel_rfl
theorem named : Try.pinned.checked.prog.funcNamed Rows.fnExactComposeActionsRow.func = some 12 := by kernel_rfl
theorem wrapped : Try.f12.isWrapper Try.pinned.checked.prog Rows.fnExactComposeActionsRow.wrapper Rows.fnExactComposeActionsRow.mainSum := by
  unfold Func.isWrapper; first | (rw [if_pos (by decide +kernel)]; kernel_rfl) | (rw [if_neg (by decide +kernel)]; exact ⟨rfl, rfl⟩)
theorem over : Rows.fnExactComposeActionsRow.holds Try.pinned (OpenSpec.ofChange Rows.fnExactComposeActionsSpec) :=
  OpenClaim.holds_of_wide 12 Try.f12 rfl rfl rfl rfl rfl rfl rfl ⟨rfl, rfl, rfl, rfl, rfl⟩ rfl rfl rfl rfl rfl named Try.func12 facts
    (of_decide_eq_true (by kernel_rfl)) wrapped
    (fun os started H enc _ => lifted os started H enc)

end Go.Proofs.Ytelgefgphhebnaa.fnExactComposeActions
namespace Go.Proofs.Ytelgefgphhebnaa
theorem fnExactComposeActions_holds : Rows.FnExactComposeActionsSaid := fnExactComposeActions.over
end Go.Proofs.Ytelgefgphhebnaa
