/-
  For all values of the arguments p and f and g the law FnExactDegreesOfPartials returns true and leaves its arguments as they were.
  Conditions: none of its own; the row's.
-/
import Derived.Test.YtgcajgmokcmcgaaZx2
namespace Go.Proofs.Ytgcajgmokcmcgaa.fnExactDegreesOfPartials
open Go.ChangeShapes Go.WideShapes Go.ChangeAt Go.RowKit
set_option linter.unusedVariables false

theorem own : ownKnob Try.prog.godebug = none := by kernel_rfl
theorem cells64 : Try.prog.cellsOf 22 = 64 := by kernel_rfl
theorem cells1 : Try.prog.cellsOf 5 = 1 := by kernel_rfl

set_option maxRecDepth 100000 in
theorem lifted (os : Os) (started : os.Started) (H : Type) (enc : TypeId × Value → H) :
    ReturnsInHanded {} Try.checked os 7 .any (Rows.fnExactDegreesOfPartialsSpec.pre6 enc Try.prog Try.f7 Rows.fnExactDegreesOfPartialsRow.domain false) (Rows.fnExactDegreesOfPartialsSpec.post enc Try.prog Try.f7 false true false false) := by
  refine returnsInHanded_of_change (C := Try.checked) own started (by kernel_rfl) Try.func7
    (ChangeSpec.witness6 (enc := enc) (C := Try.checked) false ⟨#[], #[.int .i64 0, .agg (Array.replicate 64 (Value.int .u8 0)), .agg (Array.replicate 64 (Value.int .u8 0))], []⟩ 8 (by kernel_rfl) (by kernel_rfl) (by kernel_rfl) (by kernel_rfl)) ?_
  intro W base args ds gs before hval0 hW hcnd _
  have hval : ∀ (j : Nat) t v, Try.f7.params[j]? = some t → args[j]? = some v → Value.okWide Try.prog W .any base t v := hval0
  have hW' := hW
  obtain ⟨p, q, hA0, hV, rfl, hfz, hnd⟩ := hW
  have hA : DataW.TrodAll enc Try.prog W 0 (fun _ => true) true Try.f7.params.toList args.toList ds p := hA0
  rw [Try.params7] at hA hval
  obtain ⟨v0, vs0, d0, ds0, p0, q0, hargs, rfl, rfl, h0, r0⟩ := trodAll_cons hA
  obtain ⟨v1, vs1, d1, ds1, p1, q1, rfl, rfl, rfl, h1, r1⟩ := trodAll_cons r0
  obtain ⟨v2, vs2, d2, ds2, p2, q2, rfl, rfl, rfl, h2, r2⟩ := trodAll_cons r1
  obtain ⟨rfl, rfl, rfl⟩ := trodAll_nil r2
  obtain rfl : args = #[v0, v1, v2] := by cases args; simp_all
  obtain ⟨rfl, rfl⟩ := trodVars_none hV
  obtain ⟨a0, rfl, rfl, rfl, w0⟩ := open_int Try.underlying2 (hval 0 2 v0 rfl rfl) h0
  obtain ⟨a1, w1, rfl, rfl, s1⟩ := open_barr Try.underlying22 Try.underlying5 cells64 cells1 (hval 1 22 v1 rfl rfl) h1
  obtain ⟨a2, w2, rfl, rfl, s2⟩ := open_barr Try.underlying22 Try.underlying5 cells64 cells1 (hval 2 22 v2 rfl rfl) h2
  clear hA0 hval0
  simp only [List.append_nil] at hW'
  refine (FnExactDegreesOfPartials_walk a0 a1 a2 w1 w2 W).mono fun e W' ⟨he, hg⟩ => ?_
  subst he
  exact ⟨_, rfl, post_of_below0 (pa := []) (pv := []) hW' (fun _ _ _ => (trodAll_cons_mk (shut_bool Try.underlying4 _) trodAll_mk0)) (fun sp _ => (trodAll_cons_mk (shut_int Try.underlying2 w0) (trodAll_cons_mk (s1 _ 0 sp true) (trodAll_cons_mk (s2 _ 0 sp true) trodAll_mk0)))) (fun _ _ => rfl) rfl hg⟩

theorem facts : joinedFacts Try.pinned.checked.prog 7 Try.f7 Rows.fnExactDegreesOfPartialsSpec Rows.fnExactDegreesOfPartialsRow = true := by
  simp only [joinedFacts, Bool.and_eq_true]
  and_intros
  all_goals first
    | with_reducible exact Try.mayEnter
    | (rw [Try.liftsFinal]; rfl)
    | (rw [Try.make]; rfl)
    | kernel_rfl
theorem named : Try.pinned.checked.prog.funcNamed Rows.fnExactDegreesOfPartialsRow.func = some 7 := by kernel_rfl
theorem wrapped : Try.f7.isWrapper Try.pinned.checked.prog Rows.fnExactDegreesOfPartialsRow.wrapper Rows.fnExactDegreesOfPartialsRow.mainSum := by
  unfold Func.isWrapper; first | (rw [if_pos (by decide +kernel)]; kernel_rfl) | (rw [if_neg (by decide +kernel)]; exact ⟨rfl, rfl⟩)
theorem over : Rows.fnExactDegreesOfPartialsRow.holds Try.pinned (OpenSpec.ofChange Rows.fnExactDegreesOfPartialsSpec) :=
  OpenClaim.holds_of_wide 7 Try.f7 rfl rfl rfl rfl rfl rfl rfl ⟨rfl, rfl, rfl, rfl, rfl⟩ rfl rfl rfl rfl rfl named Try.func7 facts
    (of_decide_eq_true (by kernel_rfl)) wrapped
    (fun os started H enc _ => lifted os started H enc)

end Go.Proofs.Ytgcajgmokcmcgaa.fnExactDegreesOfPartials
namespace Go.Proofs.Ytgcajgmokcmcgaa
theorem fnExactDegreesOfPartials_holds : Rows.FnExactDegreesOfPartialsSaid := fnExactDegreesOfPartials.over
end Go.Proofs.Ytgcajgmokcmcgaa
