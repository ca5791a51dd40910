/-
  No cell of these rows narrows 'for every input' (looked for: loops, veiled, ifaces, maps, wideKeys, modest, calm, conditions, laid).
  DERIVED. THE GIVEN ROWS OF THIS SEAT. 22 by the template 'for every input the law returns true; each argument reads behind the call as it read before'; 0 by the template 'total and deterministic' (their statements: YtoncepgcfifgbaaTotals.lean).
  GIVEN WITH THE SEED: the statements are not yours to turn. If you find one false, say at which input.
  Laid BY PROGRAM, IN A SANDBOX (cutbox-rows.mjs): the forced cells as the released guide's own fill.sh prints them over the translation 14590c3e14863f2f… (all of the seat's roots in one cut). By AI agents, Wed Nov 11 2026. No macro, syntax, notation, axiom, sorry.
-/
import Derived.Test.YtoncepgcfifgbaaChecked
import GoSem.Claim
import GoSem.ClaimJoined
import GoSem.ClaimMapViews
import Derived.JoinedTies
import Derived.KernelRfl
namespace Go.Proofs.Ytoncepgcfifgbaa
/- THE CELL 'sum', in the pinned program and in every row, IS THE sha256 OF THE DUMP (.gsa) THAT YtoncepgcfifgbaaProg.lean LOADS. Nothing in Lean hashes anything: it is a label: what it is worth is what the hold of that sum in a sandbox is worth. -/
noncomputable def Try.pinned : Pinned := { name := "ytoncepgcfifgbaa", sum := "14590c3e14863f2f2538e8965a4fc99e2203557b4b5b60fffd15877523e7e3a5", checked := Try.checked }
namespace Rows
def none {H : Type} : Left H := { results := [], args := [] }

/-- 'laws.FnExactDerivativeOf': WHATEVER THE INPUT: true; the input reads as it did. -/
def fnExactDerivativeOfSpec : ChangeSpec := { name := "fnExactDerivativeOf", fn := fun _ => fun
  | [d1, d2] => { results := [.lit (.bool true)], args := [d1, d2] }
  | _ => none }
def fnExactDerivativeOfRow : OpenClaim := { program := "ytoncepgcfifgbaa", sum := "14590c3e14863f2f2538e8965a4fc99e2203557b4b5b60fffd15877523e7e3a5", func := "loop.example/g01245/laws.FnExactDerivativeOf", spec := "fnExactDerivativeOf", plainKeys := false, apart := false }
def FnExactDerivativeOfSaid : Prop := fnExactDerivativeOfRow.holds Try.pinned (OpenSpec.ofChange fnExactDerivativeOfSpec)

/-- ITS FALSE NEIGHBOUR: 'it returns false'. Refute it at one input. -/
def fnExactDerivativeOfWrong : ChangeSpec := { name := "fnExactDerivativeOf", fn := fun _ => fun
  | [d1, d2] => { results := [.lit (.bool false)], args := [d1, d2] }
  | _ => none }
def FnExactDerivativeOfWrongFalsely : Prop := fnExactDerivativeOfRow.holds Try.pinned (OpenSpec.ofChange fnExactDerivativeOfWrong)

/-- 'laws.FnExactPowerOf': WHATEVER THE INPUT: true; the input reads as it did. -/
def fnExactPowerOfSpec : ChangeSpec := { name := "fnExactPowerOf", fn := fun _ => fun
  | [d1, d2, d3] => { results := [.lit (.bool true)], args := [d1, d2, d3] }
  | _ => none }
def fnExactPowerOfRow : OpenClaim := { program := "ytoncepgcfifgbaa", sum := "14590c3e14863f2f2538e8965a4fc99e2203557b4b5b60fffd15877523e7e3a5", func := "loop.example/g01245/laws.FnExactPowerOf", spec := "fnExactPowerOf", unfollowed := true, recurses := true, plainKeys := false, apart := false }
def FnExactPowerOfSaid : Prop := fnExactPowerOfRow.holds Try.pinned (OpenSpec.ofChange fnExactPowerOfSpec)

/-- ITS FALSE NEIGHBOUR: 'it returns false'. Refute it at one input. -/
def fnExactPowerOfWrong : ChangeSpec := { name := "fnExactPowerOf", fn := fun _ => fun
  | [d1, d2, d3] => { results := [.lit (.bool false)], args := [d1, d2, d3] }
  | _ => none }
def FnExactPowerOfWrongFalsely : Prop := fnExactPowerOfRow.holds Try.pinned (OpenSpec.ofChange fnExactPowerOfWrong)

/-- 'laws.FnExactPowerModulo': WHATEVER THE INPUT: true; the input reads as it did. -/
def fnExactPowerModuloSpec : ChangeSpec := { name := "fnExactPowerModulo", fn := fun _ => fun
  | [d1, d2, d3, d4] => { results := [.lit (.bool true)], args := [d1, d2, d3, d4] }
  | _ => none }
def fnExactPowerModuloRow : OpenClaim := { program := "ytoncepgcfifgbaa", sum := "14590c3e14863f2f2538e8965a4fc99e2203557b4b5b60fffd15877523e7e3a5", func := "loop.example/g01245/laws.FnExactPowerModulo", spec := "fnExactPowerModulo", unfollowed := true, recurses := true, plainKeys := false, apart := false }
def FnExactPowerModuloSaid : Prop := fnExactPowerModuloRow.holds Try.pinned (OpenSpec.ofChange fnExactPowerModuloSpec)

/-- ITS FALSE NEIGHBOUR: 'it returns false'. Refute it at one input. -/
def fnExactPowerModuloWrong : ChangeSpec := { name := "fnExactPowerModulo", fn := fun _ => fun
  | [d1, d2, d3, d4] => { results := [.lit (.bool false)], args := [d1, d2, d3, d4] }
  | _ => none }
def FnExactPowerModuloWrongFalsely : Prop := fnExactPowerModuloRow.holds Try.pinned (OpenSpec.ofChange fnExactPowerModuloWrong)

/-- 'laws.FnExactMonicPolys': WHATEVER THE INPUT: true; the input reads as it did. -/
def fnExactMonicPolysSpec : ChangeSpec := { name := "fnExactMonicPolys", fn := fun _ => fun
  | [d1, d2] => { results := [.lit (.bool true)], args := [d1, d2] }
  | _ => none }
def fnExactMonicPolysRow : OpenClaim := { program := "ytoncepgcfifgbaa", sum := "14590c3e14863f2f2538e8965a4fc99e2203557b4b5b60fffd15877523e7e3a5", func := "loop.example/g01245/laws.FnExactMonicPolys", spec := "fnExactMonicPolys", plainKeys := false, apart := false }
def FnExactMonicPolysSaid : Prop := fnExactMonicPolysRow.holds Try.pinned (OpenSpec.ofChange fnExactMonicPolysSpec)

/-- ITS FALSE NEIGHBOUR: 'it returns false'. Refute it at one input. -/
def fnExactMonicPolysWrong : ChangeSpec := { name := "fnExactMonicPolys", fn := fun _ => fun
  | [d1, d2] => { results := [.lit (.bool false)], args := [d1, d2] }
  | _ => none }
def FnExactMonicPolysWrongFalsely : Prop := fnExactMonicPolysRow.holds Try.pinned (OpenSpec.ofChange fnExactMonicPolysWrong)

/-- 'laws.FnExactIsIrreducible': WHATEVER THE INPUT: true; the input reads as it did. -/
def fnExactIsIrreducibleSpec : ChangeSpec := { name := "fnExactIsIrreducible", fn := fun _ => fun
  | [d1, d2] => { results := [.lit (.bool true)], args := [d1, d2] }
  | _ => none }
def fnExactIsIrreducibleRow : OpenClaim := { program := "ytoncepgcfifgbaa", sum := "14590c3e14863f2f2538e8965a4fc99e2203557b4b5b60fffd15877523e7e3a5", func := "loop.example/g01245/laws.FnExactIsIrreducible", spec := "fnExactIsIrreducible", unfollowed := true, recurses := true, plainKeys := false, apart := false }
def FnExactIsIrreducibleSaid : Prop := fnExactIsIrreducibleRow.holds Try.pinned (OpenSpec.ofChange fnExactIsIrreducibleSpec)

/-- ITS FALSE NEIGHBOUR: 'it returns false'. Refute it at one input. -/
def fnExactIsIrreducibleWrong : ChangeSpec := { name := "fnExactIsIrreducible", fn := fun _ => fun
  | [d1, d2] => { results := [.lit (.bool false)], args := [d1, d2] }
  | _ => none }
def FnExactIsIrreducibleWrongFalsely : Prop := fnExactIsIrreducibleRow.holds Try.pinned (OpenSpec.ofChange fnExactIsIrreducibleWrong)

/-- 'laws.FnExactIrreduciblesOf': WHATEVER THE INPUT: true; the input reads as it did. -/
def fnExactIrreduciblesOfSpec : ChangeSpec := { name := "fnExactIrreduciblesOf", fn := fun _ => fun
  | [d1, d2] => { results := [.lit (.bool true)], args := [d1, d2] }
  | _ => none }
def fnExactIrreduciblesOfRow : OpenClaim := { program := "ytoncepgcfifgbaa", sum := "14590c3e14863f2f2538e8965a4fc99e2203557b4b5b60fffd15877523e7e3a5", func := "loop.example/g01245/laws.FnExactIrreduciblesOf", spec := "fnExactIrreduciblesOf", unfollowed := true, recurses := true, plainKeys := false, apart := false }
def FnExactIrreduciblesOfSaid : Prop := fnExactIrreduciblesOfRow.holds Try.pinned (OpenSpec.ofChange fnExactIrreduciblesOfSpec)

/-- ITS FALSE NEIGHBOUR: 'it returns false'. Refute it at one input. -/
def fnExactIrreduciblesOfWrong : ChangeSpec := { name := "fnExactIrreduciblesOf", fn := fun _ => fun
  | [d1, d2] => { results := [.lit (.bool false)], args := [d1, d2] }
  | _ => none }
def FnExactIrreduciblesOfWrongFalsely : Prop := fnExactIrreduciblesOfRow.holds Try.pinned (OpenSpec.ofChange fnExactIrreduciblesOfWrong)

/-- 'laws.FnExactFactorsOf': WHATEVER THE INPUT: true; the input reads as it did. -/
def fnExactFactorsOfSpec : ChangeSpec := { name := "fnExactFactorsOf", fn := fun _ => fun
  | [d1, d2] => { results := [.lit (.bool true)], args := [d1, d2] }
  | _ => none }
def fnExactFactorsOfRow : OpenClaim := { program := "ytoncepgcfifgbaa", sum := "14590c3e14863f2f2538e8965a4fc99e2203557b4b5b60fffd15877523e7e3a5", func := "loop.example/g01245/laws.FnExactFactorsOf", spec := "fnExactFactorsOf", unfollowed := true, recurses := true, plainKeys := false, apart := false }
def FnExactFactorsOfSaid : Prop := fnExactFactorsOfRow.holds Try.pinned (OpenSpec.ofChange fnExactFactorsOfSpec)

/-- ITS FALSE NEIGHBOUR: 'it returns false'. Refute it at one input. -/
def fnExactFactorsOfWrong : ChangeSpec := { name := "fnExactFactorsOf", fn := fun _ => fun
  | [d1, d2] => { results := [.lit (.bool false)], args := [d1, d2] }
  | _ => none }
def FnExactFactorsOfWrongFalsely : Prop := fnExactFactorsOfRow.holds Try.pinned (OpenSpec.ofChange fnExactFactorsOfWrong)

/-- 'laws.FnExactMoebiusOf': WHATEVER THE INPUT: true; the input reads as it did. -/
def fnExactMoebiusOfSpec : ChangeSpec := { name := "fnExactMoebiusOf", fn := fun _ => fun
  | [d1, d2] => { results := [.lit (.bool true)], args := [d1, d2] }
  | _ => none }
def fnExactMoebiusOfRow : OpenClaim := { program := "ytoncepgcfifgbaa", sum := "14590c3e14863f2f2538e8965a4fc99e2203557b4b5b60fffd15877523e7e3a5", func := "loop.example/g01245/laws.FnExactMoebiusOf", spec := "fnExactMoebiusOf", unfollowed := true, recurses := true, plainKeys := false, apart := false }
def FnExactMoebiusOfSaid : Prop := fnExactMoebiusOfRow.holds Try.pinned (OpenSpec.ofChange fnExactMoebiusOfSpec)

/-- ITS FALSE NEIGHBOUR: 'it returns false'. Refute it at one input. -/
def fnExactMoebiusOfWrong : ChangeSpec := { name := "fnExactMoebiusOf", fn := fun _ => fun
  | [d1, d2] => { results := [.lit (.bool false)], args := [d1, d2] }
  | _ => none }
def FnExactMoebiusOfWrongFalsely : Prop := fnExactMoebiusOfRow.holds Try.pinned (OpenSpec.ofChange fnExactMoebiusOfWrong)

/-- 'laws.FnExactEulerOf': WHATEVER THE INPUT: true; the input reads as it did. -/
def fnExactEulerOfSpec : ChangeSpec := { name := "fnExactEulerOf", fn := fun _ => fun
  | [d1, d2] => { results := [.lit (.bool true)], args := [d1, d2] }
  | _ => none }
def fnExactEulerOfRow : OpenClaim := { program := "ytoncepgcfifgbaa", sum := "14590c3e14863f2f2538e8965a4fc99e2203557b4b5b60fffd15877523e7e3a5", func := "loop.example/g01245/laws.FnExactEulerOf", spec := "fnExactEulerOf", unfollowed := true, recurses := true, plainKeys := false, apart := false }
def FnExactEulerOfSaid : Prop := fnExactEulerOfRow.holds Try.pinned (OpenSpec.ofChange fnExactEulerOfSpec)

/-- ITS FALSE NEIGHBOUR: 'it returns false'. Refute it at one input. -/
def fnExactEulerOfWrong : ChangeSpec := { name := "fnExactEulerOf", fn := fun _ => fun
  | [d1, d2] => { results := [.lit (.bool false)], args := [d1, d2] }
  | _ => none }
def FnExactEulerOfWrongFalsely : Prop := fnExactEulerOfRow.holds Try.pinned (OpenSpec.ofChange fnExactEulerOfWrong)

/-- 'laws.FnExactOrderModulo': WHATEVER THE INPUT: true; the input reads as it did. -/
def fnExactOrderModuloSpec : ChangeSpec := { name := "fnExactOrderModulo", fn := fun _ => fun
  | [d1, d2, d3] => { results := [.lit (.bool true)], args := [d1, d2, d3] }
  | _ => none }
def fnExactOrderModuloRow : OpenClaim := { program := "ytoncepgcfifgbaa", sum := "14590c3e14863f2f2538e8965a4fc99e2203557b4b5b60fffd15877523e7e3a5", func := "loop.example/g01245/laws.FnExactOrderModulo", spec := "fnExactOrderModulo", unfollowed := true, recurses := true, plainKeys := false, apart := false }
def FnExactOrderModuloSaid : Prop := fnExactOrderModuloRow.holds Try.pinned (OpenSpec.ofChange fnExactOrderModuloSpec)

/-- ITS FALSE NEIGHBOUR: 'it returns false'. Refute it at one input. -/
def fnExactOrderModuloWrong : ChangeSpec := { name := "fnExactOrderModulo", fn := fun _ => fun
  | [d1, d2, d3] => { results := [.lit (.bool false)], args := [d1, d2, d3] }
  | _ => none }
def FnExactOrderModuloWrongFalsely : Prop := fnExactOrderModuloRow.holds Try.pinned (OpenSpec.ofChange fnExactOrderModuloWrong)

/-- 'laws.FnExactPrimitiveOf': WHATEVER THE INPUT: true; the input reads as it did. -/
def fnExactPrimitiveOfSpec : ChangeSpec := { name := "fnExactPrimitiveOf", fn := fun _ => fun
  | [d1, d2] => { results := [.lit (.bool true)], args := [d1, d2] }
  | _ => none }
def fnExactPrimitiveOfRow : OpenClaim := { program := "ytoncepgcfifgbaa", sum := "14590c3e14863f2f2538e8965a4fc99e2203557b4b5b60fffd15877523e7e3a5", func := "loop.example/g01245/laws.FnExactPrimitiveOf", spec := "fnExactPrimitiveOf", unfollowed := true, recurses := true, plainKeys := false, apart := false }
def FnExactPrimitiveOfSaid : Prop := fnExactPrimitiveOfRow.holds Try.pinned (OpenSpec.ofChange fnExactPrimitiveOfSpec)

/-- ITS FALSE NEIGHBOUR: 'it returns false'. Refute it at one input. -/
def fnExactPrimitiveOfWrong : ChangeSpec := { name := "fnExactPrimitiveOf", fn := fun _ => fun
  | [d1, d2] => { results := [.lit (.bool false)], args := [d1, d2] }
  | _ => none }
def FnExactPrimitiveOfWrongFalsely : Prop := fnExactPrimitiveOfRow.holds Try.pinned (OpenSpec.ofChange fnExactPrimitiveOfWrong)

/-- 'laws.FnExactIsField': WHATEVER THE INPUT: true; the input reads as it did. -/
def fnExactIsFieldSpec : ChangeSpec := { name := "fnExactIsField", fn := fun _ => fun
  | [d1, d2] => { results := [.lit (.bool true)], args := [d1, d2] }
  | _ => none }
def fnExactIsFieldRow : OpenClaim := { program := "ytoncepgcfifgbaa", sum := "14590c3e14863f2f2538e8965a4fc99e2203557b4b5b60fffd15877523e7e3a5", func := "loop.example/g01245/laws.FnExactIsField", spec := "fnExactIsField", unfollowed := true, recurses := true, plainKeys := false, apart := false }
def FnExactIsFieldSaid : Prop := fnExactIsFieldRow.holds Try.pinned (OpenSpec.ofChange fnExactIsFieldSpec)

/-- ITS FALSE NEIGHBOUR: 'it returns false'. Refute it at one input. -/
def fnExactIsFieldWrong : ChangeSpec := { name := "fnExactIsField", fn := fun _ => fun
  | [d1, d2] => { results := [.lit (.bool false)], args := [d1, d2] }
  | _ => none }
def FnExactIsFieldWrongFalsely : Prop := fnExactIsFieldRow.holds Try.pinned (OpenSpec.ofChange fnExactIsFieldWrong)

/-- 'laws.FnExactIsDiscriminant': WHATEVER THE INPUT: true; the input reads as it did. -/
def fnExactIsDiscriminantSpec : ChangeSpec := { name := "fnExactIsDiscriminant", fn := fun _ => fun
  | [d1, d2] => { results := [.lit (.bool true)], args := [d1, d2] }
  | _ => none }
def fnExactIsDiscriminantRow : OpenClaim := { program := "ytoncepgcfifgbaa", sum := "14590c3e14863f2f2538e8965a4fc99e2203557b4b5b60fffd15877523e7e3a5", func := "loop.example/g01245/laws.FnExactIsDiscriminant", spec := "fnExactIsDiscriminant", plainKeys := false, apart := false }
def FnExactIsDiscriminantSaid : Prop := fnExactIsDiscriminantRow.holds Try.pinned (OpenSpec.ofChange fnExactIsDiscriminantSpec)

/-- ITS FALSE NEIGHBOUR: 'it returns false'. Refute it at one input. -/
def fnExactIsDiscriminantWrong : ChangeSpec := { name := "fnExactIsDiscriminant", fn := fun _ => fun
  | [d1, d2] => { results := [.lit (.bool false)], args := [d1, d2] }
  | _ => none }
def FnExactIsDiscriminantWrongFalsely : Prop := fnExactIsDiscriminantRow.holds Try.pinned (OpenSpec.ofChange fnExactIsDiscriminantWrong)

/-- 'laws.FnExactIsForm': WHATEVER THE INPUT: true; the input reads as it did. -/
def fnExactIsFormSpec : ChangeSpec := { name := "fnExactIsForm", fn := fun _ => fun
  | [d1, d2, d3] => { results := [.lit (.bool true)], args := [d1, d2, d3] }
  | _ => none }
def fnExactIsFormRow : OpenClaim := { program := "ytoncepgcfifgbaa", sum := "14590c3e14863f2f2538e8965a4fc99e2203557b4b5b60fffd15877523e7e3a5", func := "loop.example/g01245/laws.FnExactIsForm", spec := "fnExactIsForm", plainKeys := false, apart := false }
def FnExactIsFormSaid : Prop := fnExactIsFormRow.holds Try.pinned (OpenSpec.ofChange fnExactIsFormSpec)

/-- ITS FALSE NEIGHBOUR: 'it returns false'. Refute it at one input. -/
def fnExactIsFormWrong : ChangeSpec := { name := "fnExactIsForm", fn := fun _ => fun
  | [d1, d2, d3] => { results := [.lit (.bool false)], args := [d1, d2, d3] }
  | _ => none }
def FnExactIsFormWrongFalsely : Prop := fnExactIsFormRow.holds Try.pinned (OpenSpec.ofChange fnExactIsFormWrong)

/-- 'laws.FnExactReduceForm': WHATEVER THE INPUT: true; the input reads as it did. -/
def fnExactReduceFormSpec : ChangeSpec := { name := "fnExactReduceForm", fn := fun _ => fun
  | [d1, d2, d3] => { results := [.lit (.bool true)], args := [d1, d2, d3] }
  | _ => none }
def fnExactReduceFormRow : OpenClaim := { program := "ytoncepgcfifgbaa", sum := "14590c3e14863f2f2538e8965a4fc99e2203557b4b5b60fffd15877523e7e3a5", func := "loop.example/g01245/laws.FnExactReduceForm", spec := "fnExactReduceForm", plainKeys := false, apart := false }
def FnExactReduceFormSaid : Prop := fnExactReduceFormRow.holds Try.pinned (OpenSpec.ofChange fnExactReduceFormSpec)

/-- ITS FALSE NEIGHBOUR: 'it returns false'. Refute it at one input. -/
def fnExactReduceFormWrong : ChangeSpec := { name := "fnExactReduceForm", fn := fun _ => fun
  | [d1, d2, d3] => { results := [.lit (.bool false)], args := [d1, d2, d3] }
  | _ => none }
def FnExactReduceFormWrongFalsely : Prop := fnExactReduceFormRow.holds Try.pinned (OpenSpec.ofChange fnExactReduceFormWrong)

/-- 'laws.FnExactReducedForms': WHATEVER THE INPUT: true; the input reads as it did. -/
def fnExactReducedFormsSpec : ChangeSpec := { name := "fnExactReducedForms", fn := fun _ => fun
  | [d1, d2] => { results := [.lit (.bool true)], args := [d1, d2] }
  | _ => none }
def fnExactReducedFormsRow : OpenClaim := { program := "ytoncepgcfifgbaa", sum := "14590c3e14863f2f2538e8965a4fc99e2203557b4b5b60fffd15877523e7e3a5", func := "loop.example/g01245/laws.FnExactReducedForms", spec := "fnExactReducedForms", unfollowed := true, recurses := true, plainKeys := false, apart := false }
def FnExactReducedFormsSaid : Prop := fnExactReducedFormsRow.holds Try.pinned (OpenSpec.ofChange fnExactReducedFormsSpec)

/-- ITS FALSE NEIGHBOUR: 'it returns false'. Refute it at one input. -/
def fnExactReducedFormsWrong : ChangeSpec := { name := "fnExactReducedForms", fn := fun _ => fun
  | [d1, d2] => { results := [.lit (.bool false)], args := [d1, d2] }
  | _ => none }
def FnExactReducedFormsWrongFalsely : Prop := fnExactReducedFormsRow.holds Try.pinned (OpenSpec.ofChange fnExactReducedFormsWrong)

/-- 'laws.FnExactClassNumber': WHATEVER THE INPUT: true; the input reads as it did. -/
def fnExactClassNumberSpec : ChangeSpec := { name := "fnExactClassNumber", fn := fun _ => fun
  | [d1, d2] => { results := [.lit (.bool true)], args := [d1, d2] }
  | _ => none }
def fnExactClassNumberRow : OpenClaim := { program := "ytoncepgcfifgbaa", sum := "14590c3e14863f2f2538e8965a4fc99e2203557b4b5b60fffd15877523e7e3a5", func := "loop.example/g01245/laws.FnExactClassNumber", spec := "fnExactClassNumber", unfollowed := true, recurses := true, plainKeys := false, apart := false }
def FnExactClassNumberSaid : Prop := fnExactClassNumberRow.holds Try.pinned (OpenSpec.ofChange fnExactClassNumberSpec)

/-- ITS FALSE NEIGHBOUR: 'it returns false'. Refute it at one input. -/
def fnExactClassNumberWrong : ChangeSpec := { name := "fnExactClassNumber", fn := fun _ => fun
  | [d1, d2] => { results := [.lit (.bool false)], args := [d1, d2] }
  | _ => none }
def FnExactClassNumberWrongFalsely : Prop := fnExactClassNumberRow.holds Try.pinned (OpenSpec.ofChange fnExactClassNumberWrong)

/-- 'laws.FnExactComposeForms': WHATEVER THE INPUT: true; the input reads as it did. -/
def fnExactComposeFormsSpec : ChangeSpec := { name := "fnExactComposeForms", fn := fun _ => fun
  | [d1, d2, d3, d4] => { results := [.lit (.bool true)], args := [d1, d2, d3, d4] }
  | _ => none }
def fnExactComposeFormsRow : OpenClaim := { program := "ytoncepgcfifgbaa", sum := "14590c3e14863f2f2538e8965a4fc99e2203557b4b5b60fffd15877523e7e3a5", func := "loop.example/g01245/laws.FnExactComposeForms", spec := "fnExactComposeForms", plainKeys := false, apart := false }
def FnExactComposeFormsSaid : Prop := fnExactComposeFormsRow.holds Try.pinned (OpenSpec.ofChange fnExactComposeFormsSpec)

/-- ITS FALSE NEIGHBOUR: 'it returns false'. Refute it at one input. -/
def fnExactComposeFormsWrong : ChangeSpec := { name := "fnExactComposeForms", fn := fun _ => fun
  | [d1, d2, d3, d4] => { results := [.lit (.bool false)], args := [d1, d2, d3, d4] }
  | _ => none }
def FnExactComposeFormsWrongFalsely : Prop := fnExactComposeFormsRow.holds Try.pinned (OpenSpec.ofChange fnExactComposeFormsWrong)

/-- 'laws.FnExactInverseForm': WHATEVER THE INPUT: true; the input reads as it did. -/
def fnExactInverseFormSpec : ChangeSpec := { name := "fnExactInverseForm", fn := fun _ => fun
  | [d1, d2, d3] => { results := [.lit (.bool true)], args := [d1, d2, d3] }
  | _ => none }
def fnExactInverseFormRow : OpenClaim := { program := "ytoncepgcfifgbaa", sum := "14590c3e14863f2f2538e8965a4fc99e2203557b4b5b60fffd15877523e7e3a5", func := "loop.example/g01245/laws.FnExactInverseForm", spec := "fnExactInverseForm", plainKeys := false, apart := false }
def FnExactInverseFormSaid : Prop := fnExactInverseFormRow.holds Try.pinned (OpenSpec.ofChange fnExactInverseFormSpec)

/-- ITS FALSE NEIGHBOUR: 'it returns false'. Refute it at one input. -/
def fnExactInverseFormWrong : ChangeSpec := { name := "fnExactInverseForm", fn := fun _ => fun
  | [d1, d2, d3] => { results := [.lit (.bool false)], args := [d1, d2, d3] }
  | _ => none }
def FnExactInverseFormWrongFalsely : Prop := fnExactInverseFormRow.holds Try.pinned (OpenSpec.ofChange fnExactInverseFormWrong)

/-- 'laws.FnExactPowerOfForm': WHATEVER THE INPUT: true; the input reads as it did. -/
def fnExactPowerOfFormSpec : ChangeSpec := { name := "fnExactPowerOfForm", fn := fun _ => fun
  | [d1, d2, d3, d4] => { results := [.lit (.bool true)], args := [d1, d2, d3, d4] }
  | _ => none }
def fnExactPowerOfFormRow : OpenClaim := { program := "ytoncepgcfifgbaa", sum := "14590c3e14863f2f2538e8965a4fc99e2203557b4b5b60fffd15877523e7e3a5", func := "loop.example/g01245/laws.FnExactPowerOfForm", spec := "fnExactPowerOfForm", unfollowed := true, recurses := true, plainKeys := false, apart := false }
def FnExactPowerOfFormSaid : Prop := fnExactPowerOfFormRow.holds Try.pinned (OpenSpec.ofChange fnExactPowerOfFormSpec)

/-- ITS FALSE NEIGHBOUR: 'it returns false'. Refute it at one input. -/
def fnExactPowerOfFormWrong : ChangeSpec := { name := "fnExactPowerOfForm", fn := fun _ => fun
  | [d1, d2, d3, d4] => { results := [.lit (.bool false)], args := [d1, d2, d3, d4] }
  | _ => none }
def FnExactPowerOfFormWrongFalsely : Prop := fnExactPowerOfFormRow.holds Try.pinned (OpenSpec.ofChange fnExactPowerOfFormWrong)

/-- 'laws.FnExactOrderOfForm': WHATEVER THE INPUT: true; the input reads as it did. -/
def fnExactOrderOfFormSpec : ChangeSpec := { name := "fnExactOrderOfForm", fn := fun _ => fun
  | [d1, d2, d3] => { results := [.lit (.bool true)], args := [d1, d2, d3] }
  | _ => none }
def fnExactOrderOfFormRow : OpenClaim := { program := "ytoncepgcfifgbaa", sum := "14590c3e14863f2f2538e8965a4fc99e2203557b4b5b60fffd15877523e7e3a5", func := "loop.example/g01245/laws.FnExactOrderOfForm", spec := "fnExactOrderOfForm", plainKeys := false, apart := false }
def FnExactOrderOfFormSaid : Prop := fnExactOrderOfFormRow.holds Try.pinned (OpenSpec.ofChange fnExactOrderOfFormSpec)

/-- ITS FALSE NEIGHBOUR: 'it returns false'. Refute it at one input. -/
def fnExactOrderOfFormWrong : ChangeSpec := { name := "fnExactOrderOfForm", fn := fun _ => fun
  | [d1, d2, d3] => { results := [.lit (.bool false)], args := [d1, d2, d3] }
  | _ => none }
def FnExactOrderOfFormWrongFalsely : Prop := fnExactOrderOfFormRow.holds Try.pinned (OpenSpec.ofChange fnExactOrderOfFormWrong)

/-- 'laws.FnExactGroupOrders': WHATEVER THE INPUT: true; the input reads as it did. -/
def fnExactGroupOrdersSpec : ChangeSpec := { name := "fnExactGroupOrders", fn := fun _ => fun
  | [d1, d2] => { results := [.lit (.bool true)], args := [d1, d2] }
  | _ => none }
def fnExactGroupOrdersRow : OpenClaim := { program := "ytoncepgcfifgbaa", sum := "14590c3e14863f2f2538e8965a4fc99e2203557b4b5b60fffd15877523e7e3a5", func := "loop.example/g01245/laws.FnExactGroupOrders", spec := "fnExactGroupOrders", unfollowed := true, recurses := true, plainKeys := false, apart := false }
def FnExactGroupOrdersSaid : Prop := fnExactGroupOrdersRow.holds Try.pinned (OpenSpec.ofChange fnExactGroupOrdersSpec)

/-- ITS FALSE NEIGHBOUR: 'it returns false'. Refute it at one input. -/
def fnExactGroupOrdersWrong : ChangeSpec := { name := "fnExactGroupOrders", fn := fun _ => fun
  | [d1, d2] => { results := [.lit (.bool false)], args := [d1, d2] }
  | _ => none }
def FnExactGroupOrdersWrongFalsely : Prop := fnExactGroupOrdersRow.holds Try.pinned (OpenSpec.ofChange fnExactGroupOrdersWrong)

/- THE SECOND FORM. 'bulk': how many values and letters a reading holds, each counted each time it is reached (what is shared counts as often as it is met; a slice's spare places count too). A statement '..UptoSaid' is the law's where the arguments, and the package variables that the reading takes, are together of bulk at most 1048576: NARROWER than '..Said'. Prove '..Said' where nothing that the law and all that it calls make is longer than what came in: it says more and counts as full. Else prove '..UptoSaid'. A law counts once. -/
mutual
def uptoBulk {H : Type} : DataW H → Nat
  | .lit (.string bytes) => bytes.length + 1
  | .lit _ => 1
  | .nil => 1
  | .ptr d => uptoBulk d + 1
  | .slice elems spare => uptoBulkAll elems + uptoBulkAll spare + 1
  | .agg parts => uptoBulkAll parts + 1
  | .iface _ d => uptoBulk d + 1
  | .map entries => uptoBulkEntries entries + 1
  | .held _ => 1
def uptoBulkAll {H : Type} : List (DataW H) → Nat
  | [] => 0
  | d :: r => uptoBulk d + uptoBulkAll r
def uptoBulkEntries {H : Type} : List (Lit × DataW H) → Nat
  | [] => 0
  | x :: r => uptoBulkEntry x + uptoBulkEntries r
def uptoBulkEntry {H : Type} : Lit × DataW H → Nat
  | (.string bytes, d) => bytes.length + uptoBulk d + 1
  | (_, d) => uptoBulk d + 1
 end
def uptoSmall : (H : Type) → List (DataW H) → Bool := fun _ ds => decide (uptoBulkAll ds ≤ 1048576)
def OpenSpec.upto (s : _root_.Go.ChangeSpec) : _root_.Go.OpenSpec := { _root_.Go.OpenSpec.ofChange s with cond := some uptoSmall }

/-- 'laws.FnExactDerivativeOf', WHERE WHAT IT READS IS OF BULK AT MOST 1048576: true; the input reads as it did. -/
def fnExactDerivativeOfUptoRow : OpenClaim := { program := "ytoncepgcfifgbaa", sum := "14590c3e14863f2f2538e8965a4fc99e2203557b4b5b60fffd15877523e7e3a5", func := "loop.example/g01245/laws.FnExactDerivativeOf", spec := "fnExactDerivativeOf", plainKeys := false, apart := false, narrowed := true }
def FnExactDerivativeOfUptoSaid : Prop := fnExactDerivativeOfUptoRow.holds Try.pinned (OpenSpec.upto fnExactDerivativeOfSpec)

/-- 'laws.FnExactPowerOf', WHERE WHAT IT READS IS OF BULK AT MOST 1048576: true; the input reads as it did. -/
def fnExactPowerOfUptoRow : OpenClaim := { program := "ytoncepgcfifgbaa", sum := "14590c3e14863f2f2538e8965a4fc99e2203557b4b5b60fffd15877523e7e3a5", func := "loop.example/g01245/laws.FnExactPowerOf", spec := "fnExactPowerOf", unfollowed := true, recurses := true, plainKeys := false, apart := false, narrowed := true }
def FnExactPowerOfUptoSaid : Prop := fnExactPowerOfUptoRow.holds Try.pinned (OpenSpec.upto fnExactPowerOfSpec)

/-- 'laws.FnExactPowerModulo', WHERE WHAT IT READS IS OF BULK AT MOST 1048576: true; the input reads as it did. -/
def fnExactPowerModuloUptoRow : OpenClaim := { program := "ytoncepgcfifgbaa", sum := "14590c3e14863f2f2538e8965a4fc99e2203557b4b5b60fffd15877523e7e3a5", func := "loop.example/g01245/laws.FnExactPowerModulo", spec := "fnExactPowerModulo", unfollowed := true, recurses := true, plainKeys := false, apart := false, narrowed := true }
def FnExactPowerModuloUptoSaid : Prop := fnExactPowerModuloUptoRow.holds Try.pinned (OpenSpec.upto fnExactPowerModuloSpec)

/-- 'laws.FnExactMonicPolys', WHERE WHAT IT READS IS OF BULK AT MOST 1048576: true; the input reads as it did. -/
def fnExactMonicPolysUptoRow : OpenClaim := { program := "ytoncepgcfifgbaa", sum := "14590c3e14863f2f2538e8965a4fc99e2203557b4b5b60fffd15877523e7e3a5", func := "loop.example/g01245/laws.FnExactMonicPolys", spec := "fnExactMonicPolys", plainKeys := false, apart := false, narrowed := true }
def FnExactMonicPolysUptoSaid : Prop := fnExactMonicPolysUptoRow.holds Try.pinned (OpenSpec.upto fnExactMonicPolysSpec)

/-- 'laws.FnExactIsIrreducible', WHERE WHAT IT READS IS OF BULK AT MOST 1048576: true; the input reads as it did. -/
def fnExactIsIrreducibleUptoRow : OpenClaim := { program := "ytoncepgcfifgbaa", sum := "14590c3e14863f2f2538e8965a4fc99e2203557b4b5b60fffd15877523e7e3a5", func := "loop.example/g01245/laws.FnExactIsIrreducible", spec := "fnExactIsIrreducible", unfollowed := true, recurses := true, plainKeys := false, apart := false, narrowed := true }
def FnExactIsIrreducibleUptoSaid : Prop := fnExactIsIrreducibleUptoRow.holds Try.pinned (OpenSpec.upto fnExactIsIrreducibleSpec)

/-- 'laws.FnExactIrreduciblesOf', WHERE WHAT IT READS IS OF BULK AT MOST 1048576: true; the input reads as it did. -/
def fnExactIrreduciblesOfUptoRow : OpenClaim := { program := "ytoncepgcfifgbaa", sum := "14590c3e14863f2f2538e8965a4fc99e2203557b4b5b60fffd15877523e7e3a5", func := "loop.example/g01245/laws.FnExactIrreduciblesOf", spec := "fnExactIrreduciblesOf", unfollowed := true, recurses := true, plainKeys := false, apart := false, narrowed := true }
def FnExactIrreduciblesOfUptoSaid : Prop := fnExactIrreduciblesOfUptoRow.holds Try.pinned (OpenSpec.upto fnExactIrreduciblesOfSpec)

/-- 'laws.FnExactFactorsOf', WHERE WHAT IT READS IS OF BULK AT MOST 1048576: true; the input reads as it did. -/
def fnExactFactorsOfUptoRow : OpenClaim := { program := "ytoncepgcfifgbaa", sum := "14590c3e14863f2f2538e8965a4fc99e2203557b4b5b60fffd15877523e7e3a5", func := "loop.example/g01245/laws.FnExactFactorsOf", spec := "fnExactFactorsOf", unfollowed := true, recurses := true, plainKeys := false, apart := false, narrowed := true }
def FnExactFactorsOfUptoSaid : Prop := fnExactFactorsOfUptoRow.holds Try.pinned (OpenSpec.upto fnExactFactorsOfSpec)

/-- 'laws.FnExactMoebiusOf', WHERE WHAT IT READS IS OF BULK AT MOST 1048576: true; the input reads as it did. -/
def fnExactMoebiusOfUptoRow : OpenClaim := { program := "ytoncepgcfifgbaa", sum := "14590c3e14863f2f2538e8965a4fc99e2203557b4b5b60fffd15877523e7e3a5", func := "loop.example/g01245/laws.FnExactMoebiusOf", spec := "fnExactMoebiusOf", unfollowed := true, recurses := true, plainKeys := false, apart := false, narrowed := true }
def FnExactMoebiusOfUptoSaid : Prop := fnExactMoebiusOfUptoRow.holds Try.pinned (OpenSpec.upto fnExactMoebiusOfSpec)

/-- 'laws.FnExactEulerOf', WHERE WHAT IT READS IS OF BULK AT MOST 1048576: true; the input reads as it did. -/
def fnExactEulerOfUptoRow : OpenClaim := { program := "ytoncepgcfifgbaa", sum := "14590c3e14863f2f2538e8965a4fc99e2203557b4b5b60fffd15877523e7e3a5", func := "loop.example/g01245/laws.FnExactEulerOf", spec := "fnExactEulerOf", unfollowed := true, recurses := true, plainKeys := false, apart := false, narrowed := true }
def FnExactEulerOfUptoSaid : Prop := fnExactEulerOfUptoRow.holds Try.pinned (OpenSpec.upto fnExactEulerOfSpec)

/-- 'laws.FnExactOrderModulo', WHERE WHAT IT READS IS OF BULK AT MOST 1048576: true; the input reads as it did. -/
def fnExactOrderModuloUptoRow : OpenClaim := { program := "ytoncepgcfifgbaa", sum := "14590c3e14863f2f2538e8965a4fc99e2203557b4b5b60fffd15877523e7e3a5", func := "loop.example/g01245/laws.FnExactOrderModulo", spec := "fnExactOrderModulo", unfollowed := true, recurses := true, plainKeys := false, apart := false, narrowed := true }
def FnExactOrderModuloUptoSaid : Prop := fnExactOrderModuloUptoRow.holds Try.pinned (OpenSpec.upto fnExactOrderModuloSpec)

/-- 'laws.FnExactPrimitiveOf', WHERE WHAT IT READS IS OF BULK AT MOST 1048576: true; the input reads as it did. -/
def fnExactPrimitiveOfUptoRow : OpenClaim := { program := "ytoncepgcfifgbaa", sum := "14590c3e14863f2f2538e8965a4fc99e2203557b4b5b60fffd15877523e7e3a5", func := "loop.example/g01245/laws.FnExactPrimitiveOf", spec := "fnExactPrimitiveOf", unfollowed := true, recurses := true, plainKeys := false, apart := false, narrowed := true }
def FnExactPrimitiveOfUptoSaid : Prop := fnExactPrimitiveOfUptoRow.holds Try.pinned (OpenSpec.upto fnExactPrimitiveOfSpec)

/-- 'laws.FnExactIsField', WHERE WHAT IT READS IS OF BULK AT MOST 1048576: true; the input reads as it did. -/
def fnExactIsFieldUptoRow : OpenClaim := { program := "ytoncepgcfifgbaa", sum := "14590c3e14863f2f2538e8965a4fc99e2203557b4b5b60fffd15877523e7e3a5", func := "loop.example/g01245/laws.FnExactIsField", spec := "fnExactIsField", unfollowed := true, recurses := true, plainKeys := false, apart := false, narrowed := true }
def FnExactIsFieldUptoSaid : Prop := fnExactIsFieldUptoRow.holds Try.pinned (OpenSpec.upto fnExactIsFieldSpec)

/-- 'laws.FnExactIsDiscriminant', WHERE WHAT IT READS IS OF BULK AT MOST 1048576: true; the input reads as it did. -/
def fnExactIsDiscriminantUptoRow : OpenClaim := { program := "ytoncepgcfifgbaa", sum := "14590c3e14863f2f2538e8965a4fc99e2203557b4b5b60fffd15877523e7e3a5", func := "loop.example/g01245/laws.FnExactIsDiscriminant", spec := "fnExactIsDiscriminant", plainKeys := false, apart := false, narrowed := true }
def FnExactIsDiscriminantUptoSaid : Prop := fnExactIsDiscriminantUptoRow.holds Try.pinned (OpenSpec.upto fnExactIsDiscriminantSpec)

/-- 'laws.FnExactIsForm', WHERE WHAT IT READS IS OF BULK AT MOST 1048576: true; the input reads as it did. -/
def fnExactIsFormUptoRow : OpenClaim := { program := "ytoncepgcfifgbaa", sum := "14590c3e14863f2f2538e8965a4fc99e2203557b4b5b60fffd15877523e7e3a5", func := "loop.example/g01245/laws.FnExactIsForm", spec := "fnExactIsForm", plainKeys := false, apart := false, narrowed := true }
def FnExactIsFormUptoSaid : Prop := fnExactIsFormUptoRow.holds Try.pinned (OpenSpec.upto fnExactIsFormSpec)

/-- 'laws.FnExactReduceForm', WHERE WHAT IT READS IS OF BULK AT MOST 1048576: true; the input reads as it did. -/
def fnExactReduceFormUptoRow : OpenClaim := { program := "ytoncepgcfifgbaa", sum := "14590c3e14863f2f2538e8965a4fc99e2203557b4b5b60fffd15877523e7e3a5", func := "loop.example/g01245/laws.FnExactReduceForm", spec := "fnExactReduceForm", plainKeys := false, apart := false, narrowed := true }
def FnExactReduceFormUptoSaid : Prop := fnExactReduceFormUptoRow.holds Try.pinned (OpenSpec.upto fnExactReduceFormSpec)

/-- 'laws.FnExactReducedForms', WHERE WHAT IT READS IS OF BULK AT MOST 1048576: true; the input reads as it did. -/
def fnExactReducedFormsUptoRow : OpenClaim := { program := "ytoncepgcfifgbaa", sum := "14590c3e14863f2f2538e8965a4fc99e2203557b4b5b60fffd15877523e7e3a5", func := "loop.example/g01245/laws.FnExactReducedForms", spec := "fnExactReducedForms", unfollowed := true, recurses := true, plainKeys := false, apart := false, narrowed := true }
def FnExactReducedFormsUptoSaid : Prop := fnExactReducedFormsUptoRow.holds Try.pinned (OpenSpec.upto fnExactReducedFormsSpec)

/-- 'laws.FnExactClassNumber', WHERE WHAT IT READS IS OF BULK AT MOST 1048576: true; the input reads as it did. -/
def fnExactClassNumberUptoRow : OpenClaim := { program := "ytoncepgcfifgbaa", sum := "14590c3e14863f2f2538e8965a4fc99e2203557b4b5b60fffd15877523e7e3a5", func := "loop.example/g01245/laws.FnExactClassNumber", spec := "fnExactClassNumber", unfollowed := true, recurses := true, plainKeys := false, apart := false, narrowed := true }
def FnExactClassNumberUptoSaid : Prop := fnExactClassNumberUptoRow.holds Try.pinned (OpenSpec.upto fnExactClassNumberSpec)

/-- 'laws.FnExactComposeForms', WHERE WHAT IT READS IS OF BULK AT MOST 1048576: true; the input reads as it did. -/
def fnExactComposeFormsUptoRow : OpenClaim := { program := "ytoncepgcfifgbaa", sum := "14590c3e14863f2f2538e8965a4fc99e2203557b4b5b60fffd15877523e7e3a5", func := "loop.example/g01245/laws.FnExactComposeForms", spec := "fnExactComposeForms", plainKeys := false, apart := false, narrowed := true }
def FnExactComposeFormsUptoSaid : Prop := fnExactComposeFormsUptoRow.holds Try.pinned (OpenSpec.upto fnExactComposeFormsSpec)

/-- 'laws.FnExactInverseForm', WHERE WHAT IT READS IS OF BULK AT MOST 1048576: true; the input reads as it did. -/
def fnExactInverseFormUptoRow : OpenClaim := { program := "ytoncepgcfifgbaa", sum := "14590c3e14863f2f2538e8965a4fc99e2203557b4b5b60fffd15877523e7e3a5", func := "loop.example/g01245/laws.FnExactInverseForm", spec := "fnExactInverseForm", plainKeys := false, apart := false, narrowed := true }
def FnExactInverseFormUptoSaid : Prop := fnExactInverseFormUptoRow.holds Try.pinned (OpenSpec.upto fnExactInverseFormSpec)

/-- 'laws.FnExactPowerOfForm', WHERE WHAT IT READS IS OF BULK AT MOST 1048576: true; the input reads as it did. -/
def fnExactPowerOfFormUptoRow : OpenClaim := { program := "ytoncepgcfifgbaa", sum := "14590c3e14863f2f2538e8965a4fc99e2203557b4b5b60fffd15877523e7e3a5", func := "loop.example/g01245/laws.FnExactPowerOfForm", spec := "fnExactPowerOfForm", unfollowed := true, recurses := true, plainKeys := false, apart := false, narrowed := true }
def FnExactPowerOfFormUptoSaid : Prop := fnExactPowerOfFormUptoRow.holds Try.pinned (OpenSpec.upto fnExactPowerOfFormSpec)

/-- 'laws.FnExactOrderOfForm', WHERE WHAT IT READS IS OF BULK AT MOST 1048576: true; the input reads as it did. -/
def fnExactOrderOfFormUptoRow : OpenClaim := { program := "ytoncepgcfifgbaa", sum := "14590c3e14863f2f2538e8965a4fc99e2203557b4b5b60fffd15877523e7e3a5", func := "loop.example/g01245/laws.FnExactOrderOfForm", spec := "fnExactOrderOfForm", plainKeys := false, apart := false, narrowed := true }
def FnExactOrderOfFormUptoSaid : Prop := fnExactOrderOfFormUptoRow.holds Try.pinned (OpenSpec.upto fnExactOrderOfFormSpec)

/-- 'laws.FnExactGroupOrders', WHERE WHAT IT READS IS OF BULK AT MOST 1048576: true; the input reads as it did. -/
def fnExactGroupOrdersUptoRow : OpenClaim := { program := "ytoncepgcfifgbaa", sum := "14590c3e14863f2f2538e8965a4fc99e2203557b4b5b60fffd15877523e7e3a5", func := "loop.example/g01245/laws.FnExactGroupOrders", spec := "fnExactGroupOrders", unfollowed := true, recurses := true, plainKeys := false, apart := false, narrowed := true }
def FnExactGroupOrdersUptoSaid : Prop := fnExactGroupOrdersUptoRow.holds Try.pinned (OpenSpec.upto fnExactGroupOrdersSpec)

end Rows
end Go.Proofs.Ytoncepgcfifgbaa
