/-
  No cell of these rows narrows 'for every input' (looked for: loops, veiled, ifaces, maps, wideKeys, modest, calm, conditions, laid).
  DERIVED. THE GIVEN ROWS OF THIS SEAT. 20 by the template 'for every input the law returns true; each argument reads behind the call as it read before'; 0 by the template 'total and deterministic' (their statements: YtpeehpaghdddgaaTotals.lean).
  GIVEN WITH THE SEED: the statements are not yours to turn. If you find one false, say at which input.
  Laid BY PROGRAM, IN A SANDBOX (cutbox-rows.mjs): the forced cells as the released guide's own fill.sh prints them over the translation dfc2ce6b5f17533c… (all of the seat's roots in one cut). By AI agents, Wed Nov 11 2026. No macro, syntax, notation, axiom, sorry.
-/
import Derived.Test.YtpeehpaghdddgaaChecked
import GoSem.Claim
import GoSem.ClaimJoined
import GoSem.ClaimMapViews
import Derived.JoinedTies
import Derived.KernelRfl
namespace Go.Proofs.Ytpeehpaghdddgaa
/- THE CELL 'sum', in the pinned program and in every row, IS THE sha256 OF THE DUMP (.gsa) THAT YtpeehpaghdddgaaProg.lean LOADS. Nothing in Lean hashes anything: it is a label: what it is worth is what the hold of that sum in a sandbox is worth. -/
noncomputable def Try.pinned : Pinned := { name := "ytpeehpaghdddgaa", sum := "dfc2ce6b5f17533cd52ededa296aea324253f854eb48a4418c1e7e9165d355fe", checked := Try.checked }
namespace Rows
def none {H : Type} : Left H := { results := [], args := [] }

/-- 'laws.FnExactRootsOf': WHATEVER THE INPUT: true; the input reads as it did. -/
def fnExactRootsOfSpec : ChangeSpec := { name := "fnExactRootsOf", fn := fun _ => fun
  | [d1, d2] => { results := [.lit (.bool true)], args := [d1, d2] }
  | _ => none }
def fnExactRootsOfRow : OpenClaim := { program := "ytpeehpaghdddgaa", sum := "dfc2ce6b5f17533cd52ededa296aea324253f854eb48a4418c1e7e9165d355fe", func := "loop.example/g01245/laws.FnExactRootsOf", spec := "fnExactRootsOf", plainKeys := false, apart := false }
def FnExactRootsOfSaid : Prop := fnExactRootsOfRow.holds Try.pinned (OpenSpec.ofChange fnExactRootsOfSpec)

/-- ITS FALSE NEIGHBOUR: 'it returns false'. Refute it at one input. -/
def fnExactRootsOfWrong : ChangeSpec := { name := "fnExactRootsOf", fn := fun _ => fun
  | [d1, d2] => { results := [.lit (.bool false)], args := [d1, d2] }
  | _ => none }
def FnExactRootsOfWrongFalsely : Prop := fnExactRootsOfRow.holds Try.pinned (OpenSpec.ofChange fnExactRootsOfWrong)

/-- 'laws.FnExactPowerOf': WHATEVER THE INPUT: true; the input reads as it did. -/
def fnExactPowerOfSpec : ChangeSpec := { name := "fnExactPowerOf", fn := fun _ => fun
  | [d1, d2, d3] => { results := [.lit (.bool true)], args := [d1, d2, d3] }
  | _ => none }
def fnExactPowerOfRow : OpenClaim := { program := "ytpeehpaghdddgaa", sum := "dfc2ce6b5f17533cd52ededa296aea324253f854eb48a4418c1e7e9165d355fe", func := "loop.example/g01245/laws.FnExactPowerOf", spec := "fnExactPowerOf", unfollowed := true, recurses := true, plainKeys := false, apart := false }
def FnExactPowerOfSaid : Prop := fnExactPowerOfRow.holds Try.pinned (OpenSpec.ofChange fnExactPowerOfSpec)

/-- ITS FALSE NEIGHBOUR: 'it returns false'. Refute it at one input. -/
def fnExactPowerOfWrong : ChangeSpec := { name := "fnExactPowerOf", fn := fun _ => fun
  | [d1, d2, d3] => { results := [.lit (.bool false)], args := [d1, d2, d3] }
  | _ => none }
def FnExactPowerOfWrongFalsely : Prop := fnExactPowerOfRow.holds Try.pinned (OpenSpec.ofChange fnExactPowerOfWrong)

/-- 'laws.FnExactPowerModulo': WHATEVER THE INPUT: true; the input reads as it did. -/
def fnExactPowerModuloSpec : ChangeSpec := { name := "fnExactPowerModulo", fn := fun _ => fun
  | [d1, d2, d3, d4] => { results := [.lit (.bool true)], args := [d1, d2, d3, d4] }
  | _ => none }
def fnExactPowerModuloRow : OpenClaim := { program := "ytpeehpaghdddgaa", sum := "dfc2ce6b5f17533cd52ededa296aea324253f854eb48a4418c1e7e9165d355fe", func := "loop.example/g01245/laws.FnExactPowerModulo", spec := "fnExactPowerModulo", unfollowed := true, recurses := true, plainKeys := false, apart := false }
def FnExactPowerModuloSaid : Prop := fnExactPowerModuloRow.holds Try.pinned (OpenSpec.ofChange fnExactPowerModuloSpec)

/-- ITS FALSE NEIGHBOUR: 'it returns false'. Refute it at one input. -/
def fnExactPowerModuloWrong : ChangeSpec := { name := "fnExactPowerModulo", fn := fun _ => fun
  | [d1, d2, d3, d4] => { results := [.lit (.bool false)], args := [d1, d2, d3, d4] }
  | _ => none }
def FnExactPowerModuloWrongFalsely : Prop := fnExactPowerModuloRow.holds Try.pinned (OpenSpec.ofChange fnExactPowerModuloWrong)

/-- 'laws.FnExactMonicPolys': WHATEVER THE INPUT: true; the input reads as it did. -/
def fnExactMonicPolysSpec : ChangeSpec := { name := "fnExactMonicPolys", fn := fun _ => fun
  | [d1, d2] => { results := [.lit (.bool true)], args := [d1, d2] }
  | _ => none }
def fnExactMonicPolysRow : OpenClaim := { program := "ytpeehpaghdddgaa", sum := "dfc2ce6b5f17533cd52ededa296aea324253f854eb48a4418c1e7e9165d355fe", func := "loop.example/g01245/laws.FnExactMonicPolys", spec := "fnExactMonicPolys", plainKeys := false, apart := false }
def FnExactMonicPolysSaid : Prop := fnExactMonicPolysRow.holds Try.pinned (OpenSpec.ofChange fnExactMonicPolysSpec)

/-- ITS FALSE NEIGHBOUR: 'it returns false'. Refute it at one input. -/
def fnExactMonicPolysWrong : ChangeSpec := { name := "fnExactMonicPolys", fn := fun _ => fun
  | [d1, d2] => { results := [.lit (.bool false)], args := [d1, d2] }
  | _ => none }
def FnExactMonicPolysWrongFalsely : Prop := fnExactMonicPolysRow.holds Try.pinned (OpenSpec.ofChange fnExactMonicPolysWrong)

/-- 'laws.FnExactPolyText': WHATEVER THE INPUT: true; the input reads as it did. -/
def fnExactPolyTextSpec : ChangeSpec := { name := "fnExactPolyText", fn := fun _ => fun
  | [d1, d2] => { results := [.lit (.bool true)], args := [d1, d2] }
  | _ => none }
def fnExactPolyTextRow : OpenClaim := { program := "ytpeehpaghdddgaa", sum := "dfc2ce6b5f17533cd52ededa296aea324253f854eb48a4418c1e7e9165d355fe", func := "loop.example/g01245/laws.FnExactPolyText", spec := "fnExactPolyText", plainKeys := false, apart := false }
def FnExactPolyTextSaid : Prop := fnExactPolyTextRow.holds Try.pinned (OpenSpec.ofChange fnExactPolyTextSpec)

/-- ITS FALSE NEIGHBOUR: 'it returns false'. Refute it at one input. -/
def fnExactPolyTextWrong : ChangeSpec := { name := "fnExactPolyText", fn := fun _ => fun
  | [d1, d2] => { results := [.lit (.bool false)], args := [d1, d2] }
  | _ => none }
def FnExactPolyTextWrongFalsely : Prop := fnExactPolyTextRow.holds Try.pinned (OpenSpec.ofChange fnExactPolyTextWrong)

/-- 'laws.FnExactParsePoly': WHATEVER THE INPUT: true; the input reads as it did. -/
def fnExactParsePolySpec : ChangeSpec := { name := "fnExactParsePoly", fn := fun _ => fun
  | [d1, d2] => { results := [.lit (.bool true)], args := [d1, d2] }
  | _ => none }
def fnExactParsePolyRow : OpenClaim := { program := "ytpeehpaghdddgaa", sum := "dfc2ce6b5f17533cd52ededa296aea324253f854eb48a4418c1e7e9165d355fe", func := "loop.example/g01245/laws.FnExactParsePoly", spec := "fnExactParsePoly", plainKeys := false, apart := false }
def FnExactParsePolySaid : Prop := fnExactParsePolyRow.holds Try.pinned (OpenSpec.ofChange fnExactParsePolySpec)

/-- ITS FALSE NEIGHBOUR: 'it returns false'. Refute it at one input. -/
def fnExactParsePolyWrong : ChangeSpec := { name := "fnExactParsePoly", fn := fun _ => fun
  | [d1, d2] => { results := [.lit (.bool false)], args := [d1, d2] }
  | _ => none }
def FnExactParsePolyWrongFalsely : Prop := fnExactParsePolyRow.holds Try.pinned (OpenSpec.ofChange fnExactParsePolyWrong)

/-- 'laws.FnExactIsIrreducible': WHATEVER THE INPUT: true; the input reads as it did. -/
def fnExactIsIrreducibleSpec : ChangeSpec := { name := "fnExactIsIrreducible", fn := fun _ => fun
  | [d1, d2] => { results := [.lit (.bool true)], args := [d1, d2] }
  | _ => none }
def fnExactIsIrreducibleRow : OpenClaim := { program := "ytpeehpaghdddgaa", sum := "dfc2ce6b5f17533cd52ededa296aea324253f854eb48a4418c1e7e9165d355fe", func := "loop.example/g01245/laws.FnExactIsIrreducible", spec := "fnExactIsIrreducible", unfollowed := true, recurses := true, plainKeys := false, apart := false }
def FnExactIsIrreducibleSaid : Prop := fnExactIsIrreducibleRow.holds Try.pinned (OpenSpec.ofChange fnExactIsIrreducibleSpec)

/-- ITS FALSE NEIGHBOUR: 'it returns false'. Refute it at one input. -/
def fnExactIsIrreducibleWrong : ChangeSpec := { name := "fnExactIsIrreducible", fn := fun _ => fun
  | [d1, d2] => { results := [.lit (.bool false)], args := [d1, d2] }
  | _ => none }
def FnExactIsIrreducibleWrongFalsely : Prop := fnExactIsIrreducibleRow.holds Try.pinned (OpenSpec.ofChange fnExactIsIrreducibleWrong)

/-- 'laws.FnExactIrreduciblesOf': WHATEVER THE INPUT: true; the input reads as it did. -/
def fnExactIrreduciblesOfSpec : ChangeSpec := { name := "fnExactIrreduciblesOf", fn := fun _ => fun
  | [d1, d2] => { results := [.lit (.bool true)], args := [d1, d2] }
  | _ => none }
def fnExactIrreduciblesOfRow : OpenClaim := { program := "ytpeehpaghdddgaa", sum := "dfc2ce6b5f17533cd52ededa296aea324253f854eb48a4418c1e7e9165d355fe", func := "loop.example/g01245/laws.FnExactIrreduciblesOf", spec := "fnExactIrreduciblesOf", unfollowed := true, recurses := true, plainKeys := false, apart := false }
def FnExactIrreduciblesOfSaid : Prop := fnExactIrreduciblesOfRow.holds Try.pinned (OpenSpec.ofChange fnExactIrreduciblesOfSpec)

/-- ITS FALSE NEIGHBOUR: 'it returns false'. Refute it at one input. -/
def fnExactIrreduciblesOfWrong : ChangeSpec := { name := "fnExactIrreduciblesOf", fn := fun _ => fun
  | [d1, d2] => { results := [.lit (.bool false)], args := [d1, d2] }
  | _ => none }
def FnExactIrreduciblesOfWrongFalsely : Prop := fnExactIrreduciblesOfRow.holds Try.pinned (OpenSpec.ofChange fnExactIrreduciblesOfWrong)

/-- 'laws.FnExactFactorsOf': WHATEVER THE INPUT: true; the input reads as it did. -/
def fnExactFactorsOfSpec : ChangeSpec := { name := "fnExactFactorsOf", fn := fun _ => fun
  | [d1, d2] => { results := [.lit (.bool true)], args := [d1, d2] }
  | _ => none }
def fnExactFactorsOfRow : OpenClaim := { program := "ytpeehpaghdddgaa", sum := "dfc2ce6b5f17533cd52ededa296aea324253f854eb48a4418c1e7e9165d355fe", func := "loop.example/g01245/laws.FnExactFactorsOf", spec := "fnExactFactorsOf", unfollowed := true, recurses := true, plainKeys := false, apart := false }
def FnExactFactorsOfSaid : Prop := fnExactFactorsOfRow.holds Try.pinned (OpenSpec.ofChange fnExactFactorsOfSpec)

/-- ITS FALSE NEIGHBOUR: 'it returns false'. Refute it at one input. -/
def fnExactFactorsOfWrong : ChangeSpec := { name := "fnExactFactorsOf", fn := fun _ => fun
  | [d1, d2] => { results := [.lit (.bool false)], args := [d1, d2] }
  | _ => none }
def FnExactFactorsOfWrongFalsely : Prop := fnExactFactorsOfRow.holds Try.pinned (OpenSpec.ofChange fnExactFactorsOfWrong)

/-- 'laws.FnExactMoebiusOf': WHATEVER THE INPUT: true; the input reads as it did. -/
def fnExactMoebiusOfSpec : ChangeSpec := { name := "fnExactMoebiusOf", fn := fun _ => fun
  | [d1, d2] => { results := [.lit (.bool true)], args := [d1, d2] }
  | _ => none }
def fnExactMoebiusOfRow : OpenClaim := { program := "ytpeehpaghdddgaa", sum := "dfc2ce6b5f17533cd52ededa296aea324253f854eb48a4418c1e7e9165d355fe", func := "loop.example/g01245/laws.FnExactMoebiusOf", spec := "fnExactMoebiusOf", unfollowed := true, recurses := true, plainKeys := false, apart := false }
def FnExactMoebiusOfSaid : Prop := fnExactMoebiusOfRow.holds Try.pinned (OpenSpec.ofChange fnExactMoebiusOfSpec)

/-- ITS FALSE NEIGHBOUR: 'it returns false'. Refute it at one input. -/
def fnExactMoebiusOfWrong : ChangeSpec := { name := "fnExactMoebiusOf", fn := fun _ => fun
  | [d1, d2] => { results := [.lit (.bool false)], args := [d1, d2] }
  | _ => none }
def FnExactMoebiusOfWrongFalsely : Prop := fnExactMoebiusOfRow.holds Try.pinned (OpenSpec.ofChange fnExactMoebiusOfWrong)

/-- 'laws.FnExactEulerOf': WHATEVER THE INPUT: true; the input reads as it did. -/
def fnExactEulerOfSpec : ChangeSpec := { name := "fnExactEulerOf", fn := fun _ => fun
  | [d1, d2] => { results := [.lit (.bool true)], args := [d1, d2] }
  | _ => none }
def fnExactEulerOfRow : OpenClaim := { program := "ytpeehpaghdddgaa", sum := "dfc2ce6b5f17533cd52ededa296aea324253f854eb48a4418c1e7e9165d355fe", func := "loop.example/g01245/laws.FnExactEulerOf", spec := "fnExactEulerOf", unfollowed := true, recurses := true, plainKeys := false, apart := false }
def FnExactEulerOfSaid : Prop := fnExactEulerOfRow.holds Try.pinned (OpenSpec.ofChange fnExactEulerOfSpec)

/-- ITS FALSE NEIGHBOUR: 'it returns false'. Refute it at one input. -/
def fnExactEulerOfWrong : ChangeSpec := { name := "fnExactEulerOf", fn := fun _ => fun
  | [d1, d2] => { results := [.lit (.bool false)], args := [d1, d2] }
  | _ => none }
def FnExactEulerOfWrongFalsely : Prop := fnExactEulerOfRow.holds Try.pinned (OpenSpec.ofChange fnExactEulerOfWrong)

/-- 'laws.FnExactOrderModulo': WHATEVER THE INPUT: true; the input reads as it did. -/
def fnExactOrderModuloSpec : ChangeSpec := { name := "fnExactOrderModulo", fn := fun _ => fun
  | [d1, d2, d3] => { results := [.lit (.bool true)], args := [d1, d2, d3] }
  | _ => none }
def fnExactOrderModuloRow : OpenClaim := { program := "ytpeehpaghdddgaa", sum := "dfc2ce6b5f17533cd52ededa296aea324253f854eb48a4418c1e7e9165d355fe", func := "loop.example/g01245/laws.FnExactOrderModulo", spec := "fnExactOrderModulo", unfollowed := true, recurses := true, plainKeys := false, apart := false }
def FnExactOrderModuloSaid : Prop := fnExactOrderModuloRow.holds Try.pinned (OpenSpec.ofChange fnExactOrderModuloSpec)

/-- ITS FALSE NEIGHBOUR: 'it returns false'. Refute it at one input. -/
def fnExactOrderModuloWrong : ChangeSpec := { name := "fnExactOrderModulo", fn := fun _ => fun
  | [d1, d2, d3] => { results := [.lit (.bool false)], args := [d1, d2, d3] }
  | _ => none }
def FnExactOrderModuloWrongFalsely : Prop := fnExactOrderModuloRow.holds Try.pinned (OpenSpec.ofChange fnExactOrderModuloWrong)

/-- 'laws.FnExactPrimitiveOf': WHATEVER THE INPUT: true; the input reads as it did. -/
def fnExactPrimitiveOfSpec : ChangeSpec := { name := "fnExactPrimitiveOf", fn := fun _ => fun
  | [d1, d2] => { results := [.lit (.bool true)], args := [d1, d2] }
  | _ => none }
def fnExactPrimitiveOfRow : OpenClaim := { program := "ytpeehpaghdddgaa", sum := "dfc2ce6b5f17533cd52ededa296aea324253f854eb48a4418c1e7e9165d355fe", func := "loop.example/g01245/laws.FnExactPrimitiveOf", spec := "fnExactPrimitiveOf", unfollowed := true, recurses := true, plainKeys := false, apart := false }
def FnExactPrimitiveOfSaid : Prop := fnExactPrimitiveOfRow.holds Try.pinned (OpenSpec.ofChange fnExactPrimitiveOfSpec)

/-- ITS FALSE NEIGHBOUR: 'it returns false'. Refute it at one input. -/
def fnExactPrimitiveOfWrong : ChangeSpec := { name := "fnExactPrimitiveOf", fn := fun _ => fun
  | [d1, d2] => { results := [.lit (.bool false)], args := [d1, d2] }
  | _ => none }
def FnExactPrimitiveOfWrongFalsely : Prop := fnExactPrimitiveOfRow.holds Try.pinned (OpenSpec.ofChange fnExactPrimitiveOfWrong)

/-- 'laws.FnExactLogarithmOf': WHATEVER THE INPUT: true; the input reads as it did. -/
def fnExactLogarithmOfSpec : ChangeSpec := { name := "fnExactLogarithmOf", fn := fun _ => fun
  | [d1, d2, d3, d4] => { results := [.lit (.bool true)], args := [d1, d2, d3, d4] }
  | _ => none }
def fnExactLogarithmOfRow : OpenClaim := { program := "ytpeehpaghdddgaa", sum := "dfc2ce6b5f17533cd52ededa296aea324253f854eb48a4418c1e7e9165d355fe", func := "loop.example/g01245/laws.FnExactLogarithmOf", spec := "fnExactLogarithmOf", plainKeys := false, apart := false }
def FnExactLogarithmOfSaid : Prop := fnExactLogarithmOfRow.holds Try.pinned (OpenSpec.ofChange fnExactLogarithmOfSpec)

/-- ITS FALSE NEIGHBOUR: 'it returns false'. Refute it at one input. -/
def fnExactLogarithmOfWrong : ChangeSpec := { name := "fnExactLogarithmOf", fn := fun _ => fun
  | [d1, d2, d3, d4] => { results := [.lit (.bool false)], args := [d1, d2, d3, d4] }
  | _ => none }
def FnExactLogarithmOfWrongFalsely : Prop := fnExactLogarithmOfRow.holds Try.pinned (OpenSpec.ofChange fnExactLogarithmOfWrong)

/-- 'laws.FnExactIsField': WHATEVER THE INPUT: true; the input reads as it did. -/
def fnExactIsFieldSpec : ChangeSpec := { name := "fnExactIsField", fn := fun _ => fun
  | [d1, d2] => { results := [.lit (.bool true)], args := [d1, d2] }
  | _ => none }
def fnExactIsFieldRow : OpenClaim := { program := "ytpeehpaghdddgaa", sum := "dfc2ce6b5f17533cd52ededa296aea324253f854eb48a4418c1e7e9165d355fe", func := "loop.example/g01245/laws.FnExactIsField", spec := "fnExactIsField", unfollowed := true, recurses := true, plainKeys := false, apart := false }
def FnExactIsFieldSaid : Prop := fnExactIsFieldRow.holds Try.pinned (OpenSpec.ofChange fnExactIsFieldSpec)

/-- ITS FALSE NEIGHBOUR: 'it returns false'. Refute it at one input. -/
def fnExactIsFieldWrong : ChangeSpec := { name := "fnExactIsField", fn := fun _ => fun
  | [d1, d2] => { results := [.lit (.bool false)], args := [d1, d2] }
  | _ => none }
def FnExactIsFieldWrongFalsely : Prop := fnExactIsFieldRow.holds Try.pinned (OpenSpec.ofChange fnExactIsFieldWrong)

/-- 'laws.FnExactIsSkew': WHATEVER THE INPUT: true; the input reads as it did. -/
def fnExactIsSkewSpec : ChangeSpec := { name := "fnExactIsSkew", fn := fun _ => fun
  | [d1, d2, d3] => { results := [.lit (.bool true)], args := [d1, d2, d3] }
  | _ => none }
def fnExactIsSkewRow : OpenClaim := { program := "ytpeehpaghdddgaa", sum := "dfc2ce6b5f17533cd52ededa296aea324253f854eb48a4418c1e7e9165d355fe", func := "loop.example/g01245/laws.FnExactIsSkew", spec := "fnExactIsSkew", unfollowed := true, recurses := true, plainKeys := false, apart := false }
def FnExactIsSkewSaid : Prop := fnExactIsSkewRow.holds Try.pinned (OpenSpec.ofChange fnExactIsSkewSpec)

/-- ITS FALSE NEIGHBOUR: 'it returns false'. Refute it at one input. -/
def fnExactIsSkewWrong : ChangeSpec := { name := "fnExactIsSkew", fn := fun _ => fun
  | [d1, d2, d3] => { results := [.lit (.bool false)], args := [d1, d2, d3] }
  | _ => none }
def FnExactIsSkewWrongFalsely : Prop := fnExactIsSkewRow.holds Try.pinned (OpenSpec.ofChange fnExactIsSkewWrong)

/-- 'laws.FnExactSkewDegree': WHATEVER THE INPUT: true; the input reads as it did. -/
def fnExactSkewDegreeSpec : ChangeSpec := { name := "fnExactSkewDegree", fn := fun _ => fun
  | [d1, d2, d3] => { results := [.lit (.bool true)], args := [d1, d2, d3] }
  | _ => none }
def fnExactSkewDegreeRow : OpenClaim := { program := "ytpeehpaghdddgaa", sum := "dfc2ce6b5f17533cd52ededa296aea324253f854eb48a4418c1e7e9165d355fe", func := "loop.example/g01245/laws.FnExactSkewDegree", spec := "fnExactSkewDegree", unfollowed := true, recurses := true, plainKeys := false, apart := false }
def FnExactSkewDegreeSaid : Prop := fnExactSkewDegreeRow.holds Try.pinned (OpenSpec.ofChange fnExactSkewDegreeSpec)

/-- ITS FALSE NEIGHBOUR: 'it returns false'. Refute it at one input. -/
def fnExactSkewDegreeWrong : ChangeSpec := { name := "fnExactSkewDegree", fn := fun _ => fun
  | [d1, d2, d3] => { results := [.lit (.bool false)], args := [d1, d2, d3] }
  | _ => none }
def FnExactSkewDegreeWrongFalsely : Prop := fnExactSkewDegreeRow.holds Try.pinned (OpenSpec.ofChange fnExactSkewDegreeWrong)

/-- 'laws.FnExactAddSkews': WHATEVER THE INPUT: true; the input reads as it did. -/
def fnExactAddSkewsSpec : ChangeSpec := { name := "fnExactAddSkews", fn := fun _ => fun
  | [d1, d2, d3, d4] => { results := [.lit (.bool true)], args := [d1, d2, d3, d4] }
  | _ => none }
def fnExactAddSkewsRow : OpenClaim := { program := "ytpeehpaghdddgaa", sum := "dfc2ce6b5f17533cd52ededa296aea324253f854eb48a4418c1e7e9165d355fe", func := "loop.example/g01245/laws.FnExactAddSkews", spec := "fnExactAddSkews", unfollowed := true, recurses := true, plainKeys := false, apart := false }
def FnExactAddSkewsSaid : Prop := fnExactAddSkewsRow.holds Try.pinned (OpenSpec.ofChange fnExactAddSkewsSpec)

/-- ITS FALSE NEIGHBOUR: 'it returns false'. Refute it at one input. -/
def fnExactAddSkewsWrong : ChangeSpec := { name := "fnExactAddSkews", fn := fun _ => fun
  | [d1, d2, d3, d4] => { results := [.lit (.bool false)], args := [d1, d2, d3, d4] }
  | _ => none }
def FnExactAddSkewsWrongFalsely : Prop := fnExactAddSkewsRow.holds Try.pinned (OpenSpec.ofChange fnExactAddSkewsWrong)

/-- 'laws.FnExactMultiplySkews': WHATEVER THE INPUT: true; the input reads as it did. -/
def fnExactMultiplySkewsSpec : ChangeSpec := { name := "fnExactMultiplySkews", fn := fun _ => fun
  | [d1, d2, d3, d4] => { results := [.lit (.bool true)], args := [d1, d2, d3, d4] }
  | _ => none }
def fnExactMultiplySkewsRow : OpenClaim := { program := "ytpeehpaghdddgaa", sum := "dfc2ce6b5f17533cd52ededa296aea324253f854eb48a4418c1e7e9165d355fe", func := "loop.example/g01245/laws.FnExactMultiplySkews", spec := "fnExactMultiplySkews", unfollowed := true, recurses := true, plainKeys := false, apart := false }
def FnExactMultiplySkewsSaid : Prop := fnExactMultiplySkewsRow.holds Try.pinned (OpenSpec.ofChange fnExactMultiplySkewsSpec)

/-- ITS FALSE NEIGHBOUR: 'it returns false'. Refute it at one input. -/
def fnExactMultiplySkewsWrong : ChangeSpec := { name := "fnExactMultiplySkews", fn := fun _ => fun
  | [d1, d2, d3, d4] => { results := [.lit (.bool false)], args := [d1, d2, d3, d4] }
  | _ => none }
def FnExactMultiplySkewsWrongFalsely : Prop := fnExactMultiplySkewsRow.holds Try.pinned (OpenSpec.ofChange fnExactMultiplySkewsWrong)

/-- 'laws.FnExactValueOfSkew': WHATEVER THE INPUT: true; the input reads as it did. -/
def fnExactValueOfSkewSpec : ChangeSpec := { name := "fnExactValueOfSkew", fn := fun _ => fun
  | [d1, d2, d3, d4] => { results := [.lit (.bool true)], args := [d1, d2, d3, d4] }
  | _ => none }
def fnExactValueOfSkewRow : OpenClaim := { program := "ytpeehpaghdddgaa", sum := "dfc2ce6b5f17533cd52ededa296aea324253f854eb48a4418c1e7e9165d355fe", func := "loop.example/g01245/laws.FnExactValueOfSkew", spec := "fnExactValueOfSkew", unfollowed := true, recurses := true, plainKeys := false, apart := false }
def FnExactValueOfSkewSaid : Prop := fnExactValueOfSkewRow.holds Try.pinned (OpenSpec.ofChange fnExactValueOfSkewSpec)

/-- ITS FALSE NEIGHBOUR: 'it returns false'. Refute it at one input. -/
def fnExactValueOfSkewWrong : ChangeSpec := { name := "fnExactValueOfSkew", fn := fun _ => fun
  | [d1, d2, d3, d4] => { results := [.lit (.bool false)], args := [d1, d2, d3, d4] }
  | _ => none }
def FnExactValueOfSkewWrongFalsely : Prop := fnExactValueOfSkewRow.holds Try.pinned (OpenSpec.ofChange fnExactValueOfSkewWrong)

/- THE SECOND FORM. 'bulk': how many values and letters a reading holds, each counted each time it is reached (what is shared counts as often as it is met; a slice's spare places count too). A statement '..UptoSaid' is the law's where the arguments, and the package variables that the reading takes, are together of bulk at most 1048576: NARROWER than '..Said'. Prove '..Said' where nothing that the law and all that it calls make is longer than what came in: it says more and counts as full. Else prove '..UptoSaid'. A law counts once. -/
mutual
def uptoBulk {H : Type} : DataW H → Nat
  | .lit (.string bytes) => bytes.length + 1
  | .lit _ => 1
  | .nil => 1
  | .ptr d => uptoBulk d + 1
  | .slice elems spare => uptoBulkAll elems + uptoBulkAll spare + 1
  | .agg parts => uptoBulkAll parts + 1
  | .iface _ d => uptoBulk d + 1
  | .map entries => uptoBulkEntries entries + 1
  | .held _ => 1
def uptoBulkAll {H : Type} : List (DataW H) → Nat
  | [] => 0
  | d :: r => uptoBulk d + uptoBulkAll r
def uptoBulkEntries {H : Type} : List (Lit × DataW H) → Nat
  | [] => 0
  | x :: r => uptoBulkEntry x + uptoBulkEntries r
def uptoBulkEntry {H : Type} : Lit × DataW H → Nat
  | (.string bytes, d) => bytes.length + uptoBulk d + 1
  | (_, d) => uptoBulk d + 1
 end
def uptoSmall : (H : Type) → List (DataW H) → Bool := fun _ ds => decide (uptoBulkAll ds ≤ 1048576)
def OpenSpec.upto (s : _root_.Go.ChangeSpec) : _root_.Go.OpenSpec := { _root_.Go.OpenSpec.ofChange s with cond := some uptoSmall }

/-- 'laws.FnExactRootsOf', WHERE WHAT IT READS IS OF BULK AT MOST 1048576: true; the input reads as it did. -/
def fnExactRootsOfUptoRow : OpenClaim := { program := "ytpeehpaghdddgaa", sum := "dfc2ce6b5f17533cd52ededa296aea324253f854eb48a4418c1e7e9165d355fe", func := "loop.example/g01245/laws.FnExactRootsOf", spec := "fnExactRootsOf", plainKeys := false, apart := false, narrowed := true }
def FnExactRootsOfUptoSaid : Prop := fnExactRootsOfUptoRow.holds Try.pinned (OpenSpec.upto fnExactRootsOfSpec)

/-- 'laws.FnExactPowerOf', WHERE WHAT IT READS IS OF BULK AT MOST 1048576: true; the input reads as it did. -/
def fnExactPowerOfUptoRow : OpenClaim := { program := "ytpeehpaghdddgaa", sum := "dfc2ce6b5f17533cd52ededa296aea324253f854eb48a4418c1e7e9165d355fe", func := "loop.example/g01245/laws.FnExactPowerOf", spec := "fnExactPowerOf", unfollowed := true, recurses := true, plainKeys := false, apart := false, narrowed := true }
def FnExactPowerOfUptoSaid : Prop := fnExactPowerOfUptoRow.holds Try.pinned (OpenSpec.upto fnExactPowerOfSpec)

/-- 'laws.FnExactPowerModulo', WHERE WHAT IT READS IS OF BULK AT MOST 1048576: true; the input reads as it did. -/
def fnExactPowerModuloUptoRow : OpenClaim := { program := "ytpeehpaghdddgaa", sum := "dfc2ce6b5f17533cd52ededa296aea324253f854eb48a4418c1e7e9165d355fe", func := "loop.example/g01245/laws.FnExactPowerModulo", spec := "fnExactPowerModulo", unfollowed := true, recurses := true, plainKeys := false, apart := false, narrowed := true }
def FnExactPowerModuloUptoSaid : Prop := fnExactPowerModuloUptoRow.holds Try.pinned (OpenSpec.upto fnExactPowerModuloSpec)

/-- 'laws.FnExactMonicPolys', WHERE WHAT IT READS IS OF BULK AT MOST 1048576: true; the input reads as it did. -/
def fnExactMonicPolysUptoRow : OpenClaim := { program := "ytpeehpaghdddgaa", sum := "dfc2ce6b5f17533cd52ededa296aea324253f854eb48a4418c1e7e9165d355fe", func := "loop.example/g01245/laws.FnExactMonicPolys", spec := "fnExactMonicPolys", plainKeys := false, apart := false, narrowed := true }
def FnExactMonicPolysUptoSaid : Prop := fnExactMonicPolysUptoRow.holds Try.pinned (OpenSpec.upto fnExactMonicPolysSpec)

/-- 'laws.FnExactPolyText', WHERE WHAT IT READS IS OF BULK AT MOST 1048576: true; the input reads as it did. -/
def fnExactPolyTextUptoRow : OpenClaim := { program := "ytpeehpaghdddgaa", sum := "dfc2ce6b5f17533cd52ededa296aea324253f854eb48a4418c1e7e9165d355fe", func := "loop.example/g01245/laws.FnExactPolyText", spec := "fnExactPolyText", plainKeys := false, apart := false, narrowed := true }
def FnExactPolyTextUptoSaid : Prop := fnExactPolyTextUptoRow.holds Try.pinned (OpenSpec.upto fnExactPolyTextSpec)

/-- 'laws.FnExactParsePoly', WHERE WHAT IT READS IS OF BULK AT MOST 1048576: true; the input reads as it did. -/
def fnExactParsePolyUptoRow : OpenClaim := { program := "ytpeehpaghdddgaa", sum := "dfc2ce6b5f17533cd52ededa296aea324253f854eb48a4418c1e7e9165d355fe", func := "loop.example/g01245/laws.FnExactParsePoly", spec := "fnExactParsePoly", plainKeys := false, apart := false, narrowed := true }
def FnExactParsePolyUptoSaid : Prop := fnExactParsePolyUptoRow.holds Try.pinned (OpenSpec.upto fnExactParsePolySpec)

/-- 'laws.FnExactIsIrreducible', WHERE WHAT IT READS IS OF BULK AT MOST 1048576: true; the input reads as it did. -/
def fnExactIsIrreducibleUptoRow : OpenClaim := { program := "ytpeehpaghdddgaa", sum := "dfc2ce6b5f17533cd52ededa296aea324253f854eb48a4418c1e7e9165d355fe", func := "loop.example/g01245/laws.FnExactIsIrreducible", spec := "fnExactIsIrreducible", unfollowed := true, recurses := true, plainKeys := false, apart := false, narrowed := true }
def FnExactIsIrreducibleUptoSaid : Prop := fnExactIsIrreducibleUptoRow.holds Try.pinned (OpenSpec.upto fnExactIsIrreducibleSpec)

/-- 'laws.FnExactIrreduciblesOf', WHERE WHAT IT READS IS OF BULK AT MOST 1048576: true; the input reads as it did. -/
def fnExactIrreduciblesOfUptoRow : OpenClaim := { program := "ytpeehpaghdddgaa", sum := "dfc2ce6b5f17533cd52ededa296aea324253f854eb48a4418c1e7e9165d355fe", func := "loop.example/g01245/laws.FnExactIrreduciblesOf", spec := "fnExactIrreduciblesOf", unfollowed := true, recurses := true, plainKeys := false, apart := false, narrowed := true }
def FnExactIrreduciblesOfUptoSaid : Prop := fnExactIrreduciblesOfUptoRow.holds Try.pinned (OpenSpec.upto fnExactIrreduciblesOfSpec)

/-- 'laws.FnExactFactorsOf', WHERE WHAT IT READS IS OF BULK AT MOST 1048576: true; the input reads as it did. -/
def fnExactFactorsOfUptoRow : OpenClaim := { program := "ytpeehpaghdddgaa", sum := "dfc2ce6b5f17533cd52ededa296aea324253f854eb48a4418c1e7e9165d355fe", func := "loop.example/g01245/laws.FnExactFactorsOf", spec := "fnExactFactorsOf", unfollowed := true, recurses := true, plainKeys := false, apart := false, narrowed := true }
def FnExactFactorsOfUptoSaid : Prop := fnExactFactorsOfUptoRow.holds Try.pinned (OpenSpec.upto fnExactFactorsOfSpec)

/-- 'laws.FnExactMoebiusOf', WHERE WHAT IT READS IS OF BULK AT MOST 1048576: true; the input reads as it did. -/
def fnExactMoebiusOfUptoRow : OpenClaim := { program := "ytpeehpaghdddgaa", sum := "dfc2ce6b5f17533cd52ededa296aea324253f854eb48a4418c1e7e9165d355fe", func := "loop.example/g01245/laws.FnExactMoebiusOf", spec := "fnExactMoebiusOf", unfollowed := true, recurses := true, plainKeys := false, apart := false, narrowed := true }
def FnExactMoebiusOfUptoSaid : Prop := fnExactMoebiusOfUptoRow.holds Try.pinned (OpenSpec.upto fnExactMoebiusOfSpec)

/-- 'laws.FnExactEulerOf', WHERE WHAT IT READS IS OF BULK AT MOST 1048576: true; the input reads as it did. -/
def fnExactEulerOfUptoRow : OpenClaim := { program := "ytpeehpaghdddgaa", sum := "dfc2ce6b5f17533cd52ededa296aea324253f854eb48a4418c1e7e9165d355fe", func := "loop.example/g01245/laws.FnExactEulerOf", spec := "fnExactEulerOf", unfollowed := true, recurses := true, plainKeys := false, apart := false, narrowed := true }
def FnExactEulerOfUptoSaid : Prop := fnExactEulerOfUptoRow.holds Try.pinned (OpenSpec.upto fnExactEulerOfSpec)

/-- 'laws.FnExactOrderModulo', WHERE WHAT IT READS IS OF BULK AT MOST 1048576: true; the input reads as it did. -/
def fnExactOrderModuloUptoRow : OpenClaim := { program := "ytpeehpaghdddgaa", sum := "dfc2ce6b5f17533cd52ededa296aea324253f854eb48a4418c1e7e9165d355fe", func := "loop.example/g01245/laws.FnExactOrderModulo", spec := "fnExactOrderModulo", unfollowed := true, recurses := true, plainKeys := false, apart := false, narrowed := true }
def FnExactOrderModuloUptoSaid : Prop := fnExactOrderModuloUptoRow.holds Try.pinned (OpenSpec.upto fnExactOrderModuloSpec)

/-- 'laws.FnExactPrimitiveOf', WHERE WHAT IT READS IS OF BULK AT MOST 1048576: true; the input reads as it did. -/
def fnExactPrimitiveOfUptoRow : OpenClaim := { program := "ytpeehpaghdddgaa", sum := "dfc2ce6b5f17533cd52ededa296aea324253f854eb48a4418c1e7e9165d355fe", func := "loop.example/g01245/laws.FnExactPrimitiveOf", spec := "fnExactPrimitiveOf", unfollowed := true, recurses := true, plainKeys := false, apart := false, narrowed := true }
def FnExactPrimitiveOfUptoSaid : Prop := fnExactPrimitiveOfUptoRow.holds Try.pinned (OpenSpec.upto fnExactPrimitiveOfSpec)

/-- 'laws.FnExactLogarithmOf', WHERE WHAT IT READS IS OF BULK AT MOST 1048576: true; the input reads as it did. -/
def fnExactLogarithmOfUptoRow : OpenClaim := { program := "ytpeehpaghdddgaa", sum := "dfc2ce6b5f17533cd52ededa296aea324253f854eb48a4418c1e7e9165d355fe", func := "loop.example/g01245/laws.FnExactLogarithmOf", spec := "fnExactLogarithmOf", plainKeys := false, apart := false, narrowed := true }
def FnExactLogarithmOfUptoSaid : Prop := fnExactLogarithmOfUptoRow.holds Try.pinned (OpenSpec.upto fnExactLogarithmOfSpec)

/-- 'laws.FnExactIsField', WHERE WHAT IT READS IS OF BULK AT MOST 1048576: true; the input reads as it did. -/
def fnExactIsFieldUptoRow : OpenClaim := { program := "ytpeehpaghdddgaa", sum := "dfc2ce6b5f17533cd52ededa296aea324253f854eb48a4418c1e7e9165d355fe", func := "loop.example/g01245/laws.FnExactIsField", spec := "fnExactIsField", unfollowed := true, recurses := true, plainKeys := false, apart := false, narrowed := true }
def FnExactIsFieldUptoSaid : Prop := fnExactIsFieldUptoRow.holds Try.pinned (OpenSpec.upto fnExactIsFieldSpec)

/-- 'laws.FnExactIsSkew', WHERE WHAT IT READS IS OF BULK AT MOST 1048576: true; the input reads as it did. -/
def fnExactIsSkewUptoRow : OpenClaim := { program := "ytpeehpaghdddgaa", sum := "dfc2ce6b5f17533cd52ededa296aea324253f854eb48a4418c1e7e9165d355fe", func := "loop.example/g01245/laws.FnExactIsSkew", spec := "fnExactIsSkew", unfollowed := true, recurses := true, plainKeys := false, apart := false, narrowed := true }
def FnExactIsSkewUptoSaid : Prop := fnExactIsSkewUptoRow.holds Try.pinned (OpenSpec.upto fnExactIsSkewSpec)

/-- 'laws.FnExactSkewDegree', WHERE WHAT IT READS IS OF BULK AT MOST 1048576: true; the input reads as it did. -/
def fnExactSkewDegreeUptoRow : OpenClaim := { program := "ytpeehpaghdddgaa", sum := "dfc2ce6b5f17533cd52ededa296aea324253f854eb48a4418c1e7e9165d355fe", func := "loop.example/g01245/laws.FnExactSkewDegree", spec := "fnExactSkewDegree", unfollowed := true, recurses := true, plainKeys := false, apart := false, narrowed := true }
def FnExactSkewDegreeUptoSaid : Prop := fnExactSkewDegreeUptoRow.holds Try.pinned (OpenSpec.upto fnExactSkewDegreeSpec)

/-- 'laws.FnExactAddSkews', WHERE WHAT IT READS IS OF BULK AT MOST 1048576: true; the input reads as it did. -/
def fnExactAddSkewsUptoRow : OpenClaim := { program := "ytpeehpaghdddgaa", sum := "dfc2ce6b5f17533cd52ededa296aea324253f854eb48a4418c1e7e9165d355fe", func := "loop.example/g01245/laws.FnExactAddSkews", spec := "fnExactAddSkews", unfollowed := true, recurses := true, plainKeys := false, apart := false, narrowed := true }
def FnExactAddSkewsUptoSaid : Prop := fnExactAddSkewsUptoRow.holds Try.pinned (OpenSpec.upto fnExactAddSkewsSpec)

/-- 'laws.FnExactMultiplySkews', WHERE WHAT IT READS IS OF BULK AT MOST 1048576: true; the input reads as it did. -/
def fnExactMultiplySkewsUptoRow : OpenClaim := { program := "ytpeehpaghdddgaa", sum := "dfc2ce6b5f17533cd52ededa296aea324253f854eb48a4418c1e7e9165d355fe", func := "loop.example/g01245/laws.FnExactMultiplySkews", spec := "fnExactMultiplySkews", unfollowed := true, recurses := true, plainKeys := false, apart := false, narrowed := true }
def FnExactMultiplySkewsUptoSaid : Prop := fnExactMultiplySkewsUptoRow.holds Try.pinned (OpenSpec.upto fnExactMultiplySkewsSpec)

/-- 'laws.FnExactValueOfSkew', WHERE WHAT IT READS IS OF BULK AT MOST 1048576: true; the input reads as it did. -/
def fnExactValueOfSkewUptoRow : OpenClaim := { program := "ytpeehpaghdddgaa", sum := "dfc2ce6b5f17533cd52ededa296aea324253f854eb48a4418c1e7e9165d355fe", func := "loop.example/g01245/laws.FnExactValueOfSkew", spec := "fnExactValueOfSkew", unfollowed := true, recurses := true, plainKeys := false, apart := false, narrowed := true }
def FnExactValueOfSkewUptoSaid : Prop := fnExactValueOfSkewUptoRow.holds Try.pinned (OpenSpec.upto fnExactValueOfSkewSpec)

end Rows
end Go.Proofs.Ytpeehpaghdddgaa
