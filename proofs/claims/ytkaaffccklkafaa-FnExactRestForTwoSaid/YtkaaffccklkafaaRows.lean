/-
  No cell of these rows narrows 'for every input' (looked for: loops, veiled, ifaces, maps, wideKeys, modest, calm, conditions, laid).
  DERIVED. THE GIVEN ROWS OF THIS SEAT. 28 by the template 'for every input the law returns true; each argument reads behind the call as it read before'; 0 by the template 'total and deterministic' (their statements: YtkaaffccklkafaaTotals.lean).
  GIVEN WITH THE SEED: the statements are not yours to turn. If you find one false, say at which input.
  Laid BY PROGRAM, IN A SANDBOX (cutbox-rows.mjs): the forced cells as the released guide's own fill.sh prints them over the translation badc483b6fc20b43… (all of the seat's roots in one cut). By AI agents, Wed Nov 11 2026. No macro, syntax, notation, axiom, sorry.
-/
import Derived.Test.YtkaaffccklkafaaChecked
import GoSem.Claim
import GoSem.ClaimJoined
import GoSem.ClaimMapViews
import Derived.JoinedTies
import Derived.KernelRfl
namespace Go.Proofs.Ytkaaffccklkafaa
/- THE CELL 'sum', in the pinned program and in every row, IS THE sha256 OF THE DUMP (.gsa) THAT YtkaaffccklkafaaProg.lean LOADS. Nothing in Lean hashes anything: it is a label: what it is worth is what the hold of that sum in a sandbox is worth. -/
noncomputable def Try.pinned : Pinned := { name := "ytkaaffccklkafaa", sum := "badc483b6fc20b43449ac76f67463dbef2eeaf341f0988bcef2d8cf49b137323", checked := Try.checked }
namespace Rows
def none {H : Type} : Left H := { results := [], args := [] }

/-- 'laws.FnPolys': WHATEVER THE INPUT: true; the input reads as it did. -/
def fnPolysSpec : ChangeSpec := { name := "fnPolys", fn := fun _ => fun
  | [d] => { results := [.lit (.bool true)], args := [d] }
  | _ => none }
def fnPolysRow : OpenClaim := { program := "ytkaaffccklkafaa", sum := "badc483b6fc20b43449ac76f67463dbef2eeaf341f0988bcef2d8cf49b137323", func := "loop.example/g01245/laws.FnPolys", spec := "fnPolys", plainKeys := false, apart := false }
def FnPolysSaid : Prop := fnPolysRow.holds Try.pinned (OpenSpec.ofChange fnPolysSpec)

/-- ITS FALSE NEIGHBOUR: 'it returns false'. Refute it at one input. -/
def fnPolysWrong : ChangeSpec := { name := "fnPolys", fn := fun _ => fun
  | [d] => { results := [.lit (.bool false)], args := [d] }
  | _ => none }
def FnPolysWrongFalsely : Prop := fnPolysRow.holds Try.pinned (OpenSpec.ofChange fnPolysWrong)

/-- 'laws.FnDivisors': WHATEVER THE INPUT: true; the input reads as it did. -/
def fnDivisorsSpec : ChangeSpec := { name := "fnDivisors", fn := fun _ => fun
  | [d] => { results := [.lit (.bool true)], args := [d] }
  | _ => none }
def fnDivisorsRow : OpenClaim := { program := "ytkaaffccklkafaa", sum := "badc483b6fc20b43449ac76f67463dbef2eeaf341f0988bcef2d8cf49b137323", func := "loop.example/g01245/laws.FnDivisors", spec := "fnDivisors", plainKeys := false, apart := false }
def FnDivisorsSaid : Prop := fnDivisorsRow.holds Try.pinned (OpenSpec.ofChange fnDivisorsSpec)

/-- ITS FALSE NEIGHBOUR: 'it returns false'. Refute it at one input. -/
def fnDivisorsWrong : ChangeSpec := { name := "fnDivisors", fn := fun _ => fun
  | [d] => { results := [.lit (.bool false)], args := [d] }
  | _ => none }
def FnDivisorsWrongFalsely : Prop := fnDivisorsRow.holds Try.pinned (OpenSpec.ofChange fnDivisorsWrong)

/-- 'laws.FnPowers': WHATEVER THE INPUT: true; the input reads as it did. -/
def fnPowersSpec : ChangeSpec := { name := "fnPowers", fn := fun _ => fun
  | [d] => { results := [.lit (.bool true)], args := [d] }
  | _ => none }
def fnPowersRow : OpenClaim := { program := "ytkaaffccklkafaa", sum := "badc483b6fc20b43449ac76f67463dbef2eeaf341f0988bcef2d8cf49b137323", func := "loop.example/g01245/laws.FnPowers", spec := "fnPowers", unfollowed := true, recurses := true, plainKeys := false, apart := false }
def FnPowersSaid : Prop := fnPowersRow.holds Try.pinned (OpenSpec.ofChange fnPowersSpec)

/-- ITS FALSE NEIGHBOUR: 'it returns false'. Refute it at one input. -/
def fnPowersWrong : ChangeSpec := { name := "fnPowers", fn := fun _ => fun
  | [d] => { results := [.lit (.bool false)], args := [d] }
  | _ => none }
def FnPowersWrongFalsely : Prop := fnPowersRow.holds Try.pinned (OpenSpec.ofChange fnPowersWrong)

/-- 'laws.FnIrreducibles': WHATEVER THE INPUT: true; the input reads as it did. -/
def fnIrreduciblesSpec : ChangeSpec := { name := "fnIrreducibles", fn := fun _ => fun
  | [d] => { results := [.lit (.bool true)], args := [d] }
  | _ => none }
def fnIrreduciblesRow : OpenClaim := { program := "ytkaaffccklkafaa", sum := "badc483b6fc20b43449ac76f67463dbef2eeaf341f0988bcef2d8cf49b137323", func := "loop.example/g01245/laws.FnIrreducibles", spec := "fnIrreducibles", unfollowed := true, recurses := true, plainKeys := false, apart := false }
def FnIrreduciblesSaid : Prop := fnIrreduciblesRow.holds Try.pinned (OpenSpec.ofChange fnIrreduciblesSpec)

/-- ITS FALSE NEIGHBOUR: 'it returns false'. Refute it at one input. -/
def fnIrreduciblesWrong : ChangeSpec := { name := "fnIrreducibles", fn := fun _ => fun
  | [d] => { results := [.lit (.bool false)], args := [d] }
  | _ => none }
def FnIrreduciblesWrongFalsely : Prop := fnIrreduciblesRow.holds Try.pinned (OpenSpec.ofChange fnIrreduciblesWrong)

/-- 'laws.FnResidues': WHATEVER THE INPUT: true; the input reads as it did. -/
def fnResiduesSpec : ChangeSpec := { name := "fnResidues", fn := fun _ => fun
  | [d] => { results := [.lit (.bool true)], args := [d] }
  | _ => none }
def fnResiduesRow : OpenClaim := { program := "ytkaaffccklkafaa", sum := "badc483b6fc20b43449ac76f67463dbef2eeaf341f0988bcef2d8cf49b137323", func := "loop.example/g01245/laws.FnResidues", spec := "fnResidues", unfollowed := true, recurses := true, plainKeys := false, apart := false }
def FnResiduesSaid : Prop := fnResiduesRow.holds Try.pinned (OpenSpec.ofChange fnResiduesSpec)

/-- ITS FALSE NEIGHBOUR: 'it returns false'. Refute it at one input. -/
def fnResiduesWrong : ChangeSpec := { name := "fnResidues", fn := fun _ => fun
  | [d] => { results := [.lit (.bool false)], args := [d] }
  | _ => none }
def FnResiduesWrongFalsely : Prop := fnResiduesRow.holds Try.pinned (OpenSpec.ofChange fnResiduesWrong)

/-- 'laws.FnSymbols': WHATEVER THE INPUT: true; the input reads as it did. -/
def fnSymbolsSpec : ChangeSpec := { name := "fnSymbols", fn := fun _ => fun
  | [d] => { results := [.lit (.bool true)], args := [d] }
  | _ => none }
def fnSymbolsRow : OpenClaim := { program := "ytkaaffccklkafaa", sum := "badc483b6fc20b43449ac76f67463dbef2eeaf341f0988bcef2d8cf49b137323", func := "loop.example/g01245/laws.FnSymbols", spec := "fnSymbols", plainKeys := false, apart := false }
def FnSymbolsSaid : Prop := fnSymbolsRow.holds Try.pinned (OpenSpec.ofChange fnSymbolsSpec)

/-- ITS FALSE NEIGHBOUR: 'it returns false'. Refute it at one input. -/
def fnSymbolsWrong : ChangeSpec := { name := "fnSymbols", fn := fun _ => fun
  | [d] => { results := [.lit (.bool false)], args := [d] }
  | _ => none }
def FnSymbolsWrongFalsely : Prop := fnSymbolsRow.holds Try.pinned (OpenSpec.ofChange fnSymbolsWrong)

/-- 'laws.FnExactDividePolys': WHATEVER THE INPUT: true; the input reads as it did. -/
def fnExactDividePolysSpec : ChangeSpec := { name := "fnExactDividePolys", fn := fun _ => fun
  | [d1, d2, d3] => { results := [.lit (.bool true)], args := [d1, d2, d3] }
  | _ => none }
def fnExactDividePolysRow : OpenClaim := { program := "ytkaaffccklkafaa", sum := "badc483b6fc20b43449ac76f67463dbef2eeaf341f0988bcef2d8cf49b137323", func := "loop.example/g01245/laws.FnExactDividePolys", spec := "fnExactDividePolys", plainKeys := false, apart := false }
def FnExactDividePolysSaid : Prop := fnExactDividePolysRow.holds Try.pinned (OpenSpec.ofChange fnExactDividePolysSpec)

/-- ITS FALSE NEIGHBOUR: 'it returns false'. Refute it at one input. -/
def fnExactDividePolysWrong : ChangeSpec := { name := "fnExactDividePolys", fn := fun _ => fun
  | [d1, d2, d3] => { results := [.lit (.bool false)], args := [d1, d2, d3] }
  | _ => none }
def FnExactDividePolysWrongFalsely : Prop := fnExactDividePolysRow.holds Try.pinned (OpenSpec.ofChange fnExactDividePolysWrong)

/-- 'laws.FnExactGcdOf': WHATEVER THE INPUT: true; the input reads as it did. -/
def fnExactGcdOfSpec : ChangeSpec := { name := "fnExactGcdOf", fn := fun _ => fun
  | [d1, d2, d3] => { results := [.lit (.bool true)], args := [d1, d2, d3] }
  | _ => none }
def fnExactGcdOfRow : OpenClaim := { program := "ytkaaffccklkafaa", sum := "badc483b6fc20b43449ac76f67463dbef2eeaf341f0988bcef2d8cf49b137323", func := "loop.example/g01245/laws.FnExactGcdOf", spec := "fnExactGcdOf", plainKeys := false, apart := false }
def FnExactGcdOfSaid : Prop := fnExactGcdOfRow.holds Try.pinned (OpenSpec.ofChange fnExactGcdOfSpec)

/-- ITS FALSE NEIGHBOUR: 'it returns false'. Refute it at one input. -/
def fnExactGcdOfWrong : ChangeSpec := { name := "fnExactGcdOf", fn := fun _ => fun
  | [d1, d2, d3] => { results := [.lit (.bool false)], args := [d1, d2, d3] }
  | _ => none }
def FnExactGcdOfWrongFalsely : Prop := fnExactGcdOfRow.holds Try.pinned (OpenSpec.ofChange fnExactGcdOfWrong)

/-- 'laws.FnExactBezoutOf': WHATEVER THE INPUT: true; the input reads as it did. -/
def fnExactBezoutOfSpec : ChangeSpec := { name := "fnExactBezoutOf", fn := fun _ => fun
  | [d1, d2, d3] => { results := [.lit (.bool true)], args := [d1, d2, d3] }
  | _ => none }
def fnExactBezoutOfRow : OpenClaim := { program := "ytkaaffccklkafaa", sum := "badc483b6fc20b43449ac76f67463dbef2eeaf341f0988bcef2d8cf49b137323", func := "loop.example/g01245/laws.FnExactBezoutOf", spec := "fnExactBezoutOf", plainKeys := false, apart := false }
def FnExactBezoutOfSaid : Prop := fnExactBezoutOfRow.holds Try.pinned (OpenSpec.ofChange fnExactBezoutOfSpec)

/-- ITS FALSE NEIGHBOUR: 'it returns false'. Refute it at one input. -/
def fnExactBezoutOfWrong : ChangeSpec := { name := "fnExactBezoutOf", fn := fun _ => fun
  | [d1, d2, d3] => { results := [.lit (.bool false)], args := [d1, d2, d3] }
  | _ => none }
def FnExactBezoutOfWrongFalsely : Prop := fnExactBezoutOfRow.holds Try.pinned (OpenSpec.ofChange fnExactBezoutOfWrong)

/-- 'laws.FnExactRootsOf': WHATEVER THE INPUT: true; the input reads as it did. -/
def fnExactRootsOfSpec : ChangeSpec := { name := "fnExactRootsOf", fn := fun _ => fun
  | [d1, d2] => { results := [.lit (.bool true)], args := [d1, d2] }
  | _ => none }
def fnExactRootsOfRow : OpenClaim := { program := "ytkaaffccklkafaa", sum := "badc483b6fc20b43449ac76f67463dbef2eeaf341f0988bcef2d8cf49b137323", func := "loop.example/g01245/laws.FnExactRootsOf", spec := "fnExactRootsOf", plainKeys := false, apart := false }
def FnExactRootsOfSaid : Prop := fnExactRootsOfRow.holds Try.pinned (OpenSpec.ofChange fnExactRootsOfSpec)

/-- ITS FALSE NEIGHBOUR: 'it returns false'. Refute it at one input. -/
def fnExactRootsOfWrong : ChangeSpec := { name := "fnExactRootsOf", fn := fun _ => fun
  | [d1, d2] => { results := [.lit (.bool false)], args := [d1, d2] }
  | _ => none }
def FnExactRootsOfWrongFalsely : Prop := fnExactRootsOfRow.holds Try.pinned (OpenSpec.ofChange fnExactRootsOfWrong)

/-- 'laws.FnExactPowerOf': WHATEVER THE INPUT: true; the input reads as it did. -/
def fnExactPowerOfSpec : ChangeSpec := { name := "fnExactPowerOf", fn := fun _ => fun
  | [d1, d2, d3] => { results := [.lit (.bool true)], args := [d1, d2, d3] }
  | _ => none }
def fnExactPowerOfRow : OpenClaim := { program := "ytkaaffccklkafaa", sum := "badc483b6fc20b43449ac76f67463dbef2eeaf341f0988bcef2d8cf49b137323", func := "loop.example/g01245/laws.FnExactPowerOf", spec := "fnExactPowerOf", unfollowed := true, recurses := true, plainKeys := false, apart := false }
def FnExactPowerOfSaid : Prop := fnExactPowerOfRow.holds Try.pinned (OpenSpec.ofChange fnExactPowerOfSpec)

/-- ITS FALSE NEIGHBOUR: 'it returns false'. Refute it at one input. -/
def fnExactPowerOfWrong : ChangeSpec := { name := "fnExactPowerOf", fn := fun _ => fun
  | [d1, d2, d3] => { results := [.lit (.bool false)], args := [d1, d2, d3] }
  | _ => none }
def FnExactPowerOfWrongFalsely : Prop := fnExactPowerOfRow.holds Try.pinned (OpenSpec.ofChange fnExactPowerOfWrong)

/-- 'laws.FnExactPowerModulo': WHATEVER THE INPUT: true; the input reads as it did. -/
def fnExactPowerModuloSpec : ChangeSpec := { name := "fnExactPowerModulo", fn := fun _ => fun
  | [d1, d2, d3, d4] => { results := [.lit (.bool true)], args := [d1, d2, d3, d4] }
  | _ => none }
def fnExactPowerModuloRow : OpenClaim := { program := "ytkaaffccklkafaa", sum := "badc483b6fc20b43449ac76f67463dbef2eeaf341f0988bcef2d8cf49b137323", func := "loop.example/g01245/laws.FnExactPowerModulo", spec := "fnExactPowerModulo", unfollowed := true, recurses := true, plainKeys := false, apart := false }
def FnExactPowerModuloSaid : Prop := fnExactPowerModuloRow.holds Try.pinned (OpenSpec.ofChange fnExactPowerModuloSpec)

/-- ITS FALSE NEIGHBOUR: 'it returns false'. Refute it at one input. -/
def fnExactPowerModuloWrong : ChangeSpec := { name := "fnExactPowerModulo", fn := fun _ => fun
  | [d1, d2, d3, d4] => { results := [.lit (.bool false)], args := [d1, d2, d3, d4] }
  | _ => none }
def FnExactPowerModuloWrongFalsely : Prop := fnExactPowerModuloRow.holds Try.pinned (OpenSpec.ofChange fnExactPowerModuloWrong)

/-- 'laws.FnExactComposePolys': WHATEVER THE INPUT: true; the input reads as it did. -/
def fnExactComposePolysSpec : ChangeSpec := { name := "fnExactComposePolys", fn := fun _ => fun
  | [d1, d2, d3] => { results := [.lit (.bool true)], args := [d1, d2, d3] }
  | _ => none }
def fnExactComposePolysRow : OpenClaim := { program := "ytkaaffccklkafaa", sum := "badc483b6fc20b43449ac76f67463dbef2eeaf341f0988bcef2d8cf49b137323", func := "loop.example/g01245/laws.FnExactComposePolys", spec := "fnExactComposePolys", plainKeys := false, apart := false }
def FnExactComposePolysSaid : Prop := fnExactComposePolysRow.holds Try.pinned (OpenSpec.ofChange fnExactComposePolysSpec)

/-- ITS FALSE NEIGHBOUR: 'it returns false'. Refute it at one input. -/
def fnExactComposePolysWrong : ChangeSpec := { name := "fnExactComposePolys", fn := fun _ => fun
  | [d1, d2, d3] => { results := [.lit (.bool false)], args := [d1, d2, d3] }
  | _ => none }
def FnExactComposePolysWrongFalsely : Prop := fnExactComposePolysRow.holds Try.pinned (OpenSpec.ofChange fnExactComposePolysWrong)

/-- 'laws.FnExactMonicPolys': WHATEVER THE INPUT: true; the input reads as it did. -/
def fnExactMonicPolysSpec : ChangeSpec := { name := "fnExactMonicPolys", fn := fun _ => fun
  | [d1, d2] => { results := [.lit (.bool true)], args := [d1, d2] }
  | _ => none }
def fnExactMonicPolysRow : OpenClaim := { program := "ytkaaffccklkafaa", sum := "badc483b6fc20b43449ac76f67463dbef2eeaf341f0988bcef2d8cf49b137323", func := "loop.example/g01245/laws.FnExactMonicPolys", spec := "fnExactMonicPolys", plainKeys := false, apart := false }
def FnExactMonicPolysSaid : Prop := fnExactMonicPolysRow.holds Try.pinned (OpenSpec.ofChange fnExactMonicPolysSpec)

/-- ITS FALSE NEIGHBOUR: 'it returns false'. Refute it at one input. -/
def fnExactMonicPolysWrong : ChangeSpec := { name := "fnExactMonicPolys", fn := fun _ => fun
  | [d1, d2] => { results := [.lit (.bool false)], args := [d1, d2] }
  | _ => none }
def FnExactMonicPolysWrongFalsely : Prop := fnExactMonicPolysRow.holds Try.pinned (OpenSpec.ofChange fnExactMonicPolysWrong)

/-- 'laws.FnExactPolyText': WHATEVER THE INPUT: true; the input reads as it did. -/
def fnExactPolyTextSpec : ChangeSpec := { name := "fnExactPolyText", fn := fun _ => fun
  | [d1, d2] => { results := [.lit (.bool true)], args := [d1, d2] }
  | _ => none }
def fnExactPolyTextRow : OpenClaim := { program := "ytkaaffccklkafaa", sum := "badc483b6fc20b43449ac76f67463dbef2eeaf341f0988bcef2d8cf49b137323", func := "loop.example/g01245/laws.FnExactPolyText", spec := "fnExactPolyText", plainKeys := false, apart := false }
def FnExactPolyTextSaid : Prop := fnExactPolyTextRow.holds Try.pinned (OpenSpec.ofChange fnExactPolyTextSpec)

/-- ITS FALSE NEIGHBOUR: 'it returns false'. Refute it at one input. -/
def fnExactPolyTextWrong : ChangeSpec := { name := "fnExactPolyText", fn := fun _ => fun
  | [d1, d2] => { results := [.lit (.bool false)], args := [d1, d2] }
  | _ => none }
def FnExactPolyTextWrongFalsely : Prop := fnExactPolyTextRow.holds Try.pinned (OpenSpec.ofChange fnExactPolyTextWrong)

/-- 'laws.FnExactParsePoly': WHATEVER THE INPUT: true; the input reads as it did. -/
def fnExactParsePolySpec : ChangeSpec := { name := "fnExactParsePoly", fn := fun _ => fun
  | [d1, d2] => { results := [.lit (.bool true)], args := [d1, d2] }
  | _ => none }
def fnExactParsePolyRow : OpenClaim := { program := "ytkaaffccklkafaa", sum := "badc483b6fc20b43449ac76f67463dbef2eeaf341f0988bcef2d8cf49b137323", func := "loop.example/g01245/laws.FnExactParsePoly", spec := "fnExactParsePoly", plainKeys := false, apart := false }
def FnExactParsePolySaid : Prop := fnExactParsePolyRow.holds Try.pinned (OpenSpec.ofChange fnExactParsePolySpec)

/-- ITS FALSE NEIGHBOUR: 'it returns false'. Refute it at one input. -/
def fnExactParsePolyWrong : ChangeSpec := { name := "fnExactParsePoly", fn := fun _ => fun
  | [d1, d2] => { results := [.lit (.bool false)], args := [d1, d2] }
  | _ => none }
def FnExactParsePolyWrongFalsely : Prop := fnExactParsePolyRow.holds Try.pinned (OpenSpec.ofChange fnExactParsePolyWrong)

/-- 'laws.FnExactIsIrreducible': WHATEVER THE INPUT: true; the input reads as it did. -/
def fnExactIsIrreducibleSpec : ChangeSpec := { name := "fnExactIsIrreducible", fn := fun _ => fun
  | [d1, d2] => { results := [.lit (.bool true)], args := [d1, d2] }
  | _ => none }
def fnExactIsIrreducibleRow : OpenClaim := { program := "ytkaaffccklkafaa", sum := "badc483b6fc20b43449ac76f67463dbef2eeaf341f0988bcef2d8cf49b137323", func := "loop.example/g01245/laws.FnExactIsIrreducible", spec := "fnExactIsIrreducible", unfollowed := true, recurses := true, plainKeys := false, apart := false }
def FnExactIsIrreducibleSaid : Prop := fnExactIsIrreducibleRow.holds Try.pinned (OpenSpec.ofChange fnExactIsIrreducibleSpec)

/-- ITS FALSE NEIGHBOUR: 'it returns false'. Refute it at one input. -/
def fnExactIsIrreducibleWrong : ChangeSpec := { name := "fnExactIsIrreducible", fn := fun _ => fun
  | [d1, d2] => { results := [.lit (.bool false)], args := [d1, d2] }
  | _ => none }
def FnExactIsIrreducibleWrongFalsely : Prop := fnExactIsIrreducibleRow.holds Try.pinned (OpenSpec.ofChange fnExactIsIrreducibleWrong)

/-- 'laws.FnExactIrreduciblesOf': WHATEVER THE INPUT: true; the input reads as it did. -/
def fnExactIrreduciblesOfSpec : ChangeSpec := { name := "fnExactIrreduciblesOf", fn := fun _ => fun
  | [d1, d2] => { results := [.lit (.bool true)], args := [d1, d2] }
  | _ => none }
def fnExactIrreduciblesOfRow : OpenClaim := { program := "ytkaaffccklkafaa", sum := "badc483b6fc20b43449ac76f67463dbef2eeaf341f0988bcef2d8cf49b137323", func := "loop.example/g01245/laws.FnExactIrreduciblesOf", spec := "fnExactIrreduciblesOf", unfollowed := true, recurses := true, plainKeys := false, apart := false }
def FnExactIrreduciblesOfSaid : Prop := fnExactIrreduciblesOfRow.holds Try.pinned (OpenSpec.ofChange fnExactIrreduciblesOfSpec)

/-- ITS FALSE NEIGHBOUR: 'it returns false'. Refute it at one input. -/
def fnExactIrreduciblesOfWrong : ChangeSpec := { name := "fnExactIrreduciblesOf", fn := fun _ => fun
  | [d1, d2] => { results := [.lit (.bool false)], args := [d1, d2] }
  | _ => none }
def FnExactIrreduciblesOfWrongFalsely : Prop := fnExactIrreduciblesOfRow.holds Try.pinned (OpenSpec.ofChange fnExactIrreduciblesOfWrong)

/-- 'laws.FnExactCountIrreducibles': WHATEVER THE INPUT: true; the input reads as it did. -/
def fnExactCountIrreduciblesSpec : ChangeSpec := { name := "fnExactCountIrreducibles", fn := fun _ => fun
  | [d1, d2] => { results := [.lit (.bool true)], args := [d1, d2] }
  | _ => none }
def fnExactCountIrreduciblesRow : OpenClaim := { program := "ytkaaffccklkafaa", sum := "badc483b6fc20b43449ac76f67463dbef2eeaf341f0988bcef2d8cf49b137323", func := "loop.example/g01245/laws.FnExactCountIrreducibles", spec := "fnExactCountIrreducibles", recurses := true, plainKeys := false, apart := false }
def FnExactCountIrreduciblesSaid : Prop := fnExactCountIrreduciblesRow.holds Try.pinned (OpenSpec.ofChange fnExactCountIrreduciblesSpec)

/-- ITS FALSE NEIGHBOUR: 'it returns false'. Refute it at one input. -/
def fnExactCountIrreduciblesWrong : ChangeSpec := { name := "fnExactCountIrreducibles", fn := fun _ => fun
  | [d1, d2] => { results := [.lit (.bool false)], args := [d1, d2] }
  | _ => none }
def FnExactCountIrreduciblesWrongFalsely : Prop := fnExactCountIrreduciblesRow.holds Try.pinned (OpenSpec.ofChange fnExactCountIrreduciblesWrong)

/-- 'laws.FnExactFactorsOf': WHATEVER THE INPUT: true; the input reads as it did. -/
def fnExactFactorsOfSpec : ChangeSpec := { name := "fnExactFactorsOf", fn := fun _ => fun
  | [d1, d2] => { results := [.lit (.bool true)], args := [d1, d2] }
  | _ => none }
def fnExactFactorsOfRow : OpenClaim := { program := "ytkaaffccklkafaa", sum := "badc483b6fc20b43449ac76f67463dbef2eeaf341f0988bcef2d8cf49b137323", func := "loop.example/g01245/laws.FnExactFactorsOf", spec := "fnExactFactorsOf", unfollowed := true, recurses := true, plainKeys := false, apart := false }
def FnExactFactorsOfSaid : Prop := fnExactFactorsOfRow.holds Try.pinned (OpenSpec.ofChange fnExactFactorsOfSpec)

/-- ITS FALSE NEIGHBOUR: 'it returns false'. Refute it at one input. -/
def fnExactFactorsOfWrong : ChangeSpec := { name := "fnExactFactorsOf", fn := fun _ => fun
  | [d1, d2] => { results := [.lit (.bool false)], args := [d1, d2] }
  | _ => none }
def FnExactFactorsOfWrongFalsely : Prop := fnExactFactorsOfRow.holds Try.pinned (OpenSpec.ofChange fnExactFactorsOfWrong)

/-- 'laws.FnExactMoebiusOf': WHATEVER THE INPUT: true; the input reads as it did. -/
def fnExactMoebiusOfSpec : ChangeSpec := { name := "fnExactMoebiusOf", fn := fun _ => fun
  | [d1, d2] => { results := [.lit (.bool true)], args := [d1, d2] }
  | _ => none }
def fnExactMoebiusOfRow : OpenClaim := { program := "ytkaaffccklkafaa", sum := "badc483b6fc20b43449ac76f67463dbef2eeaf341f0988bcef2d8cf49b137323", func := "loop.example/g01245/laws.FnExactMoebiusOf", spec := "fnExactMoebiusOf", unfollowed := true, recurses := true, plainKeys := false, apart := false }
def FnExactMoebiusOfSaid : Prop := fnExactMoebiusOfRow.holds Try.pinned (OpenSpec.ofChange fnExactMoebiusOfSpec)

/-- ITS FALSE NEIGHBOUR: 'it returns false'. Refute it at one input. -/
def fnExactMoebiusOfWrong : ChangeSpec := { name := "fnExactMoebiusOf", fn := fun _ => fun
  | [d1, d2] => { results := [.lit (.bool false)], args := [d1, d2] }
  | _ => none }
def FnExactMoebiusOfWrongFalsely : Prop := fnExactMoebiusOfRow.holds Try.pinned (OpenSpec.ofChange fnExactMoebiusOfWrong)

/-- 'laws.FnExactEulerOf': WHATEVER THE INPUT: true; the input reads as it did. -/
def fnExactEulerOfSpec : ChangeSpec := { name := "fnExactEulerOf", fn := fun _ => fun
  | [d1, d2] => { results := [.lit (.bool true)], args := [d1, d2] }
  | _ => none }
def fnExactEulerOfRow : OpenClaim := { program := "ytkaaffccklkafaa", sum := "badc483b6fc20b43449ac76f67463dbef2eeaf341f0988bcef2d8cf49b137323", func := "loop.example/g01245/laws.FnExactEulerOf", spec := "fnExactEulerOf", unfollowed := true, recurses := true, plainKeys := false, apart := false }
def FnExactEulerOfSaid : Prop := fnExactEulerOfRow.holds Try.pinned (OpenSpec.ofChange fnExactEulerOfSpec)

/-- ITS FALSE NEIGHBOUR: 'it returns false'. Refute it at one input. -/
def fnExactEulerOfWrong : ChangeSpec := { name := "fnExactEulerOf", fn := fun _ => fun
  | [d1, d2] => { results := [.lit (.bool false)], args := [d1, d2] }
  | _ => none }
def FnExactEulerOfWrongFalsely : Prop := fnExactEulerOfRow.holds Try.pinned (OpenSpec.ofChange fnExactEulerOfWrong)

/-- 'laws.FnExactInverseModulo': WHATEVER THE INPUT: true; the input reads as it did. -/
def fnExactInverseModuloSpec : ChangeSpec := { name := "fnExactInverseModulo", fn := fun _ => fun
  | [d1, d2, d3] => { results := [.lit (.bool true)], args := [d1, d2, d3] }
  | _ => none }
def fnExactInverseModuloRow : OpenClaim := { program := "ytkaaffccklkafaa", sum := "badc483b6fc20b43449ac76f67463dbef2eeaf341f0988bcef2d8cf49b137323", func := "loop.example/g01245/laws.FnExactInverseModulo", spec := "fnExactInverseModulo", plainKeys := false, apart := false }
def FnExactInverseModuloSaid : Prop := fnExactInverseModuloRow.holds Try.pinned (OpenSpec.ofChange fnExactInverseModuloSpec)

/-- ITS FALSE NEIGHBOUR: 'it returns false'. Refute it at one input. -/
def fnExactInverseModuloWrong : ChangeSpec := { name := "fnExactInverseModulo", fn := fun _ => fun
  | [d1, d2, d3] => { results := [.lit (.bool false)], args := [d1, d2, d3] }
  | _ => none }
def FnExactInverseModuloWrongFalsely : Prop := fnExactInverseModuloRow.holds Try.pinned (OpenSpec.ofChange fnExactInverseModuloWrong)

/-- 'laws.FnExactOrderModulo': WHATEVER THE INPUT: true; the input reads as it did. -/
def fnExactOrderModuloSpec : ChangeSpec := { name := "fnExactOrderModulo", fn := fun _ => fun
  | [d1, d2, d3] => { results := [.lit (.bool true)], args := [d1, d2, d3] }
  | _ => none }
def fnExactOrderModuloRow : OpenClaim := { program := "ytkaaffccklkafaa", sum := "badc483b6fc20b43449ac76f67463dbef2eeaf341f0988bcef2d8cf49b137323", func := "loop.example/g01245/laws.FnExactOrderModulo", spec := "fnExactOrderModulo", unfollowed := true, recurses := true, plainKeys := false, apart := false }
def FnExactOrderModuloSaid : Prop := fnExactOrderModuloRow.holds Try.pinned (OpenSpec.ofChange fnExactOrderModuloSpec)

/-- ITS FALSE NEIGHBOUR: 'it returns false'. Refute it at one input. -/
def fnExactOrderModuloWrong : ChangeSpec := { name := "fnExactOrderModulo", fn := fun _ => fun
  | [d1, d2, d3] => { results := [.lit (.bool false)], args := [d1, d2, d3] }
  | _ => none }
def FnExactOrderModuloWrongFalsely : Prop := fnExactOrderModuloRow.holds Try.pinned (OpenSpec.ofChange fnExactOrderModuloWrong)

/-- 'laws.FnExactPrimitiveOf': WHATEVER THE INPUT: true; the input reads as it did. -/
def fnExactPrimitiveOfSpec : ChangeSpec := { name := "fnExactPrimitiveOf", fn := fun _ => fun
  | [d1, d2] => { results := [.lit (.bool true)], args := [d1, d2] }
  | _ => none }
def fnExactPrimitiveOfRow : OpenClaim := { program := "ytkaaffccklkafaa", sum := "badc483b6fc20b43449ac76f67463dbef2eeaf341f0988bcef2d8cf49b137323", func := "loop.example/g01245/laws.FnExactPrimitiveOf", spec := "fnExactPrimitiveOf", unfollowed := true, recurses := true, plainKeys := false, apart := false }
def FnExactPrimitiveOfSaid : Prop := fnExactPrimitiveOfRow.holds Try.pinned (OpenSpec.ofChange fnExactPrimitiveOfSpec)

/-- ITS FALSE NEIGHBOUR: 'it returns false'. Refute it at one input. -/
def fnExactPrimitiveOfWrong : ChangeSpec := { name := "fnExactPrimitiveOf", fn := fun _ => fun
  | [d1, d2] => { results := [.lit (.bool false)], args := [d1, d2] }
  | _ => none }
def FnExactPrimitiveOfWrongFalsely : Prop := fnExactPrimitiveOfRow.holds Try.pinned (OpenSpec.ofChange fnExactPrimitiveOfWrong)

/-- 'laws.FnExactLogarithmOf': WHATEVER THE INPUT: true; the input reads as it did. -/
def fnExactLogarithmOfSpec : ChangeSpec := { name := "fnExactLogarithmOf", fn := fun _ => fun
  | [d1, d2, d3, d4] => { results := [.lit (.bool true)], args := [d1, d2, d3, d4] }
  | _ => none }
def fnExactLogarithmOfRow : OpenClaim := { program := "ytkaaffccklkafaa", sum := "badc483b6fc20b43449ac76f67463dbef2eeaf341f0988bcef2d8cf49b137323", func := "loop.example/g01245/laws.FnExactLogarithmOf", spec := "fnExactLogarithmOf", plainKeys := false, apart := false }
def FnExactLogarithmOfSaid : Prop := fnExactLogarithmOfRow.holds Try.pinned (OpenSpec.ofChange fnExactLogarithmOfSpec)

/-- ITS FALSE NEIGHBOUR: 'it returns false'. Refute it at one input. -/
def fnExactLogarithmOfWrong : ChangeSpec := { name := "fnExactLogarithmOf", fn := fun _ => fun
  | [d1, d2, d3, d4] => { results := [.lit (.bool false)], args := [d1, d2, d3, d4] }
  | _ => none }
def FnExactLogarithmOfWrongFalsely : Prop := fnExactLogarithmOfRow.holds Try.pinned (OpenSpec.ofChange fnExactLogarithmOfWrong)

/-- 'laws.FnExactSymbolOf': WHATEVER THE INPUT: true; the input reads as it did. -/
def fnExactSymbolOfSpec : ChangeSpec := { name := "fnExactSymbolOf", fn := fun _ => fun
  | [d1, d2, d3] => { results := [.lit (.bool true)], args := [d1, d2, d3] }
  | _ => none }
def fnExactSymbolOfRow : OpenClaim := { program := "ytkaaffccklkafaa", sum := "badc483b6fc20b43449ac76f67463dbef2eeaf341f0988bcef2d8cf49b137323", func := "loop.example/g01245/laws.FnExactSymbolOf", spec := "fnExactSymbolOf", plainKeys := false, apart := false }
def FnExactSymbolOfSaid : Prop := fnExactSymbolOfRow.holds Try.pinned (OpenSpec.ofChange fnExactSymbolOfSpec)

/-- ITS FALSE NEIGHBOUR: 'it returns false'. Refute it at one input. -/
def fnExactSymbolOfWrong : ChangeSpec := { name := "fnExactSymbolOf", fn := fun _ => fun
  | [d1, d2, d3] => { results := [.lit (.bool false)], args := [d1, d2, d3] }
  | _ => none }
def FnExactSymbolOfWrongFalsely : Prop := fnExactSymbolOfRow.holds Try.pinned (OpenSpec.ofChange fnExactSymbolOfWrong)

/-- 'laws.FnExactRestForTwo': WHATEVER THE INPUT: true; the input reads as it did. -/
def fnExactRestForTwoSpec : ChangeSpec := { name := "fnExactRestForTwo", fn := fun _ => fun
  | [d1, d2, d3, d4, d5] => { results := [.lit (.bool true)], args := [d1, d2, d3, d4, d5] }
  | _ => none }
def fnExactRestForTwoRow : OpenClaim := { program := "ytkaaffccklkafaa", sum := "badc483b6fc20b43449ac76f67463dbef2eeaf341f0988bcef2d8cf49b137323", func := "loop.example/g01245/laws.FnExactRestForTwo", spec := "fnExactRestForTwo", plainKeys := false, apart := false }
def FnExactRestForTwoSaid : Prop := fnExactRestForTwoRow.holds Try.pinned (OpenSpec.ofChange fnExactRestForTwoSpec)

/-- ITS FALSE NEIGHBOUR: 'it returns false'. Refute it at one input. -/
def fnExactRestForTwoWrong : ChangeSpec := { name := "fnExactRestForTwo", fn := fun _ => fun
  | [d1, d2, d3, d4, d5] => { results := [.lit (.bool false)], args := [d1, d2, d3, d4, d5] }
  | _ => none }
def FnExactRestForTwoWrongFalsely : Prop := fnExactRestForTwoRow.holds Try.pinned (OpenSpec.ofChange fnExactRestForTwoWrong)

/- THE SECOND FORM. 'bulk': how many values and letters a reading holds, each counted each time it is reached (what is shared counts as often as it is met; a slice's spare places count too). A statement '..UptoSaid' is the law's where the arguments, and the package variables that the reading takes, are together of bulk at most 1048576: NARROWER than '..Said'. Prove '..Said' where nothing that the law and all that it calls make is longer than what came in: it says more and counts as full. Else prove '..UptoSaid'. A law counts once. -/
mutual
def uptoBulk {H : Type} : DataW H → Nat
  | .lit (.string bytes) => bytes.length + 1
  | .lit _ => 1
  | .nil => 1
  | .ptr d => uptoBulk d + 1
  | .slice elems spare => uptoBulkAll elems + uptoBulkAll spare + 1
  | .agg parts => uptoBulkAll parts + 1
  | .iface _ d => uptoBulk d + 1
  | .map entries => uptoBulkEntries entries + 1
  | .held _ => 1
def uptoBulkAll {H : Type} : List (DataW H) → Nat
  | [] => 0
  | d :: r => uptoBulk d + uptoBulkAll r
def uptoBulkEntries {H : Type} : List (Lit × DataW H) → Nat
  | [] => 0
  | x :: r => uptoBulkEntry x + uptoBulkEntries r
def uptoBulkEntry {H : Type} : Lit × DataW H → Nat
  | (.string bytes, d) => bytes.length + uptoBulk d + 1
  | (_, d) => uptoBulk d + 1
 end
def uptoSmall : (H : Type) → List (DataW H) → Bool := fun _ ds => decide (uptoBulkAll ds ≤ 1048576)
def OpenSpec.upto (s : _root_.Go.ChangeSpec) : _root_.Go.OpenSpec := { _root_.Go.OpenSpec.ofChange s with cond := some uptoSmall }

/-- 'laws.FnPolys', WHERE WHAT IT READS IS OF BULK AT MOST 1048576: true; the input reads as it did. -/
def fnPolysUptoRow : OpenClaim := { program := "ytkaaffccklkafaa", sum := "badc483b6fc20b43449ac76f67463dbef2eeaf341f0988bcef2d8cf49b137323", func := "loop.example/g01245/laws.FnPolys", spec := "fnPolys", plainKeys := false, apart := false, narrowed := true }
def FnPolysUptoSaid : Prop := fnPolysUptoRow.holds Try.pinned (OpenSpec.upto fnPolysSpec)

/-- 'laws.FnDivisors', WHERE WHAT IT READS IS OF BULK AT MOST 1048576: true; the input reads as it did. -/
def fnDivisorsUptoRow : OpenClaim := { program := "ytkaaffccklkafaa", sum := "badc483b6fc20b43449ac76f67463dbef2eeaf341f0988bcef2d8cf49b137323", func := "loop.example/g01245/laws.FnDivisors", spec := "fnDivisors", plainKeys := false, apart := false, narrowed := true }
def FnDivisorsUptoSaid : Prop := fnDivisorsUptoRow.holds Try.pinned (OpenSpec.upto fnDivisorsSpec)

/-- 'laws.FnPowers', WHERE WHAT IT READS IS OF BULK AT MOST 1048576: true; the input reads as it did. -/
def fnPowersUptoRow : OpenClaim := { program := "ytkaaffccklkafaa", sum := "badc483b6fc20b43449ac76f67463dbef2eeaf341f0988bcef2d8cf49b137323", func := "loop.example/g01245/laws.FnPowers", spec := "fnPowers", unfollowed := true, recurses := true, plainKeys := false, apart := false, narrowed := true }
def FnPowersUptoSaid : Prop := fnPowersUptoRow.holds Try.pinned (OpenSpec.upto fnPowersSpec)

/-- 'laws.FnIrreducibles', WHERE WHAT IT READS IS OF BULK AT MOST 1048576: true; the input reads as it did. -/
def fnIrreduciblesUptoRow : OpenClaim := { program := "ytkaaffccklkafaa", sum := "badc483b6fc20b43449ac76f67463dbef2eeaf341f0988bcef2d8cf49b137323", func := "loop.example/g01245/laws.FnIrreducibles", spec := "fnIrreducibles", unfollowed := true, recurses := true, plainKeys := false, apart := false, narrowed := true }
def FnIrreduciblesUptoSaid : Prop := fnIrreduciblesUptoRow.holds Try.pinned (OpenSpec.upto fnIrreduciblesSpec)

/-- 'laws.FnResidues', WHERE WHAT IT READS IS OF BULK AT MOST 1048576: true; the input reads as it did. -/
def fnResiduesUptoRow : OpenClaim := { program := "ytkaaffccklkafaa", sum := "badc483b6fc20b43449ac76f67463dbef2eeaf341f0988bcef2d8cf49b137323", func := "loop.example/g01245/laws.FnResidues", spec := "fnResidues", unfollowed := true, recurses := true, plainKeys := false, apart := false, narrowed := true }
def FnResiduesUptoSaid : Prop := fnResiduesUptoRow.holds Try.pinned (OpenSpec.upto fnResiduesSpec)

/-- 'laws.FnSymbols', WHERE WHAT IT READS IS OF BULK AT MOST 1048576: true; the input reads as it did. -/
def fnSymbolsUptoRow : OpenClaim := { program := "ytkaaffccklkafaa", sum := "badc483b6fc20b43449ac76f67463dbef2eeaf341f0988bcef2d8cf49b137323", func := "loop.example/g01245/laws.FnSymbols", spec := "fnSymbols", plainKeys := false, apart := false, narrowed := true }
def FnSymbolsUptoSaid : Prop := fnSymbolsUptoRow.holds Try.pinned (OpenSpec.upto fnSymbolsSpec)

/-- 'laws.FnExactDividePolys', WHERE WHAT IT READS IS OF BULK AT MOST 1048576: true; the input reads as it did. -/
def fnExactDividePolysUptoRow : OpenClaim := { program := "ytkaaffccklkafaa", sum := "badc483b6fc20b43449ac76f67463dbef2eeaf341f0988bcef2d8cf49b137323", func := "loop.example/g01245/laws.FnExactDividePolys", spec := "fnExactDividePolys", plainKeys := false, apart := false, narrowed := true }
def FnExactDividePolysUptoSaid : Prop := fnExactDividePolysUptoRow.holds Try.pinned (OpenSpec.upto fnExactDividePolysSpec)

/-- 'laws.FnExactGcdOf', WHERE WHAT IT READS IS OF BULK AT MOST 1048576: true; the input reads as it did. -/
def fnExactGcdOfUptoRow : OpenClaim := { program := "ytkaaffccklkafaa", sum := "badc483b6fc20b43449ac76f67463dbef2eeaf341f0988bcef2d8cf49b137323", func := "loop.example/g01245/laws.FnExactGcdOf", spec := "fnExactGcdOf", plainKeys := false, apart := false, narrowed := true }
def FnExactGcdOfUptoSaid : Prop := fnExactGcdOfUptoRow.holds Try.pinned (OpenSpec.upto fnExactGcdOfSpec)

/-- 'laws.FnExactBezoutOf', WHERE WHAT IT READS IS OF BULK AT MOST 1048576: true; the input reads as it did. -/
def fnExactBezoutOfUptoRow : OpenClaim := { program := "ytkaaffccklkafaa", sum := "badc483b6fc20b43449ac76f67463dbef2eeaf341f0988bcef2d8cf49b137323", func := "loop.example/g01245/laws.FnExactBezoutOf", spec := "fnExactBezoutOf", plainKeys := false, apart := false, narrowed := true }
def FnExactBezoutOfUptoSaid : Prop := fnExactBezoutOfUptoRow.holds Try.pinned (OpenSpec.upto fnExactBezoutOfSpec)

/-- 'laws.FnExactRootsOf', WHERE WHAT IT READS IS OF BULK AT MOST 1048576: true; the input reads as it did. -/
def fnExactRootsOfUptoRow : OpenClaim := { program := "ytkaaffccklkafaa", sum := "badc483b6fc20b43449ac76f67463dbef2eeaf341f0988bcef2d8cf49b137323", func := "loop.example/g01245/laws.FnExactRootsOf", spec := "fnExactRootsOf", plainKeys := false, apart := false, narrowed := true }
def FnExactRootsOfUptoSaid : Prop := fnExactRootsOfUptoRow.holds Try.pinned (OpenSpec.upto fnExactRootsOfSpec)

/-- 'laws.FnExactPowerOf', WHERE WHAT IT READS IS OF BULK AT MOST 1048576: true; the input reads as it did. -/
def fnExactPowerOfUptoRow : OpenClaim := { program := "ytkaaffccklkafaa", sum := "badc483b6fc20b43449ac76f67463dbef2eeaf341f0988bcef2d8cf49b137323", func := "loop.example/g01245/laws.FnExactPowerOf", spec := "fnExactPowerOf", unfollowed := true, recurses := true, plainKeys := false, apart := false, narrowed := true }
def FnExactPowerOfUptoSaid : Prop := fnExactPowerOfUptoRow.holds Try.pinned (OpenSpec.upto fnExactPowerOfSpec)

/-- 'laws.FnExactPowerModulo', WHERE WHAT IT READS IS OF BULK AT MOST 1048576: true; the input reads as it did. -/
def fnExactPowerModuloUptoRow : OpenClaim := { program := "ytkaaffccklkafaa", sum := "badc483b6fc20b43449ac76f67463dbef2eeaf341f0988bcef2d8cf49b137323", func := "loop.example/g01245/laws.FnExactPowerModulo", spec := "fnExactPowerModulo", unfollowed := true, recurses := true, plainKeys := false, apart := false, narrowed := true }
def FnExactPowerModuloUptoSaid : Prop := fnExactPowerModuloUptoRow.holds Try.pinned (OpenSpec.upto fnExactPowerModuloSpec)

/-- 'laws.FnExactComposePolys', WHERE WHAT IT READS IS OF BULK AT MOST 1048576: true; the input reads as it did. -/
def fnExactComposePolysUptoRow : OpenClaim := { program := "ytkaaffccklkafaa", sum := "badc483b6fc20b43449ac76f67463dbef2eeaf341f0988bcef2d8cf49b137323", func := "loop.example/g01245/laws.FnExactComposePolys", spec := "fnExactComposePolys", plainKeys := false, apart := false, narrowed := true }
def FnExactComposePolysUptoSaid : Prop := fnExactComposePolysUptoRow.holds Try.pinned (OpenSpec.upto fnExactComposePolysSpec)

/-- 'laws.FnExactMonicPolys', WHERE WHAT IT READS IS OF BULK AT MOST 1048576: true; the input reads as it did. -/
def fnExactMonicPolysUptoRow : OpenClaim := { program := "ytkaaffccklkafaa", sum := "badc483b6fc20b43449ac76f67463dbef2eeaf341f0988bcef2d8cf49b137323", func := "loop.example/g01245/laws.FnExactMonicPolys", spec := "fnExactMonicPolys", plainKeys := false, apart := false, narrowed := true }
def FnExactMonicPolysUptoSaid : Prop := fnExactMonicPolysUptoRow.holds Try.pinned (OpenSpec.upto fnExactMonicPolysSpec)

/-- 'laws.FnExactPolyText', WHERE WHAT IT READS IS OF BULK AT MOST 1048576: true; the input reads as it did. -/
def fnExactPolyTextUptoRow : OpenClaim := { program := "ytkaaffccklkafaa", sum := "badc483b6fc20b43449ac76f67463dbef2eeaf341f0988bcef2d8cf49b137323", func := "loop.example/g01245/laws.FnExactPolyText", spec := "fnExactPolyText", plainKeys := false, apart := false, narrowed := true }
def FnExactPolyTextUptoSaid : Prop := fnExactPolyTextUptoRow.holds Try.pinned (OpenSpec.upto fnExactPolyTextSpec)

/-- 'laws.FnExactParsePoly', WHERE WHAT IT READS IS OF BULK AT MOST 1048576: true; the input reads as it did. -/
def fnExactParsePolyUptoRow : OpenClaim := { program := "ytkaaffccklkafaa", sum := "badc483b6fc20b43449ac76f67463dbef2eeaf341f0988bcef2d8cf49b137323", func := "loop.example/g01245/laws.FnExactParsePoly", spec := "fnExactParsePoly", plainKeys := false, apart := false, narrowed := true }
def FnExactParsePolyUptoSaid : Prop := fnExactParsePolyUptoRow.holds Try.pinned (OpenSpec.upto fnExactParsePolySpec)

/-- 'laws.FnExactIsIrreducible', WHERE WHAT IT READS IS OF BULK AT MOST 1048576: true; the input reads as it did. -/
def fnExactIsIrreducibleUptoRow : OpenClaim := { program := "ytkaaffccklkafaa", sum := "badc483b6fc20b43449ac76f67463dbef2eeaf341f0988bcef2d8cf49b137323", func := "loop.example/g01245/laws.FnExactIsIrreducible", spec := "fnExactIsIrreducible", unfollowed := true, recurses := true, plainKeys := false, apart := false, narrowed := true }
def FnExactIsIrreducibleUptoSaid : Prop := fnExactIsIrreducibleUptoRow.holds Try.pinned (OpenSpec.upto fnExactIsIrreducibleSpec)

/-- 'laws.FnExactIrreduciblesOf', WHERE WHAT IT READS IS OF BULK AT MOST 1048576: true; the input reads as it did. -/
def fnExactIrreduciblesOfUptoRow : OpenClaim := { program := "ytkaaffccklkafaa", sum := "badc483b6fc20b43449ac76f67463dbef2eeaf341f0988bcef2d8cf49b137323", func := "loop.example/g01245/laws.FnExactIrreduciblesOf", spec := "fnExactIrreduciblesOf", unfollowed := true, recurses := true, plainKeys := false, apart := false, narrowed := true }
def FnExactIrreduciblesOfUptoSaid : Prop := fnExactIrreduciblesOfUptoRow.holds Try.pinned (OpenSpec.upto fnExactIrreduciblesOfSpec)

/-- 'laws.FnExactCountIrreducibles', WHERE WHAT IT READS IS OF BULK AT MOST 1048576: true; the input reads as it did. -/
def fnExactCountIrreduciblesUptoRow : OpenClaim := { program := "ytkaaffccklkafaa", sum := "badc483b6fc20b43449ac76f67463dbef2eeaf341f0988bcef2d8cf49b137323", func := "loop.example/g01245/laws.FnExactCountIrreducibles", spec := "fnExactCountIrreducibles", recurses := true, plainKeys := false, apart := false, narrowed := true }
def FnExactCountIrreduciblesUptoSaid : Prop := fnExactCountIrreduciblesUptoRow.holds Try.pinned (OpenSpec.upto fnExactCountIrreduciblesSpec)

/-- 'laws.FnExactFactorsOf', WHERE WHAT IT READS IS OF BULK AT MOST 1048576: true; the input reads as it did. -/
def fnExactFactorsOfUptoRow : OpenClaim := { program := "ytkaaffccklkafaa", sum := "badc483b6fc20b43449ac76f67463dbef2eeaf341f0988bcef2d8cf49b137323", func := "loop.example/g01245/laws.FnExactFactorsOf", spec := "fnExactFactorsOf", unfollowed := true, recurses := true, plainKeys := false, apart := false, narrowed := true }
def FnExactFactorsOfUptoSaid : Prop := fnExactFactorsOfUptoRow.holds Try.pinned (OpenSpec.upto fnExactFactorsOfSpec)

/-- 'laws.FnExactMoebiusOf', WHERE WHAT IT READS IS OF BULK AT MOST 1048576: true; the input reads as it did. -/
def fnExactMoebiusOfUptoRow : OpenClaim := { program := "ytkaaffccklkafaa", sum := "badc483b6fc20b43449ac76f67463dbef2eeaf341f0988bcef2d8cf49b137323", func := "loop.example/g01245/laws.FnExactMoebiusOf", spec := "fnExactMoebiusOf", unfollowed := true, recurses := true, plainKeys := false, apart := false, narrowed := true }
def FnExactMoebiusOfUptoSaid : Prop := fnExactMoebiusOfUptoRow.holds Try.pinned (OpenSpec.upto fnExactMoebiusOfSpec)

/-- 'laws.FnExactEulerOf', WHERE WHAT IT READS IS OF BULK AT MOST 1048576: true; the input reads as it did. -/
def fnExactEulerOfUptoRow : OpenClaim := { program := "ytkaaffccklkafaa", sum := "badc483b6fc20b43449ac76f67463dbef2eeaf341f0988bcef2d8cf49b137323", func := "loop.example/g01245/laws.FnExactEulerOf", spec := "fnExactEulerOf", unfollowed := true, recurses := true, plainKeys := false, apart := false, narrowed := true }
def FnExactEulerOfUptoSaid : Prop := fnExactEulerOfUptoRow.holds Try.pinned (OpenSpec.upto fnExactEulerOfSpec)

/-- 'laws.FnExactInverseModulo', WHERE WHAT IT READS IS OF BULK AT MOST 1048576: true; the input reads as it did. -/
def fnExactInverseModuloUptoRow : OpenClaim := { program := "ytkaaffccklkafaa", sum := "badc483b6fc20b43449ac76f67463dbef2eeaf341f0988bcef2d8cf49b137323", func := "loop.example/g01245/laws.FnExactInverseModulo", spec := "fnExactInverseModulo", plainKeys := false, apart := false, narrowed := true }
def FnExactInverseModuloUptoSaid : Prop := fnExactInverseModuloUptoRow.holds Try.pinned (OpenSpec.upto fnExactInverseModuloSpec)

/-- 'laws.FnExactOrderModulo', WHERE WHAT IT READS IS OF BULK AT MOST 1048576: true; the input reads as it did. -/
def fnExactOrderModuloUptoRow : OpenClaim := { program := "ytkaaffccklkafaa", sum := "badc483b6fc20b43449ac76f67463dbef2eeaf341f0988bcef2d8cf49b137323", func := "loop.example/g01245/laws.FnExactOrderModulo", spec := "fnExactOrderModulo", unfollowed := true, recurses := true, plainKeys := false, apart := false, narrowed := true }
def FnExactOrderModuloUptoSaid : Prop := fnExactOrderModuloUptoRow.holds Try.pinned (OpenSpec.upto fnExactOrderModuloSpec)

/-- 'laws.FnExactPrimitiveOf', WHERE WHAT IT READS IS OF BULK AT MOST 1048576: true; the input reads as it did. -/
def fnExactPrimitiveOfUptoRow : OpenClaim := { program := "ytkaaffccklkafaa", sum := "badc483b6fc20b43449ac76f67463dbef2eeaf341f0988bcef2d8cf49b137323", func := "loop.example/g01245/laws.FnExactPrimitiveOf", spec := "fnExactPrimitiveOf", unfollowed := true, recurses := true, plainKeys := false, apart := false, narrowed := true }
def FnExactPrimitiveOfUptoSaid : Prop := fnExactPrimitiveOfUptoRow.holds Try.pinned (OpenSpec.upto fnExactPrimitiveOfSpec)

/-- 'laws.FnExactLogarithmOf', WHERE WHAT IT READS IS OF BULK AT MOST 1048576: true; the input reads as it did. -/
def fnExactLogarithmOfUptoRow : OpenClaim := { program := "ytkaaffccklkafaa", sum := "badc483b6fc20b43449ac76f67463dbef2eeaf341f0988bcef2d8cf49b137323", func := "loop.example/g01245/laws.FnExactLogarithmOf", spec := "fnExactLogarithmOf", plainKeys := false, apart := false, narrowed := true }
def FnExactLogarithmOfUptoSaid : Prop := fnExactLogarithmOfUptoRow.holds Try.pinned (OpenSpec.upto fnExactLogarithmOfSpec)

/-- 'laws.FnExactSymbolOf', WHERE WHAT IT READS IS OF BULK AT MOST 1048576: true; the input reads as it did. -/
def fnExactSymbolOfUptoRow : OpenClaim := { program := "ytkaaffccklkafaa", sum := "badc483b6fc20b43449ac76f67463dbef2eeaf341f0988bcef2d8cf49b137323", func := "loop.example/g01245/laws.FnExactSymbolOf", spec := "fnExactSymbolOf", plainKeys := false, apart := false, narrowed := true }
def FnExactSymbolOfUptoSaid : Prop := fnExactSymbolOfUptoRow.holds Try.pinned (OpenSpec.upto fnExactSymbolOfSpec)

/-- 'laws.FnExactRestForTwo', WHERE WHAT IT READS IS OF BULK AT MOST 1048576: true; the input reads as it did. -/
def fnExactRestForTwoUptoRow : OpenClaim := { program := "ytkaaffccklkafaa", sum := "badc483b6fc20b43449ac76f67463dbef2eeaf341f0988bcef2d8cf49b137323", func := "loop.example/g01245/laws.FnExactRestForTwo", spec := "fnExactRestForTwo", plainKeys := false, apart := false, narrowed := true }
def FnExactRestForTwoUptoSaid : Prop := fnExactRestForTwoUptoRow.holds Try.pinned (OpenSpec.upto fnExactRestForTwoSpec)

end Rows
end Go.Proofs.Ytkaaffccklkafaa
