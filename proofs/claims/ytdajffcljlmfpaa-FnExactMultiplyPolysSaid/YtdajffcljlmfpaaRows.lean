/-
  No cell of these rows narrows 'for every input' (looked for: loops, veiled, ifaces, maps, wideKeys, modest, calm, conditions, laid).
  DERIVED. THE GIVEN ROWS OF THIS SEAT. 22 by the template 'for every input the law returns true; each argument reads behind the call as it read before'; 0 by the template 'total and deterministic' (their statements: YtdajffcljlmfpaaTotals.lean).
  GIVEN WITH THE SEED: the statements are not yours to turn. If you find one false, say at which input.
  Laid BY PROGRAM, IN A SANDBOX (cutbox-rows.mjs): the forced cells as the released guide's own fill.sh prints them over the translation b7b6de6aa94184a3… (all of the seat's roots in one cut). By AI agents, Wed Nov 11 2026. No macro, syntax, notation, axiom, sorry.
-/
import Derived.Test.YtdajffcljlmfpaaChecked
import GoSem.Claim
import GoSem.ClaimJoined
import GoSem.ClaimMapViews
import Derived.JoinedTies
import Derived.KernelRfl
namespace Go.Proofs.Ytdajffcljlmfpaa
/- THE CELL 'sum', in the pinned program and in every row, IS THE sha256 OF THE DUMP (.gsa) THAT YtdajffcljlmfpaaProg.lean LOADS. Nothing in Lean hashes anything: it is a label: what it is worth is what the hold of that sum in a sandbox is worth. -/
noncomputable def Try.pinned : Pinned := { name := "ytdajffcljlmfpaa", sum := "b7b6de6aa94184a3c05b95267182258dabaf4dfd52bc5c9443c7ce979ca080e2", checked := Try.checked }
namespace Rows
def none {H : Type} : Left H := { results := [], args := [] }

/-- 'laws.FnPolys': WHATEVER THE INPUT: true; the input reads as it did. -/
def fnPolysSpec : ChangeSpec := { name := "fnPolys", fn := fun _ => fun
  | [d] => { results := [.lit (.bool true)], args := [d] }
  | _ => none }
def fnPolysRow : OpenClaim := { program := "ytdajffcljlmfpaa", sum := "b7b6de6aa94184a3c05b95267182258dabaf4dfd52bc5c9443c7ce979ca080e2", func := "loop.example/g01245/laws.FnPolys", spec := "fnPolys", plainKeys := false, apart := false }
def FnPolysSaid : Prop := fnPolysRow.holds Try.pinned (OpenSpec.ofChange fnPolysSpec)

/-- ITS FALSE NEIGHBOUR: 'it returns false'. Refute it at one input. -/
def fnPolysWrong : ChangeSpec := { name := "fnPolys", fn := fun _ => fun
  | [d] => { results := [.lit (.bool false)], args := [d] }
  | _ => none }
def FnPolysWrongFalsely : Prop := fnPolysRow.holds Try.pinned (OpenSpec.ofChange fnPolysWrong)

/-- 'laws.FnDivisors': WHATEVER THE INPUT: true; the input reads as it did. -/
def fnDivisorsSpec : ChangeSpec := { name := "fnDivisors", fn := fun _ => fun
  | [d] => { results := [.lit (.bool true)], args := [d] }
  | _ => none }
def fnDivisorsRow : OpenClaim := { program := "ytdajffcljlmfpaa", sum := "b7b6de6aa94184a3c05b95267182258dabaf4dfd52bc5c9443c7ce979ca080e2", func := "loop.example/g01245/laws.FnDivisors", spec := "fnDivisors", plainKeys := false, apart := false }
def FnDivisorsSaid : Prop := fnDivisorsRow.holds Try.pinned (OpenSpec.ofChange fnDivisorsSpec)

/-- ITS FALSE NEIGHBOUR: 'it returns false'. Refute it at one input. -/
def fnDivisorsWrong : ChangeSpec := { name := "fnDivisors", fn := fun _ => fun
  | [d] => { results := [.lit (.bool false)], args := [d] }
  | _ => none }
def FnDivisorsWrongFalsely : Prop := fnDivisorsRow.holds Try.pinned (OpenSpec.ofChange fnDivisorsWrong)

/-- 'laws.FnPowers': WHATEVER THE INPUT: true; the input reads as it did. -/
def fnPowersSpec : ChangeSpec := { name := "fnPowers", fn := fun _ => fun
  | [d] => { results := [.lit (.bool true)], args := [d] }
  | _ => none }
def fnPowersRow : OpenClaim := { program := "ytdajffcljlmfpaa", sum := "b7b6de6aa94184a3c05b95267182258dabaf4dfd52bc5c9443c7ce979ca080e2", func := "loop.example/g01245/laws.FnPowers", spec := "fnPowers", unfollowed := true, recurses := true, plainKeys := false, apart := false }
def FnPowersSaid : Prop := fnPowersRow.holds Try.pinned (OpenSpec.ofChange fnPowersSpec)

/-- ITS FALSE NEIGHBOUR: 'it returns false'. Refute it at one input. -/
def fnPowersWrong : ChangeSpec := { name := "fnPowers", fn := fun _ => fun
  | [d] => { results := [.lit (.bool false)], args := [d] }
  | _ => none }
def FnPowersWrongFalsely : Prop := fnPowersRow.holds Try.pinned (OpenSpec.ofChange fnPowersWrong)

/-- 'laws.FnExactIsPoly': WHATEVER THE INPUT: true; the input reads as it did. -/
def fnExactIsPolySpec : ChangeSpec := { name := "fnExactIsPoly", fn := fun _ => fun
  | [d1, d2] => { results := [.lit (.bool true)], args := [d1, d2] }
  | _ => none }
def fnExactIsPolyRow : OpenClaim := { program := "ytdajffcljlmfpaa", sum := "b7b6de6aa94184a3c05b95267182258dabaf4dfd52bc5c9443c7ce979ca080e2", func := "loop.example/g01245/laws.FnExactIsPoly", spec := "fnExactIsPoly", plainKeys := false, apart := false }
def FnExactIsPolySaid : Prop := fnExactIsPolyRow.holds Try.pinned (OpenSpec.ofChange fnExactIsPolySpec)

/-- ITS FALSE NEIGHBOUR: 'it returns false'. Refute it at one input. -/
def fnExactIsPolyWrong : ChangeSpec := { name := "fnExactIsPoly", fn := fun _ => fun
  | [d1, d2] => { results := [.lit (.bool false)], args := [d1, d2] }
  | _ => none }
def FnExactIsPolyWrongFalsely : Prop := fnExactIsPolyRow.holds Try.pinned (OpenSpec.ofChange fnExactIsPolyWrong)

/-- 'laws.FnExactDegreeOf': WHATEVER THE INPUT: true; the input reads as it did. -/
def fnExactDegreeOfSpec : ChangeSpec := { name := "fnExactDegreeOf", fn := fun _ => fun
  | [d1, d2] => { results := [.lit (.bool true)], args := [d1, d2] }
  | _ => none }
def fnExactDegreeOfRow : OpenClaim := { program := "ytdajffcljlmfpaa", sum := "b7b6de6aa94184a3c05b95267182258dabaf4dfd52bc5c9443c7ce979ca080e2", func := "loop.example/g01245/laws.FnExactDegreeOf", spec := "fnExactDegreeOf", plainKeys := false, apart := false }
def FnExactDegreeOfSaid : Prop := fnExactDegreeOfRow.holds Try.pinned (OpenSpec.ofChange fnExactDegreeOfSpec)

/-- ITS FALSE NEIGHBOUR: 'it returns false'. Refute it at one input. -/
def fnExactDegreeOfWrong : ChangeSpec := { name := "fnExactDegreeOf", fn := fun _ => fun
  | [d1, d2] => { results := [.lit (.bool false)], args := [d1, d2] }
  | _ => none }
def FnExactDegreeOfWrongFalsely : Prop := fnExactDegreeOfRow.holds Try.pinned (OpenSpec.ofChange fnExactDegreeOfWrong)

/-- 'laws.FnExactAddPolys': WHATEVER THE INPUT: true; the input reads as it did. -/
def fnExactAddPolysSpec : ChangeSpec := { name := "fnExactAddPolys", fn := fun _ => fun
  | [d1, d2, d3] => { results := [.lit (.bool true)], args := [d1, d2, d3] }
  | _ => none }
def fnExactAddPolysRow : OpenClaim := { program := "ytdajffcljlmfpaa", sum := "b7b6de6aa94184a3c05b95267182258dabaf4dfd52bc5c9443c7ce979ca080e2", func := "loop.example/g01245/laws.FnExactAddPolys", spec := "fnExactAddPolys", plainKeys := false, apart := false }
def FnExactAddPolysSaid : Prop := fnExactAddPolysRow.holds Try.pinned (OpenSpec.ofChange fnExactAddPolysSpec)

/-- ITS FALSE NEIGHBOUR: 'it returns false'. Refute it at one input. -/
def fnExactAddPolysWrong : ChangeSpec := { name := "fnExactAddPolys", fn := fun _ => fun
  | [d1, d2, d3] => { results := [.lit (.bool false)], args := [d1, d2, d3] }
  | _ => none }
def FnExactAddPolysWrongFalsely : Prop := fnExactAddPolysRow.holds Try.pinned (OpenSpec.ofChange fnExactAddPolysWrong)

/-- 'laws.FnExactSubtractPolys': WHATEVER THE INPUT: true; the input reads as it did. -/
def fnExactSubtractPolysSpec : ChangeSpec := { name := "fnExactSubtractPolys", fn := fun _ => fun
  | [d1, d2, d3] => { results := [.lit (.bool true)], args := [d1, d2, d3] }
  | _ => none }
def fnExactSubtractPolysRow : OpenClaim := { program := "ytdajffcljlmfpaa", sum := "b7b6de6aa94184a3c05b95267182258dabaf4dfd52bc5c9443c7ce979ca080e2", func := "loop.example/g01245/laws.FnExactSubtractPolys", spec := "fnExactSubtractPolys", plainKeys := false, apart := false }
def FnExactSubtractPolysSaid : Prop := fnExactSubtractPolysRow.holds Try.pinned (OpenSpec.ofChange fnExactSubtractPolysSpec)

/-- ITS FALSE NEIGHBOUR: 'it returns false'. Refute it at one input. -/
def fnExactSubtractPolysWrong : ChangeSpec := { name := "fnExactSubtractPolys", fn := fun _ => fun
  | [d1, d2, d3] => { results := [.lit (.bool false)], args := [d1, d2, d3] }
  | _ => none }
def FnExactSubtractPolysWrongFalsely : Prop := fnExactSubtractPolysRow.holds Try.pinned (OpenSpec.ofChange fnExactSubtractPolysWrong)

/-- 'laws.FnExactMultiplyPolys': WHATEVER THE INPUT: true; the input reads as it did. -/
def fnExactMultiplyPolysSpec : ChangeSpec := { name := "fnExactMultiplyPolys", fn := fun _ => fun
  | [d1, d2, d3] => { results := [.lit (.bool true)], args := [d1, d2, d3] }
  | _ => none }
def fnExactMultiplyPolysRow : OpenClaim := { program := "ytdajffcljlmfpaa", sum := "b7b6de6aa94184a3c05b95267182258dabaf4dfd52bc5c9443c7ce979ca080e2", func := "loop.example/g01245/laws.FnExactMultiplyPolys", spec := "fnExactMultiplyPolys", plainKeys := false, apart := false }
def FnExactMultiplyPolysSaid : Prop := fnExactMultiplyPolysRow.holds Try.pinned (OpenSpec.ofChange fnExactMultiplyPolysSpec)

/-- ITS FALSE NEIGHBOUR: 'it returns false'. Refute it at one input. -/
def fnExactMultiplyPolysWrong : ChangeSpec := { name := "fnExactMultiplyPolys", fn := fun _ => fun
  | [d1, d2, d3] => { results := [.lit (.bool false)], args := [d1, d2, d3] }
  | _ => none }
def FnExactMultiplyPolysWrongFalsely : Prop := fnExactMultiplyPolysRow.holds Try.pinned (OpenSpec.ofChange fnExactMultiplyPolysWrong)

/-- 'laws.FnExactDividePolys': WHATEVER THE INPUT: true; the input reads as it did. -/
def fnExactDividePolysSpec : ChangeSpec := { name := "fnExactDividePolys", fn := fun _ => fun
  | [d1, d2, d3] => { results := [.lit (.bool true)], args := [d1, d2, d3] }
  | _ => none }
def fnExactDividePolysRow : OpenClaim := { program := "ytdajffcljlmfpaa", sum := "b7b6de6aa94184a3c05b95267182258dabaf4dfd52bc5c9443c7ce979ca080e2", func := "loop.example/g01245/laws.FnExactDividePolys", spec := "fnExactDividePolys", plainKeys := false, apart := false }
def FnExactDividePolysSaid : Prop := fnExactDividePolysRow.holds Try.pinned (OpenSpec.ofChange fnExactDividePolysSpec)

/-- ITS FALSE NEIGHBOUR: 'it returns false'. Refute it at one input. -/
def fnExactDividePolysWrong : ChangeSpec := { name := "fnExactDividePolys", fn := fun _ => fun
  | [d1, d2, d3] => { results := [.lit (.bool false)], args := [d1, d2, d3] }
  | _ => none }
def FnExactDividePolysWrongFalsely : Prop := fnExactDividePolysRow.holds Try.pinned (OpenSpec.ofChange fnExactDividePolysWrong)

/-- 'laws.FnExactGcdOf': WHATEVER THE INPUT: true; the input reads as it did. -/
def fnExactGcdOfSpec : ChangeSpec := { name := "fnExactGcdOf", fn := fun _ => fun
  | [d1, d2, d3] => { results := [.lit (.bool true)], args := [d1, d2, d3] }
  | _ => none }
def fnExactGcdOfRow : OpenClaim := { program := "ytdajffcljlmfpaa", sum := "b7b6de6aa94184a3c05b95267182258dabaf4dfd52bc5c9443c7ce979ca080e2", func := "loop.example/g01245/laws.FnExactGcdOf", spec := "fnExactGcdOf", plainKeys := false, apart := false }
def FnExactGcdOfSaid : Prop := fnExactGcdOfRow.holds Try.pinned (OpenSpec.ofChange fnExactGcdOfSpec)

/-- ITS FALSE NEIGHBOUR: 'it returns false'. Refute it at one input. -/
def fnExactGcdOfWrong : ChangeSpec := { name := "fnExactGcdOf", fn := fun _ => fun
  | [d1, d2, d3] => { results := [.lit (.bool false)], args := [d1, d2, d3] }
  | _ => none }
def FnExactGcdOfWrongFalsely : Prop := fnExactGcdOfRow.holds Try.pinned (OpenSpec.ofChange fnExactGcdOfWrong)

/-- 'laws.FnExactBezoutOf': WHATEVER THE INPUT: true; the input reads as it did. -/
def fnExactBezoutOfSpec : ChangeSpec := { name := "fnExactBezoutOf", fn := fun _ => fun
  | [d1, d2, d3] => { results := [.lit (.bool true)], args := [d1, d2, d3] }
  | _ => none }
def fnExactBezoutOfRow : OpenClaim := { program := "ytdajffcljlmfpaa", sum := "b7b6de6aa94184a3c05b95267182258dabaf4dfd52bc5c9443c7ce979ca080e2", func := "loop.example/g01245/laws.FnExactBezoutOf", spec := "fnExactBezoutOf", plainKeys := false, apart := false }
def FnExactBezoutOfSaid : Prop := fnExactBezoutOfRow.holds Try.pinned (OpenSpec.ofChange fnExactBezoutOfSpec)

/-- ITS FALSE NEIGHBOUR: 'it returns false'. Refute it at one input. -/
def fnExactBezoutOfWrong : ChangeSpec := { name := "fnExactBezoutOf", fn := fun _ => fun
  | [d1, d2, d3] => { results := [.lit (.bool false)], args := [d1, d2, d3] }
  | _ => none }
def FnExactBezoutOfWrongFalsely : Prop := fnExactBezoutOfRow.holds Try.pinned (OpenSpec.ofChange fnExactBezoutOfWrong)

/-- 'laws.FnExactValueAt': WHATEVER THE INPUT: true; the input reads as it did. -/
def fnExactValueAtSpec : ChangeSpec := { name := "fnExactValueAt", fn := fun _ => fun
  | [d1, d2, d3] => { results := [.lit (.bool true)], args := [d1, d2, d3] }
  | _ => none }
def fnExactValueAtRow : OpenClaim := { program := "ytdajffcljlmfpaa", sum := "b7b6de6aa94184a3c05b95267182258dabaf4dfd52bc5c9443c7ce979ca080e2", func := "loop.example/g01245/laws.FnExactValueAt", spec := "fnExactValueAt", plainKeys := false, apart := false }
def FnExactValueAtSaid : Prop := fnExactValueAtRow.holds Try.pinned (OpenSpec.ofChange fnExactValueAtSpec)

/-- ITS FALSE NEIGHBOUR: 'it returns false'. Refute it at one input. -/
def fnExactValueAtWrong : ChangeSpec := { name := "fnExactValueAt", fn := fun _ => fun
  | [d1, d2, d3] => { results := [.lit (.bool false)], args := [d1, d2, d3] }
  | _ => none }
def FnExactValueAtWrongFalsely : Prop := fnExactValueAtRow.holds Try.pinned (OpenSpec.ofChange fnExactValueAtWrong)

/-- 'laws.FnExactRootsOf': WHATEVER THE INPUT: true; the input reads as it did. -/
def fnExactRootsOfSpec : ChangeSpec := { name := "fnExactRootsOf", fn := fun _ => fun
  | [d1, d2] => { results := [.lit (.bool true)], args := [d1, d2] }
  | _ => none }
def fnExactRootsOfRow : OpenClaim := { program := "ytdajffcljlmfpaa", sum := "b7b6de6aa94184a3c05b95267182258dabaf4dfd52bc5c9443c7ce979ca080e2", func := "loop.example/g01245/laws.FnExactRootsOf", spec := "fnExactRootsOf", plainKeys := false, apart := false }
def FnExactRootsOfSaid : Prop := fnExactRootsOfRow.holds Try.pinned (OpenSpec.ofChange fnExactRootsOfSpec)

/-- ITS FALSE NEIGHBOUR: 'it returns false'. Refute it at one input. -/
def fnExactRootsOfWrong : ChangeSpec := { name := "fnExactRootsOf", fn := fun _ => fun
  | [d1, d2] => { results := [.lit (.bool false)], args := [d1, d2] }
  | _ => none }
def FnExactRootsOfWrongFalsely : Prop := fnExactRootsOfRow.holds Try.pinned (OpenSpec.ofChange fnExactRootsOfWrong)

/-- 'laws.FnExactDerivativeOf': WHATEVER THE INPUT: true; the input reads as it did. -/
def fnExactDerivativeOfSpec : ChangeSpec := { name := "fnExactDerivativeOf", fn := fun _ => fun
  | [d1, d2] => { results := [.lit (.bool true)], args := [d1, d2] }
  | _ => none }
def fnExactDerivativeOfRow : OpenClaim := { program := "ytdajffcljlmfpaa", sum := "b7b6de6aa94184a3c05b95267182258dabaf4dfd52bc5c9443c7ce979ca080e2", func := "loop.example/g01245/laws.FnExactDerivativeOf", spec := "fnExactDerivativeOf", plainKeys := false, apart := false }
def FnExactDerivativeOfSaid : Prop := fnExactDerivativeOfRow.holds Try.pinned (OpenSpec.ofChange fnExactDerivativeOfSpec)

/-- ITS FALSE NEIGHBOUR: 'it returns false'. Refute it at one input. -/
def fnExactDerivativeOfWrong : ChangeSpec := { name := "fnExactDerivativeOf", fn := fun _ => fun
  | [d1, d2] => { results := [.lit (.bool false)], args := [d1, d2] }
  | _ => none }
def FnExactDerivativeOfWrongFalsely : Prop := fnExactDerivativeOfRow.holds Try.pinned (OpenSpec.ofChange fnExactDerivativeOfWrong)

/-- 'laws.FnExactPowerOf': WHATEVER THE INPUT: true; the input reads as it did. -/
def fnExactPowerOfSpec : ChangeSpec := { name := "fnExactPowerOf", fn := fun _ => fun
  | [d1, d2, d3] => { results := [.lit (.bool true)], args := [d1, d2, d3] }
  | _ => none }
def fnExactPowerOfRow : OpenClaim := { program := "ytdajffcljlmfpaa", sum := "b7b6de6aa94184a3c05b95267182258dabaf4dfd52bc5c9443c7ce979ca080e2", func := "loop.example/g01245/laws.FnExactPowerOf", spec := "fnExactPowerOf", unfollowed := true, recurses := true, plainKeys := false, apart := false }
def FnExactPowerOfSaid : Prop := fnExactPowerOfRow.holds Try.pinned (OpenSpec.ofChange fnExactPowerOfSpec)

/-- ITS FALSE NEIGHBOUR: 'it returns false'. Refute it at one input. -/
def fnExactPowerOfWrong : ChangeSpec := { name := "fnExactPowerOf", fn := fun _ => fun
  | [d1, d2, d3] => { results := [.lit (.bool false)], args := [d1, d2, d3] }
  | _ => none }
def FnExactPowerOfWrongFalsely : Prop := fnExactPowerOfRow.holds Try.pinned (OpenSpec.ofChange fnExactPowerOfWrong)

/-- 'laws.FnExactPowerModulo': WHATEVER THE INPUT: true; the input reads as it did. -/
def fnExactPowerModuloSpec : ChangeSpec := { name := "fnExactPowerModulo", fn := fun _ => fun
  | [d1, d2, d3, d4] => { results := [.lit (.bool true)], args := [d1, d2, d3, d4] }
  | _ => none }
def fnExactPowerModuloRow : OpenClaim := { program := "ytdajffcljlmfpaa", sum := "b7b6de6aa94184a3c05b95267182258dabaf4dfd52bc5c9443c7ce979ca080e2", func := "loop.example/g01245/laws.FnExactPowerModulo", spec := "fnExactPowerModulo", unfollowed := true, recurses := true, plainKeys := false, apart := false }
def FnExactPowerModuloSaid : Prop := fnExactPowerModuloRow.holds Try.pinned (OpenSpec.ofChange fnExactPowerModuloSpec)

/-- ITS FALSE NEIGHBOUR: 'it returns false'. Refute it at one input. -/
def fnExactPowerModuloWrong : ChangeSpec := { name := "fnExactPowerModulo", fn := fun _ => fun
  | [d1, d2, d3, d4] => { results := [.lit (.bool false)], args := [d1, d2, d3, d4] }
  | _ => none }
def FnExactPowerModuloWrongFalsely : Prop := fnExactPowerModuloRow.holds Try.pinned (OpenSpec.ofChange fnExactPowerModuloWrong)

/-- 'laws.FnExactComposePolys': WHATEVER THE INPUT: true; the input reads as it did. -/
def fnExactComposePolysSpec : ChangeSpec := { name := "fnExactComposePolys", fn := fun _ => fun
  | [d1, d2, d3] => { results := [.lit (.bool true)], args := [d1, d2, d3] }
  | _ => none }
def fnExactComposePolysRow : OpenClaim := { program := "ytdajffcljlmfpaa", sum := "b7b6de6aa94184a3c05b95267182258dabaf4dfd52bc5c9443c7ce979ca080e2", func := "loop.example/g01245/laws.FnExactComposePolys", spec := "fnExactComposePolys", plainKeys := false, apart := false }
def FnExactComposePolysSaid : Prop := fnExactComposePolysRow.holds Try.pinned (OpenSpec.ofChange fnExactComposePolysSpec)

/-- ITS FALSE NEIGHBOUR: 'it returns false'. Refute it at one input. -/
def fnExactComposePolysWrong : ChangeSpec := { name := "fnExactComposePolys", fn := fun _ => fun
  | [d1, d2, d3] => { results := [.lit (.bool false)], args := [d1, d2, d3] }
  | _ => none }
def FnExactComposePolysWrongFalsely : Prop := fnExactComposePolysRow.holds Try.pinned (OpenSpec.ofChange fnExactComposePolysWrong)

/-- 'laws.FnExactMonicPolys': WHATEVER THE INPUT: true; the input reads as it did. -/
def fnExactMonicPolysSpec : ChangeSpec := { name := "fnExactMonicPolys", fn := fun _ => fun
  | [d1, d2] => { results := [.lit (.bool true)], args := [d1, d2] }
  | _ => none }
def fnExactMonicPolysRow : OpenClaim := { program := "ytdajffcljlmfpaa", sum := "b7b6de6aa94184a3c05b95267182258dabaf4dfd52bc5c9443c7ce979ca080e2", func := "loop.example/g01245/laws.FnExactMonicPolys", spec := "fnExactMonicPolys", plainKeys := false, apart := false }
def FnExactMonicPolysSaid : Prop := fnExactMonicPolysRow.holds Try.pinned (OpenSpec.ofChange fnExactMonicPolysSpec)

/-- ITS FALSE NEIGHBOUR: 'it returns false'. Refute it at one input. -/
def fnExactMonicPolysWrong : ChangeSpec := { name := "fnExactMonicPolys", fn := fun _ => fun
  | [d1, d2] => { results := [.lit (.bool false)], args := [d1, d2] }
  | _ => none }
def FnExactMonicPolysWrongFalsely : Prop := fnExactMonicPolysRow.holds Try.pinned (OpenSpec.ofChange fnExactMonicPolysWrong)

/-- 'laws.FnExactNumberOfPoly': WHATEVER THE INPUT: true; the input reads as it did. -/
def fnExactNumberOfPolySpec : ChangeSpec := { name := "fnExactNumberOfPoly", fn := fun _ => fun
  | [d1, d2] => { results := [.lit (.bool true)], args := [d1, d2] }
  | _ => none }
def fnExactNumberOfPolyRow : OpenClaim := { program := "ytdajffcljlmfpaa", sum := "b7b6de6aa94184a3c05b95267182258dabaf4dfd52bc5c9443c7ce979ca080e2", func := "loop.example/g01245/laws.FnExactNumberOfPoly", spec := "fnExactNumberOfPoly", plainKeys := false, apart := false }
def FnExactNumberOfPolySaid : Prop := fnExactNumberOfPolyRow.holds Try.pinned (OpenSpec.ofChange fnExactNumberOfPolySpec)

/-- ITS FALSE NEIGHBOUR: 'it returns false'. Refute it at one input. -/
def fnExactNumberOfPolyWrong : ChangeSpec := { name := "fnExactNumberOfPoly", fn := fun _ => fun
  | [d1, d2] => { results := [.lit (.bool false)], args := [d1, d2] }
  | _ => none }
def FnExactNumberOfPolyWrongFalsely : Prop := fnExactNumberOfPolyRow.holds Try.pinned (OpenSpec.ofChange fnExactNumberOfPolyWrong)

/-- 'laws.FnExactPolyOfNumber': WHATEVER THE INPUT: true; the input reads as it did. -/
def fnExactPolyOfNumberSpec : ChangeSpec := { name := "fnExactPolyOfNumber", fn := fun _ => fun
  | [d1, d2] => { results := [.lit (.bool true)], args := [d1, d2] }
  | _ => none }
def fnExactPolyOfNumberRow : OpenClaim := { program := "ytdajffcljlmfpaa", sum := "b7b6de6aa94184a3c05b95267182258dabaf4dfd52bc5c9443c7ce979ca080e2", func := "loop.example/g01245/laws.FnExactPolyOfNumber", spec := "fnExactPolyOfNumber", plainKeys := false, apart := false }
def FnExactPolyOfNumberSaid : Prop := fnExactPolyOfNumberRow.holds Try.pinned (OpenSpec.ofChange fnExactPolyOfNumberSpec)

/-- ITS FALSE NEIGHBOUR: 'it returns false'. Refute it at one input. -/
def fnExactPolyOfNumberWrong : ChangeSpec := { name := "fnExactPolyOfNumber", fn := fun _ => fun
  | [d1, d2] => { results := [.lit (.bool false)], args := [d1, d2] }
  | _ => none }
def FnExactPolyOfNumberWrongFalsely : Prop := fnExactPolyOfNumberRow.holds Try.pinned (OpenSpec.ofChange fnExactPolyOfNumberWrong)

/-- 'laws.FnExactPolyText': WHATEVER THE INPUT: true; the input reads as it did. -/
def fnExactPolyTextSpec : ChangeSpec := { name := "fnExactPolyText", fn := fun _ => fun
  | [d1, d2] => { results := [.lit (.bool true)], args := [d1, d2] }
  | _ => none }
def fnExactPolyTextRow : OpenClaim := { program := "ytdajffcljlmfpaa", sum := "b7b6de6aa94184a3c05b95267182258dabaf4dfd52bc5c9443c7ce979ca080e2", func := "loop.example/g01245/laws.FnExactPolyText", spec := "fnExactPolyText", plainKeys := false, apart := false }
def FnExactPolyTextSaid : Prop := fnExactPolyTextRow.holds Try.pinned (OpenSpec.ofChange fnExactPolyTextSpec)

/-- ITS FALSE NEIGHBOUR: 'it returns false'. Refute it at one input. -/
def fnExactPolyTextWrong : ChangeSpec := { name := "fnExactPolyText", fn := fun _ => fun
  | [d1, d2] => { results := [.lit (.bool false)], args := [d1, d2] }
  | _ => none }
def FnExactPolyTextWrongFalsely : Prop := fnExactPolyTextRow.holds Try.pinned (OpenSpec.ofChange fnExactPolyTextWrong)

/-- 'laws.FnExactParsePoly': WHATEVER THE INPUT: true; the input reads as it did. -/
def fnExactParsePolySpec : ChangeSpec := { name := "fnExactParsePoly", fn := fun _ => fun
  | [d1, d2] => { results := [.lit (.bool true)], args := [d1, d2] }
  | _ => none }
def fnExactParsePolyRow : OpenClaim := { program := "ytdajffcljlmfpaa", sum := "b7b6de6aa94184a3c05b95267182258dabaf4dfd52bc5c9443c7ce979ca080e2", func := "loop.example/g01245/laws.FnExactParsePoly", spec := "fnExactParsePoly", plainKeys := false, apart := false }
def FnExactParsePolySaid : Prop := fnExactParsePolyRow.holds Try.pinned (OpenSpec.ofChange fnExactParsePolySpec)

/-- ITS FALSE NEIGHBOUR: 'it returns false'. Refute it at one input. -/
def fnExactParsePolyWrong : ChangeSpec := { name := "fnExactParsePoly", fn := fun _ => fun
  | [d1, d2] => { results := [.lit (.bool false)], args := [d1, d2] }
  | _ => none }
def FnExactParsePolyWrongFalsely : Prop := fnExactParsePolyRow.holds Try.pinned (OpenSpec.ofChange fnExactParsePolyWrong)

/- THE SECOND FORM. 'bulk': how many values and letters a reading holds, each counted each time it is reached (what is shared counts as often as it is met; a slice's spare places count too). A statement '..UptoSaid' is the law's where the arguments, and the package variables that the reading takes, are together of bulk at most 1048576: NARROWER than '..Said'. Prove '..Said' where nothing that the law and all that it calls make is longer than what came in: it says more and counts as full. Else prove '..UptoSaid'. A law counts once. -/
mutual
def uptoBulk {H : Type} : DataW H → Nat
  | .lit (.string bytes) => bytes.length + 1
  | .lit _ => 1
  | .nil => 1
  | .ptr d => uptoBulk d + 1
  | .slice elems spare => uptoBulkAll elems + uptoBulkAll spare + 1
  | .agg parts => uptoBulkAll parts + 1
  | .iface _ d => uptoBulk d + 1
  | .map entries => uptoBulkEntries entries + 1
  | .held _ => 1
def uptoBulkAll {H : Type} : List (DataW H) → Nat
  | [] => 0
  | d :: r => uptoBulk d + uptoBulkAll r
def uptoBulkEntries {H : Type} : List (Lit × DataW H) → Nat
  | [] => 0
  | x :: r => uptoBulkEntry x + uptoBulkEntries r
def uptoBulkEntry {H : Type} : Lit × DataW H → Nat
  | (.string bytes, d) => bytes.length + uptoBulk d + 1
  | (_, d) => uptoBulk d + 1
 end
def uptoSmall : (H : Type) → List (DataW H) → Bool := fun _ ds => decide (uptoBulkAll ds ≤ 1048576)
def OpenSpec.upto (s : _root_.Go.ChangeSpec) : _root_.Go.OpenSpec := { _root_.Go.OpenSpec.ofChange s with cond := some uptoSmall }

/-- 'laws.FnPolys', WHERE WHAT IT READS IS OF BULK AT MOST 1048576: true; the input reads as it did. -/
def fnPolysUptoRow : OpenClaim := { program := "ytdajffcljlmfpaa", sum := "b7b6de6aa94184a3c05b95267182258dabaf4dfd52bc5c9443c7ce979ca080e2", func := "loop.example/g01245/laws.FnPolys", spec := "fnPolys", plainKeys := false, apart := false, narrowed := true }
def FnPolysUptoSaid : Prop := fnPolysUptoRow.holds Try.pinned (OpenSpec.upto fnPolysSpec)

/-- 'laws.FnDivisors', WHERE WHAT IT READS IS OF BULK AT MOST 1048576: true; the input reads as it did. -/
def fnDivisorsUptoRow : OpenClaim := { program := "ytdajffcljlmfpaa", sum := "b7b6de6aa94184a3c05b95267182258dabaf4dfd52bc5c9443c7ce979ca080e2", func := "loop.example/g01245/laws.FnDivisors", spec := "fnDivisors", plainKeys := false, apart := false, narrowed := true }
def FnDivisorsUptoSaid : Prop := fnDivisorsUptoRow.holds Try.pinned (OpenSpec.upto fnDivisorsSpec)

/-- 'laws.FnPowers', WHERE WHAT IT READS IS OF BULK AT MOST 1048576: true; the input reads as it did. -/
def fnPowersUptoRow : OpenClaim := { program := "ytdajffcljlmfpaa", sum := "b7b6de6aa94184a3c05b95267182258dabaf4dfd52bc5c9443c7ce979ca080e2", func := "loop.example/g01245/laws.FnPowers", spec := "fnPowers", unfollowed := true, recurses := true, plainKeys := false, apart := false, narrowed := true }
def FnPowersUptoSaid : Prop := fnPowersUptoRow.holds Try.pinned (OpenSpec.upto fnPowersSpec)

/-- 'laws.FnExactIsPoly', WHERE WHAT IT READS IS OF BULK AT MOST 1048576: true; the input reads as it did. -/
def fnExactIsPolyUptoRow : OpenClaim := { program := "ytdajffcljlmfpaa", sum := "b7b6de6aa94184a3c05b95267182258dabaf4dfd52bc5c9443c7ce979ca080e2", func := "loop.example/g01245/laws.FnExactIsPoly", spec := "fnExactIsPoly", plainKeys := false, apart := false, narrowed := true }
def FnExactIsPolyUptoSaid : Prop := fnExactIsPolyUptoRow.holds Try.pinned (OpenSpec.upto fnExactIsPolySpec)

/-- 'laws.FnExactDegreeOf', WHERE WHAT IT READS IS OF BULK AT MOST 1048576: true; the input reads as it did. -/
def fnExactDegreeOfUptoRow : OpenClaim := { program := "ytdajffcljlmfpaa", sum := "b7b6de6aa94184a3c05b95267182258dabaf4dfd52bc5c9443c7ce979ca080e2", func := "loop.example/g01245/laws.FnExactDegreeOf", spec := "fnExactDegreeOf", plainKeys := false, apart := false, narrowed := true }
def FnExactDegreeOfUptoSaid : Prop := fnExactDegreeOfUptoRow.holds Try.pinned (OpenSpec.upto fnExactDegreeOfSpec)

/-- 'laws.FnExactAddPolys', WHERE WHAT IT READS IS OF BULK AT MOST 1048576: true; the input reads as it did. -/
def fnExactAddPolysUptoRow : OpenClaim := { program := "ytdajffcljlmfpaa", sum := "b7b6de6aa94184a3c05b95267182258dabaf4dfd52bc5c9443c7ce979ca080e2", func := "loop.example/g01245/laws.FnExactAddPolys", spec := "fnExactAddPolys", plainKeys := false, apart := false, narrowed := true }
def FnExactAddPolysUptoSaid : Prop := fnExactAddPolysUptoRow.holds Try.pinned (OpenSpec.upto fnExactAddPolysSpec)

/-- 'laws.FnExactSubtractPolys', WHERE WHAT IT READS IS OF BULK AT MOST 1048576: true; the input reads as it did. -/
def fnExactSubtractPolysUptoRow : OpenClaim := { program := "ytdajffcljlmfpaa", sum := "b7b6de6aa94184a3c05b95267182258dabaf4dfd52bc5c9443c7ce979ca080e2", func := "loop.example/g01245/laws.FnExactSubtractPolys", spec := "fnExactSubtractPolys", plainKeys := false, apart := false, narrowed := true }
def FnExactSubtractPolysUptoSaid : Prop := fnExactSubtractPolysUptoRow.holds Try.pinned (OpenSpec.upto fnExactSubtractPolysSpec)

/-- 'laws.FnExactMultiplyPolys', WHERE WHAT IT READS IS OF BULK AT MOST 1048576: true; the input reads as it did. -/
def fnExactMultiplyPolysUptoRow : OpenClaim := { program := "ytdajffcljlmfpaa", sum := "b7b6de6aa94184a3c05b95267182258dabaf4dfd52bc5c9443c7ce979ca080e2", func := "loop.example/g01245/laws.FnExactMultiplyPolys", spec := "fnExactMultiplyPolys", plainKeys := false, apart := false, narrowed := true }
def FnExactMultiplyPolysUptoSaid : Prop := fnExactMultiplyPolysUptoRow.holds Try.pinned (OpenSpec.upto fnExactMultiplyPolysSpec)

/-- 'laws.FnExactDividePolys', WHERE WHAT IT READS IS OF BULK AT MOST 1048576: true; the input reads as it did. -/
def fnExactDividePolysUptoRow : OpenClaim := { program := "ytdajffcljlmfpaa", sum := "b7b6de6aa94184a3c05b95267182258dabaf4dfd52bc5c9443c7ce979ca080e2", func := "loop.example/g01245/laws.FnExactDividePolys", spec := "fnExactDividePolys", plainKeys := false, apart := false, narrowed := true }
def FnExactDividePolysUptoSaid : Prop := fnExactDividePolysUptoRow.holds Try.pinned (OpenSpec.upto fnExactDividePolysSpec)

/-- 'laws.FnExactGcdOf', WHERE WHAT IT READS IS OF BULK AT MOST 1048576: true; the input reads as it did. -/
def fnExactGcdOfUptoRow : OpenClaim := { program := "ytdajffcljlmfpaa", sum := "b7b6de6aa94184a3c05b95267182258dabaf4dfd52bc5c9443c7ce979ca080e2", func := "loop.example/g01245/laws.FnExactGcdOf", spec := "fnExactGcdOf", plainKeys := false, apart := false, narrowed := true }
def FnExactGcdOfUptoSaid : Prop := fnExactGcdOfUptoRow.holds Try.pinned (OpenSpec.upto fnExactGcdOfSpec)

/-- 'laws.FnExactBezoutOf', WHERE WHAT IT READS IS OF BULK AT MOST 1048576: true; the input reads as it did. -/
def fnExactBezoutOfUptoRow : OpenClaim := { program := "ytdajffcljlmfpaa", sum := "b7b6de6aa94184a3c05b95267182258dabaf4dfd52bc5c9443c7ce979ca080e2", func := "loop.example/g01245/laws.FnExactBezoutOf", spec := "fnExactBezoutOf", plainKeys := false, apart := false, narrowed := true }
def FnExactBezoutOfUptoSaid : Prop := fnExactBezoutOfUptoRow.holds Try.pinned (OpenSpec.upto fnExactBezoutOfSpec)

/-- 'laws.FnExactValueAt', WHERE WHAT IT READS IS OF BULK AT MOST 1048576: true; the input reads as it did. -/
def fnExactValueAtUptoRow : OpenClaim := { program := "ytdajffcljlmfpaa", sum := "b7b6de6aa94184a3c05b95267182258dabaf4dfd52bc5c9443c7ce979ca080e2", func := "loop.example/g01245/laws.FnExactValueAt", spec := "fnExactValueAt", plainKeys := false, apart := false, narrowed := true }
def FnExactValueAtUptoSaid : Prop := fnExactValueAtUptoRow.holds Try.pinned (OpenSpec.upto fnExactValueAtSpec)

/-- 'laws.FnExactRootsOf', WHERE WHAT IT READS IS OF BULK AT MOST 1048576: true; the input reads as it did. -/
def fnExactRootsOfUptoRow : OpenClaim := { program := "ytdajffcljlmfpaa", sum := "b7b6de6aa94184a3c05b95267182258dabaf4dfd52bc5c9443c7ce979ca080e2", func := "loop.example/g01245/laws.FnExactRootsOf", spec := "fnExactRootsOf", plainKeys := false, apart := false, narrowed := true }
def FnExactRootsOfUptoSaid : Prop := fnExactRootsOfUptoRow.holds Try.pinned (OpenSpec.upto fnExactRootsOfSpec)

/-- 'laws.FnExactDerivativeOf', WHERE WHAT IT READS IS OF BULK AT MOST 1048576: true; the input reads as it did. -/
def fnExactDerivativeOfUptoRow : OpenClaim := { program := "ytdajffcljlmfpaa", sum := "b7b6de6aa94184a3c05b95267182258dabaf4dfd52bc5c9443c7ce979ca080e2", func := "loop.example/g01245/laws.FnExactDerivativeOf", spec := "fnExactDerivativeOf", plainKeys := false, apart := false, narrowed := true }
def FnExactDerivativeOfUptoSaid : Prop := fnExactDerivativeOfUptoRow.holds Try.pinned (OpenSpec.upto fnExactDerivativeOfSpec)

/-- 'laws.FnExactPowerOf', WHERE WHAT IT READS IS OF BULK AT MOST 1048576: true; the input reads as it did. -/
def fnExactPowerOfUptoRow : OpenClaim := { program := "ytdajffcljlmfpaa", sum := "b7b6de6aa94184a3c05b95267182258dabaf4dfd52bc5c9443c7ce979ca080e2", func := "loop.example/g01245/laws.FnExactPowerOf", spec := "fnExactPowerOf", unfollowed := true, recurses := true, plainKeys := false, apart := false, narrowed := true }
def FnExactPowerOfUptoSaid : Prop := fnExactPowerOfUptoRow.holds Try.pinned (OpenSpec.upto fnExactPowerOfSpec)

/-- 'laws.FnExactPowerModulo', WHERE WHAT IT READS IS OF BULK AT MOST 1048576: true; the input reads as it did. -/
def fnExactPowerModuloUptoRow : OpenClaim := { program := "ytdajffcljlmfpaa", sum := "b7b6de6aa94184a3c05b95267182258dabaf4dfd52bc5c9443c7ce979ca080e2", func := "loop.example/g01245/laws.FnExactPowerModulo", spec := "fnExactPowerModulo", unfollowed := true, recurses := true, plainKeys := false, apart := false, narrowed := true }
def FnExactPowerModuloUptoSaid : Prop := fnExactPowerModuloUptoRow.holds Try.pinned (OpenSpec.upto fnExactPowerModuloSpec)

/-- 'laws.FnExactComposePolys', WHERE WHAT IT READS IS OF BULK AT MOST 1048576: true; the input reads as it did. -/
def fnExactComposePolysUptoRow : OpenClaim := { program := "ytdajffcljlmfpaa", sum := "b7b6de6aa94184a3c05b95267182258dabaf4dfd52bc5c9443c7ce979ca080e2", func := "loop.example/g01245/laws.FnExactComposePolys", spec := "fnExactComposePolys", plainKeys := false, apart := false, narrowed := true }
def FnExactComposePolysUptoSaid : Prop := fnExactComposePolysUptoRow.holds Try.pinned (OpenSpec.upto fnExactComposePolysSpec)

/-- 'laws.FnExactMonicPolys', WHERE WHAT IT READS IS OF BULK AT MOST 1048576: true; the input reads as it did. -/
def fnExactMonicPolysUptoRow : OpenClaim := { program := "ytdajffcljlmfpaa", sum := "b7b6de6aa94184a3c05b95267182258dabaf4dfd52bc5c9443c7ce979ca080e2", func := "loop.example/g01245/laws.FnExactMonicPolys", spec := "fnExactMonicPolys", plainKeys := false, apart := false, narrowed := true }
def FnExactMonicPolysUptoSaid : Prop := fnExactMonicPolysUptoRow.holds Try.pinned (OpenSpec.upto fnExactMonicPolysSpec)

/-- 'laws.FnExactNumberOfPoly', WHERE WHAT IT READS IS OF BULK AT MOST 1048576: true; the input reads as it did. -/
def fnExactNumberOfPolyUptoRow : OpenClaim := { program := "ytdajffcljlmfpaa", sum := "b7b6de6aa94184a3c05b95267182258dabaf4dfd52bc5c9443c7ce979ca080e2", func := "loop.example/g01245/laws.FnExactNumberOfPoly", spec := "fnExactNumberOfPoly", plainKeys := false, apart := false, narrowed := true }
def FnExactNumberOfPolyUptoSaid : Prop := fnExactNumberOfPolyUptoRow.holds Try.pinned (OpenSpec.upto fnExactNumberOfPolySpec)

/-- 'laws.FnExactPolyOfNumber', WHERE WHAT IT READS IS OF BULK AT MOST 1048576: true; the input reads as it did. -/
def fnExactPolyOfNumberUptoRow : OpenClaim := { program := "ytdajffcljlmfpaa", sum := "b7b6de6aa94184a3c05b95267182258dabaf4dfd52bc5c9443c7ce979ca080e2", func := "loop.example/g01245/laws.FnExactPolyOfNumber", spec := "fnExactPolyOfNumber", plainKeys := false, apart := false, narrowed := true }
def FnExactPolyOfNumberUptoSaid : Prop := fnExactPolyOfNumberUptoRow.holds Try.pinned (OpenSpec.upto fnExactPolyOfNumberSpec)

/-- 'laws.FnExactPolyText', WHERE WHAT IT READS IS OF BULK AT MOST 1048576: true; the input reads as it did. -/
def fnExactPolyTextUptoRow : OpenClaim := { program := "ytdajffcljlmfpaa", sum := "b7b6de6aa94184a3c05b95267182258dabaf4dfd52bc5c9443c7ce979ca080e2", func := "loop.example/g01245/laws.FnExactPolyText", spec := "fnExactPolyText", plainKeys := false, apart := false, narrowed := true }
def FnExactPolyTextUptoSaid : Prop := fnExactPolyTextUptoRow.holds Try.pinned (OpenSpec.upto fnExactPolyTextSpec)

/-- 'laws.FnExactParsePoly', WHERE WHAT IT READS IS OF BULK AT MOST 1048576: true; the input reads as it did. -/
def fnExactParsePolyUptoRow : OpenClaim := { program := "ytdajffcljlmfpaa", sum := "b7b6de6aa94184a3c05b95267182258dabaf4dfd52bc5c9443c7ce979ca080e2", func := "loop.example/g01245/laws.FnExactParsePoly", spec := "fnExactParsePoly", plainKeys := false, apart := false, narrowed := true }
def FnExactParsePolyUptoSaid : Prop := fnExactParsePolyUptoRow.holds Try.pinned (OpenSpec.upto fnExactParsePolySpec)

end Rows
end Go.Proofs.Ytdajffcljlmfpaa
