/-
  No cell of these rows narrows 'for every input' (looked for: loops, veiled, ifaces, maps, wideKeys, modest, calm, conditions, laid).
  DERIVED. THE GIVEN ROWS OF THIS SEAT. 20 by the template 'for every input the law returns true; each argument reads behind the call as it read before'; 0 by the template 'total and deterministic' (their statements: YtbjpkmbhbpcbgaaTotals.lean).
  GIVEN WITH THE SEED: the statements are not yours to turn. If you find one false, say at which input.
  Laid BY PROGRAM, IN A SANDBOX (cutbox-rows.mjs): the forced cells as the released guide's own fill.sh prints them over the translation c8a49bb641b14db8… (all of the seat's roots in one cut). By AI agents, Wed Nov 11 2026. No macro, syntax, notation, axiom, sorry.
-/
import Derived.Test.YtbjpkmbhbpcbgaaChecked
import GoSem.Claim
import GoSem.ClaimJoined
import GoSem.ClaimMapViews
import Derived.JoinedTies
import Derived.KernelRfl
namespace Go.Proofs.Ytbjpkmbhbpcbgaa
/- THE CELL 'sum', in the pinned program and in every row, IS THE sha256 OF THE DUMP (.gsa) THAT YtbjpkmbhbpcbgaaProg.lean LOADS. Nothing in Lean hashes anything: it is a label: what it is worth is what the hold of that sum in a sandbox is worth. -/
noncomputable def Try.pinned : Pinned := { name := "ytbjpkmbhbpcbgaa", sum := "c8a49bb641b14db86c9d7b32644c5d03429e544296cb822c0f44c263a5c29903", checked := Try.checked }
namespace Rows
def none {H : Type} : Left H := { results := [], args := [] }

/-- 'laws.FnExactPowerOf': WHATEVER THE INPUT: true; the input reads as it did. -/
def fnExactPowerOfSpec : ChangeSpec := { name := "fnExactPowerOf", fn := fun _ => fun
  | [d1, d2, d3] => { results := [.lit (.bool true)], args := [d1, d2, d3] }
  | _ => none }
def fnExactPowerOfRow : OpenClaim := { program := "ytbjpkmbhbpcbgaa", sum := "c8a49bb641b14db86c9d7b32644c5d03429e544296cb822c0f44c263a5c29903", func := "loop.example/g01245/laws.FnExactPowerOf", spec := "fnExactPowerOf", unfollowed := true, recurses := true, plainKeys := false, apart := false }
def FnExactPowerOfSaid : Prop := fnExactPowerOfRow.holds Try.pinned (OpenSpec.ofChange fnExactPowerOfSpec)

/-- ITS FALSE NEIGHBOUR: 'it returns false'. Refute it at one input. -/
def fnExactPowerOfWrong : ChangeSpec := { name := "fnExactPowerOf", fn := fun _ => fun
  | [d1, d2, d3] => { results := [.lit (.bool false)], args := [d1, d2, d3] }
  | _ => none }
def FnExactPowerOfWrongFalsely : Prop := fnExactPowerOfRow.holds Try.pinned (OpenSpec.ofChange fnExactPowerOfWrong)

/-- 'laws.FnExactPrimitiveOf': WHATEVER THE INPUT: true; the input reads as it did. -/
def fnExactPrimitiveOfSpec : ChangeSpec := { name := "fnExactPrimitiveOf", fn := fun _ => fun
  | [d1, d2] => { results := [.lit (.bool true)], args := [d1, d2] }
  | _ => none }
def fnExactPrimitiveOfRow : OpenClaim := { program := "ytbjpkmbhbpcbgaa", sum := "c8a49bb641b14db86c9d7b32644c5d03429e544296cb822c0f44c263a5c29903", func := "loop.example/g01245/laws.FnExactPrimitiveOf", spec := "fnExactPrimitiveOf", unfollowed := true, recurses := true, plainKeys := false, apart := false }
def FnExactPrimitiveOfSaid : Prop := fnExactPrimitiveOfRow.holds Try.pinned (OpenSpec.ofChange fnExactPrimitiveOfSpec)

/-- ITS FALSE NEIGHBOUR: 'it returns false'. Refute it at one input. -/
def fnExactPrimitiveOfWrong : ChangeSpec := { name := "fnExactPrimitiveOf", fn := fun _ => fun
  | [d1, d2] => { results := [.lit (.bool false)], args := [d1, d2] }
  | _ => none }
def FnExactPrimitiveOfWrongFalsely : Prop := fnExactPrimitiveOfRow.holds Try.pinned (OpenSpec.ofChange fnExactPrimitiveOfWrong)

/-- 'laws.FnExactIsSkew': WHATEVER THE INPUT: true; the input reads as it did. -/
def fnExactIsSkewSpec : ChangeSpec := { name := "fnExactIsSkew", fn := fun _ => fun
  | [d1, d2, d3] => { results := [.lit (.bool true)], args := [d1, d2, d3] }
  | _ => none }
def fnExactIsSkewRow : OpenClaim := { program := "ytbjpkmbhbpcbgaa", sum := "c8a49bb641b14db86c9d7b32644c5d03429e544296cb822c0f44c263a5c29903", func := "loop.example/g01245/laws.FnExactIsSkew", spec := "fnExactIsSkew", unfollowed := true, recurses := true, plainKeys := false, apart := false }
def FnExactIsSkewSaid : Prop := fnExactIsSkewRow.holds Try.pinned (OpenSpec.ofChange fnExactIsSkewSpec)

/-- ITS FALSE NEIGHBOUR: 'it returns false'. Refute it at one input. -/
def fnExactIsSkewWrong : ChangeSpec := { name := "fnExactIsSkew", fn := fun _ => fun
  | [d1, d2, d3] => { results := [.lit (.bool false)], args := [d1, d2, d3] }
  | _ => none }
def FnExactIsSkewWrongFalsely : Prop := fnExactIsSkewRow.holds Try.pinned (OpenSpec.ofChange fnExactIsSkewWrong)

/-- 'laws.FnExactSkewDegree': WHATEVER THE INPUT: true; the input reads as it did. -/
def fnExactSkewDegreeSpec : ChangeSpec := { name := "fnExactSkewDegree", fn := fun _ => fun
  | [d1, d2, d3] => { results := [.lit (.bool true)], args := [d1, d2, d3] }
  | _ => none }
def fnExactSkewDegreeRow : OpenClaim := { program := "ytbjpkmbhbpcbgaa", sum := "c8a49bb641b14db86c9d7b32644c5d03429e544296cb822c0f44c263a5c29903", func := "loop.example/g01245/laws.FnExactSkewDegree", spec := "fnExactSkewDegree", unfollowed := true, recurses := true, plainKeys := false, apart := false }
def FnExactSkewDegreeSaid : Prop := fnExactSkewDegreeRow.holds Try.pinned (OpenSpec.ofChange fnExactSkewDegreeSpec)

/-- ITS FALSE NEIGHBOUR: 'it returns false'. Refute it at one input. -/
def fnExactSkewDegreeWrong : ChangeSpec := { name := "fnExactSkewDegree", fn := fun _ => fun
  | [d1, d2, d3] => { results := [.lit (.bool false)], args := [d1, d2, d3] }
  | _ => none }
def FnExactSkewDegreeWrongFalsely : Prop := fnExactSkewDegreeRow.holds Try.pinned (OpenSpec.ofChange fnExactSkewDegreeWrong)

/-- 'laws.FnExactAddSkews': WHATEVER THE INPUT: true; the input reads as it did. -/
def fnExactAddSkewsSpec : ChangeSpec := { name := "fnExactAddSkews", fn := fun _ => fun
  | [d1, d2, d3, d4] => { results := [.lit (.bool true)], args := [d1, d2, d3, d4] }
  | _ => none }
def fnExactAddSkewsRow : OpenClaim := { program := "ytbjpkmbhbpcbgaa", sum := "c8a49bb641b14db86c9d7b32644c5d03429e544296cb822c0f44c263a5c29903", func := "loop.example/g01245/laws.FnExactAddSkews", spec := "fnExactAddSkews", unfollowed := true, recurses := true, plainKeys := false, apart := false }
def FnExactAddSkewsSaid : Prop := fnExactAddSkewsRow.holds Try.pinned (OpenSpec.ofChange fnExactAddSkewsSpec)

/-- ITS FALSE NEIGHBOUR: 'it returns false'. Refute it at one input. -/
def fnExactAddSkewsWrong : ChangeSpec := { name := "fnExactAddSkews", fn := fun _ => fun
  | [d1, d2, d3, d4] => { results := [.lit (.bool false)], args := [d1, d2, d3, d4] }
  | _ => none }
def FnExactAddSkewsWrongFalsely : Prop := fnExactAddSkewsRow.holds Try.pinned (OpenSpec.ofChange fnExactAddSkewsWrong)

/-- 'laws.FnExactMultiplySkews': WHATEVER THE INPUT: true; the input reads as it did. -/
def fnExactMultiplySkewsSpec : ChangeSpec := { name := "fnExactMultiplySkews", fn := fun _ => fun
  | [d1, d2, d3, d4] => { results := [.lit (.bool true)], args := [d1, d2, d3, d4] }
  | _ => none }
def fnExactMultiplySkewsRow : OpenClaim := { program := "ytbjpkmbhbpcbgaa", sum := "c8a49bb641b14db86c9d7b32644c5d03429e544296cb822c0f44c263a5c29903", func := "loop.example/g01245/laws.FnExactMultiplySkews", spec := "fnExactMultiplySkews", unfollowed := true, recurses := true, plainKeys := false, apart := false }
def FnExactMultiplySkewsSaid : Prop := fnExactMultiplySkewsRow.holds Try.pinned (OpenSpec.ofChange fnExactMultiplySkewsSpec)

/-- ITS FALSE NEIGHBOUR: 'it returns false'. Refute it at one input. -/
def fnExactMultiplySkewsWrong : ChangeSpec := { name := "fnExactMultiplySkews", fn := fun _ => fun
  | [d1, d2, d3, d4] => { results := [.lit (.bool false)], args := [d1, d2, d3, d4] }
  | _ => none }
def FnExactMultiplySkewsWrongFalsely : Prop := fnExactMultiplySkewsRow.holds Try.pinned (OpenSpec.ofChange fnExactMultiplySkewsWrong)

/-- 'laws.FnExactValueOfSkew': WHATEVER THE INPUT: true; the input reads as it did. -/
def fnExactValueOfSkewSpec : ChangeSpec := { name := "fnExactValueOfSkew", fn := fun _ => fun
  | [d1, d2, d3, d4] => { results := [.lit (.bool true)], args := [d1, d2, d3, d4] }
  | _ => none }
def fnExactValueOfSkewRow : OpenClaim := { program := "ytbjpkmbhbpcbgaa", sum := "c8a49bb641b14db86c9d7b32644c5d03429e544296cb822c0f44c263a5c29903", func := "loop.example/g01245/laws.FnExactValueOfSkew", spec := "fnExactValueOfSkew", unfollowed := true, recurses := true, plainKeys := false, apart := false }
def FnExactValueOfSkewSaid : Prop := fnExactValueOfSkewRow.holds Try.pinned (OpenSpec.ofChange fnExactValueOfSkewSpec)

/-- ITS FALSE NEIGHBOUR: 'it returns false'. Refute it at one input. -/
def fnExactValueOfSkewWrong : ChangeSpec := { name := "fnExactValueOfSkew", fn := fun _ => fun
  | [d1, d2, d3, d4] => { results := [.lit (.bool false)], args := [d1, d2, d3, d4] }
  | _ => none }
def FnExactValueOfSkewWrongFalsely : Prop := fnExactValueOfSkewRow.holds Try.pinned (OpenSpec.ofChange fnExactValueOfSkewWrong)

/-- 'laws.FnExactAddActions': WHATEVER THE INPUT: true; the input reads as it did. -/
def fnExactAddActionsSpec : ChangeSpec := { name := "fnExactAddActions", fn := fun _ => fun
  | [d1, d2, d3] => { results := [.lit (.bool true)], args := [d1, d2, d3] }
  | _ => none }
def fnExactAddActionsRow : OpenClaim := { program := "ytbjpkmbhbpcbgaa", sum := "c8a49bb641b14db86c9d7b32644c5d03429e544296cb822c0f44c263a5c29903", func := "loop.example/g01245/laws.FnExactAddActions", spec := "fnExactAddActions", plainKeys := false, apart := false }
def FnExactAddActionsSaid : Prop := fnExactAddActionsRow.holds Try.pinned (OpenSpec.ofChange fnExactAddActionsSpec)

/-- ITS FALSE NEIGHBOUR: 'it returns false'. Refute it at one input. -/
def fnExactAddActionsWrong : ChangeSpec := { name := "fnExactAddActions", fn := fun _ => fun
  | [d1, d2, d3] => { results := [.lit (.bool false)], args := [d1, d2, d3] }
  | _ => none }
def FnExactAddActionsWrongFalsely : Prop := fnExactAddActionsRow.holds Try.pinned (OpenSpec.ofChange fnExactAddActionsWrong)

/-- 'laws.FnExactActOnResidue': WHATEVER THE INPUT: true; the input reads as it did. -/
def fnExactActOnResidueSpec : ChangeSpec := { name := "fnExactActOnResidue", fn := fun _ => fun
  | [d1, d2, d3, d4] => { results := [.lit (.bool true)], args := [d1, d2, d3, d4] }
  | _ => none }
def fnExactActOnResidueRow : OpenClaim := { program := "ytbjpkmbhbpcbgaa", sum := "c8a49bb641b14db86c9d7b32644c5d03429e544296cb822c0f44c263a5c29903", func := "loop.example/g01245/laws.FnExactActOnResidue", spec := "fnExactActOnResidue", unfollowed := true, recurses := true, plainKeys := false, apart := false }
def FnExactActOnResidueSaid : Prop := fnExactActOnResidueRow.holds Try.pinned (OpenSpec.ofChange fnExactActOnResidueSpec)

/-- ITS FALSE NEIGHBOUR: 'it returns false'. Refute it at one input. -/
def fnExactActOnResidueWrong : ChangeSpec := { name := "fnExactActOnResidue", fn := fun _ => fun
  | [d1, d2, d3, d4] => { results := [.lit (.bool false)], args := [d1, d2, d3, d4] }
  | _ => none }
def FnExactActOnResidueWrongFalsely : Prop := fnExactActOnResidueRow.holds Try.pinned (OpenSpec.ofChange fnExactActOnResidueWrong)

/-- 'laws.FnExactAnnihilatorOf': WHATEVER THE INPUT: true; the input reads as it did. -/
def fnExactAnnihilatorOfSpec : ChangeSpec := { name := "fnExactAnnihilatorOf", fn := fun _ => fun
  | [d1, d2, d3] => { results := [.lit (.bool true)], args := [d1, d2, d3] }
  | _ => none }
def fnExactAnnihilatorOfRow : OpenClaim := { program := "ytbjpkmbhbpcbgaa", sum := "c8a49bb641b14db86c9d7b32644c5d03429e544296cb822c0f44c263a5c29903", func := "loop.example/g01245/laws.FnExactAnnihilatorOf", spec := "fnExactAnnihilatorOf", unfollowed := true, recurses := true, plainKeys := false, apart := false }
def FnExactAnnihilatorOfSaid : Prop := fnExactAnnihilatorOfRow.holds Try.pinned (OpenSpec.ofChange fnExactAnnihilatorOfSpec)

/-- ITS FALSE NEIGHBOUR: 'it returns false'. Refute it at one input. -/
def fnExactAnnihilatorOfWrong : ChangeSpec := { name := "fnExactAnnihilatorOf", fn := fun _ => fun
  | [d1, d2, d3] => { results := [.lit (.bool false)], args := [d1, d2, d3] }
  | _ => none }
def FnExactAnnihilatorOfWrongFalsely : Prop := fnExactAnnihilatorOfRow.holds Try.pinned (OpenSpec.ofChange fnExactAnnihilatorOfWrong)

/-- 'laws.FnExactExponentOf': WHATEVER THE INPUT: true; the input reads as it did. -/
def fnExactExponentOfSpec : ChangeSpec := { name := "fnExactExponentOf", fn := fun _ => fun
  | [d1, d2] => { results := [.lit (.bool true)], args := [d1, d2] }
  | _ => none }
def fnExactExponentOfRow : OpenClaim := { program := "ytbjpkmbhbpcbgaa", sum := "c8a49bb641b14db86c9d7b32644c5d03429e544296cb822c0f44c263a5c29903", func := "loop.example/g01245/laws.FnExactExponentOf", spec := "fnExactExponentOf", unfollowed := true, recurses := true, plainKeys := false, apart := false }
def FnExactExponentOfSaid : Prop := fnExactExponentOfRow.holds Try.pinned (OpenSpec.ofChange fnExactExponentOfSpec)

/-- ITS FALSE NEIGHBOUR: 'it returns false'. Refute it at one input. -/
def fnExactExponentOfWrong : ChangeSpec := { name := "fnExactExponentOf", fn := fun _ => fun
  | [d1, d2] => { results := [.lit (.bool false)], args := [d1, d2] }
  | _ => none }
def FnExactExponentOfWrongFalsely : Prop := fnExactExponentOfRow.holds Try.pinned (OpenSpec.ofChange fnExactExponentOfWrong)

/-- 'laws.FnExactTorsionNumber': WHATEVER THE INPUT: true; the input reads as it did. -/
def fnExactTorsionNumberSpec : ChangeSpec := { name := "fnExactTorsionNumber", fn := fun _ => fun
  | [d1, d2, d3] => { results := [.lit (.bool true)], args := [d1, d2, d3] }
  | _ => none }
def fnExactTorsionNumberRow : OpenClaim := { program := "ytbjpkmbhbpcbgaa", sum := "c8a49bb641b14db86c9d7b32644c5d03429e544296cb822c0f44c263a5c29903", func := "loop.example/g01245/laws.FnExactTorsionNumber", spec := "fnExactTorsionNumber", unfollowed := true, recurses := true, plainKeys := false, apart := false }
def FnExactTorsionNumberSaid : Prop := fnExactTorsionNumberRow.holds Try.pinned (OpenSpec.ofChange fnExactTorsionNumberSpec)

/-- ITS FALSE NEIGHBOUR: 'it returns false'. Refute it at one input. -/
def fnExactTorsionNumberWrong : ChangeSpec := { name := "fnExactTorsionNumber", fn := fun _ => fun
  | [d1, d2, d3] => { results := [.lit (.bool false)], args := [d1, d2, d3] }
  | _ => none }
def FnExactTorsionNumberWrongFalsely : Prop := fnExactTorsionNumberRow.holds Try.pinned (OpenSpec.ofChange fnExactTorsionNumberWrong)

/-- 'laws.FnExactDeepRest': WHATEVER THE INPUT: true; the input reads as it did. -/
def fnExactDeepRestSpec : ChangeSpec := { name := "fnExactDeepRest", fn := fun _ => fun
  | [d1, d2, d3] => { results := [.lit (.bool true)], args := [d1, d2, d3] }
  | _ => none }
def fnExactDeepRestRow : OpenClaim := { program := "ytbjpkmbhbpcbgaa", sum := "c8a49bb641b14db86c9d7b32644c5d03429e544296cb822c0f44c263a5c29903", func := "loop.example/g01245/laws.FnExactDeepRest", spec := "fnExactDeepRest", unfollowed := true, recurses := true, plainKeys := false, apart := false }
def FnExactDeepRestSaid : Prop := fnExactDeepRestRow.holds Try.pinned (OpenSpec.ofChange fnExactDeepRestSpec)

/-- ITS FALSE NEIGHBOUR: 'it returns false'. Refute it at one input. -/
def fnExactDeepRestWrong : ChangeSpec := { name := "fnExactDeepRest", fn := fun _ => fun
  | [d1, d2, d3] => { results := [.lit (.bool false)], args := [d1, d2, d3] }
  | _ => none }
def FnExactDeepRestWrongFalsely : Prop := fnExactDeepRestRow.holds Try.pinned (OpenSpec.ofChange fnExactDeepRestWrong)

/-- 'laws.FnExactBracketOf': WHATEVER THE INPUT: true; the input reads as it did. -/
def fnExactBracketOfSpec : ChangeSpec := { name := "fnExactBracketOf", fn := fun _ => fun
  | [d1, d2] => { results := [.lit (.bool true)], args := [d1, d2] }
  | _ => none }
def fnExactBracketOfRow : OpenClaim := { program := "ytbjpkmbhbpcbgaa", sum := "c8a49bb641b14db86c9d7b32644c5d03429e544296cb822c0f44c263a5c29903", func := "loop.example/g01245/laws.FnExactBracketOf", spec := "fnExactBracketOf", unfollowed := true, recurses := true, plainKeys := false, apart := false }
def FnExactBracketOfSaid : Prop := fnExactBracketOfRow.holds Try.pinned (OpenSpec.ofChange fnExactBracketOfSpec)

/-- ITS FALSE NEIGHBOUR: 'it returns false'. Refute it at one input. -/
def fnExactBracketOfWrong : ChangeSpec := { name := "fnExactBracketOf", fn := fun _ => fun
  | [d1, d2] => { results := [.lit (.bool false)], args := [d1, d2] }
  | _ => none }
def FnExactBracketOfWrongFalsely : Prop := fnExactBracketOfRow.holds Try.pinned (OpenSpec.ofChange fnExactBracketOfWrong)

/-- 'laws.FnExactFirstFactorial': WHATEVER THE INPUT: true; the input reads as it did. -/
def fnExactFirstFactorialSpec : ChangeSpec := { name := "fnExactFirstFactorial", fn := fun _ => fun
  | [d1, d2] => { results := [.lit (.bool true)], args := [d1, d2] }
  | _ => none }
def fnExactFirstFactorialRow : OpenClaim := { program := "ytbjpkmbhbpcbgaa", sum := "c8a49bb641b14db86c9d7b32644c5d03429e544296cb822c0f44c263a5c29903", func := "loop.example/g01245/laws.FnExactFirstFactorial", spec := "fnExactFirstFactorial", unfollowed := true, recurses := true, plainKeys := false, apart := false }
def FnExactFirstFactorialSaid : Prop := fnExactFirstFactorialRow.holds Try.pinned (OpenSpec.ofChange fnExactFirstFactorialSpec)

/-- ITS FALSE NEIGHBOUR: 'it returns false'. Refute it at one input. -/
def fnExactFirstFactorialWrong : ChangeSpec := { name := "fnExactFirstFactorial", fn := fun _ => fun
  | [d1, d2] => { results := [.lit (.bool false)], args := [d1, d2] }
  | _ => none }
def FnExactFirstFactorialWrongFalsely : Prop := fnExactFirstFactorialRow.holds Try.pinned (OpenSpec.ofChange fnExactFirstFactorialWrong)

/-- 'laws.FnExactSecondFactorial': WHATEVER THE INPUT: true; the input reads as it did. -/
def fnExactSecondFactorialSpec : ChangeSpec := { name := "fnExactSecondFactorial", fn := fun _ => fun
  | [d1, d2] => { results := [.lit (.bool true)], args := [d1, d2] }
  | _ => none }
def fnExactSecondFactorialRow : OpenClaim := { program := "ytbjpkmbhbpcbgaa", sum := "c8a49bb641b14db86c9d7b32644c5d03429e544296cb822c0f44c263a5c29903", func := "loop.example/g01245/laws.FnExactSecondFactorial", spec := "fnExactSecondFactorial", unfollowed := true, recurses := true, plainKeys := false, apart := false }
def FnExactSecondFactorialSaid : Prop := fnExactSecondFactorialRow.holds Try.pinned (OpenSpec.ofChange fnExactSecondFactorialSpec)

/-- ITS FALSE NEIGHBOUR: 'it returns false'. Refute it at one input. -/
def fnExactSecondFactorialWrong : ChangeSpec := { name := "fnExactSecondFactorial", fn := fun _ => fun
  | [d1, d2] => { results := [.lit (.bool false)], args := [d1, d2] }
  | _ => none }
def FnExactSecondFactorialWrongFalsely : Prop := fnExactSecondFactorialRow.holds Try.pinned (OpenSpec.ofChange fnExactSecondFactorialWrong)

/-- 'laws.FnExactActionOf': WHATEVER THE INPUT: true; the input reads as it did. -/
def fnExactActionOfSpec : ChangeSpec := { name := "fnExactActionOf", fn := fun _ => fun
  | [d1, d2] => { results := [.lit (.bool true)], args := [d1, d2] }
  | _ => none }
def fnExactActionOfRow : OpenClaim := { program := "ytbjpkmbhbpcbgaa", sum := "c8a49bb641b14db86c9d7b32644c5d03429e544296cb822c0f44c263a5c29903", func := "loop.example/g01245/laws.FnExactActionOf", spec := "fnExactActionOf", unfollowed := true, recurses := true, plainKeys := false, apart := false }
def FnExactActionOfSaid : Prop := fnExactActionOfRow.holds Try.pinned (OpenSpec.ofChange fnExactActionOfSpec)

/-- ITS FALSE NEIGHBOUR: 'it returns false'. Refute it at one input. -/
def fnExactActionOfWrong : ChangeSpec := { name := "fnExactActionOf", fn := fun _ => fun
  | [d1, d2] => { results := [.lit (.bool false)], args := [d1, d2] }
  | _ => none }
def FnExactActionOfWrongFalsely : Prop := fnExactActionOfRow.holds Try.pinned (OpenSpec.ofChange fnExactActionOfWrong)

/-- 'laws.FnExactComposeActions': WHATEVER THE INPUT: true; the input reads as it did. -/
def fnExactComposeActionsSpec : ChangeSpec := { name := "fnExactComposeActions", fn := fun _ => fun
  | [d1, d2, d3] => { results := [.lit (.bool true)], args := [d1, d2, d3] }
  | _ => none }
def fnExactComposeActionsRow : OpenClaim := { program := "ytbjpkmbhbpcbgaa", sum := "c8a49bb641b14db86c9d7b32644c5d03429e544296cb822c0f44c263a5c29903", func := "loop.example/g01245/laws.FnExactComposeActions", spec := "fnExactComposeActions", unfollowed := true, recurses := true, plainKeys := false, apart := false }
def FnExactComposeActionsSaid : Prop := fnExactComposeActionsRow.holds Try.pinned (OpenSpec.ofChange fnExactComposeActionsSpec)

/-- ITS FALSE NEIGHBOUR: 'it returns false'. Refute it at one input. -/
def fnExactComposeActionsWrong : ChangeSpec := { name := "fnExactComposeActions", fn := fun _ => fun
  | [d1, d2, d3] => { results := [.lit (.bool false)], args := [d1, d2, d3] }
  | _ => none }
def FnExactComposeActionsWrongFalsely : Prop := fnExactComposeActionsRow.holds Try.pinned (OpenSpec.ofChange fnExactComposeActionsWrong)

/-- 'laws.FnExactBinomialOf': WHATEVER THE INPUT: true; the input reads as it did. -/
def fnExactBinomialOfSpec : ChangeSpec := { name := "fnExactBinomialOf", fn := fun _ => fun
  | [d1, d2, d3] => { results := [.lit (.bool true)], args := [d1, d2, d3] }
  | _ => none }
def fnExactBinomialOfRow : OpenClaim := { program := "ytbjpkmbhbpcbgaa", sum := "c8a49bb641b14db86c9d7b32644c5d03429e544296cb822c0f44c263a5c29903", func := "loop.example/g01245/laws.FnExactBinomialOf", spec := "fnExactBinomialOf", unfollowed := true, recurses := true, plainKeys := false, apart := false }
def FnExactBinomialOfSaid : Prop := fnExactBinomialOfRow.holds Try.pinned (OpenSpec.ofChange fnExactBinomialOfSpec)

/-- ITS FALSE NEIGHBOUR: 'it returns false'. Refute it at one input. -/
def fnExactBinomialOfWrong : ChangeSpec := { name := "fnExactBinomialOf", fn := fun _ => fun
  | [d1, d2, d3] => { results := [.lit (.bool false)], args := [d1, d2, d3] }
  | _ => none }
def FnExactBinomialOfWrongFalsely : Prop := fnExactBinomialOfRow.holds Try.pinned (OpenSpec.ofChange fnExactBinomialOfWrong)

/-- 'laws.FnExactCarlitzFactorial': WHATEVER THE INPUT: true; the input reads as it did. -/
def fnExactCarlitzFactorialSpec : ChangeSpec := { name := "fnExactCarlitzFactorial", fn := fun _ => fun
  | [d1, d2] => { results := [.lit (.bool true)], args := [d1, d2] }
  | _ => none }
def fnExactCarlitzFactorialRow : OpenClaim := { program := "ytbjpkmbhbpcbgaa", sum := "c8a49bb641b14db86c9d7b32644c5d03429e544296cb822c0f44c263a5c29903", func := "loop.example/g01245/laws.FnExactCarlitzFactorial", spec := "fnExactCarlitzFactorial", unfollowed := true, recurses := true, plainKeys := false, apart := false }
def FnExactCarlitzFactorialSaid : Prop := fnExactCarlitzFactorialRow.holds Try.pinned (OpenSpec.ofChange fnExactCarlitzFactorialSpec)

/-- ITS FALSE NEIGHBOUR: 'it returns false'. Refute it at one input. -/
def fnExactCarlitzFactorialWrong : ChangeSpec := { name := "fnExactCarlitzFactorial", fn := fun _ => fun
  | [d1, d2] => { results := [.lit (.bool false)], args := [d1, d2] }
  | _ => none }
def FnExactCarlitzFactorialWrongFalsely : Prop := fnExactCarlitzFactorialRow.holds Try.pinned (OpenSpec.ofChange fnExactCarlitzFactorialWrong)

/- THE SECOND FORM. 'bulk': how many values and letters a reading holds, each counted each time it is reached (what is shared counts as often as it is met; a slice's spare places count too). A statement '..UptoSaid' is the law's where the arguments, and the package variables that the reading takes, are together of bulk at most 1048576: NARROWER than '..Said'. Prove '..Said' where nothing that the law and all that it calls make is longer than what came in: it says more and counts as full. Else prove '..UptoSaid'. A law counts once. -/
mutual
def uptoBulk {H : Type} : DataW H → Nat
  | .lit (.string bytes) => bytes.length + 1
  | .lit _ => 1
  | .nil => 1
  | .ptr d => uptoBulk d + 1
  | .slice elems spare => uptoBulkAll elems + uptoBulkAll spare + 1
  | .agg parts => uptoBulkAll parts + 1
  | .iface _ d => uptoBulk d + 1
  | .map entries => uptoBulkEntries entries + 1
  | .held _ => 1
def uptoBulkAll {H : Type} : List (DataW H) → Nat
  | [] => 0
  | d :: r => uptoBulk d + uptoBulkAll r
def uptoBulkEntries {H : Type} : List (Lit × DataW H) → Nat
  | [] => 0
  | x :: r => uptoBulkEntry x + uptoBulkEntries r
def uptoBulkEntry {H : Type} : Lit × DataW H → Nat
  | (.string bytes, d) => bytes.length + uptoBulk d + 1
  | (_, d) => uptoBulk d + 1
 end
def uptoSmall : (H : Type) → List (DataW H) → Bool := fun _ ds => decide (uptoBulkAll ds ≤ 1048576)
def OpenSpec.upto (s : _root_.Go.ChangeSpec) : _root_.Go.OpenSpec := { _root_.Go.OpenSpec.ofChange s with cond := some uptoSmall }

/-- 'laws.FnExactPowerOf', WHERE WHAT IT READS IS OF BULK AT MOST 1048576: true; the input reads as it did. -/
def fnExactPowerOfUptoRow : OpenClaim := { program := "ytbjpkmbhbpcbgaa", sum := "c8a49bb641b14db86c9d7b32644c5d03429e544296cb822c0f44c263a5c29903", func := "loop.example/g01245/laws.FnExactPowerOf", spec := "fnExactPowerOf", unfollowed := true, recurses := true, plainKeys := false, apart := false, narrowed := true }
def FnExactPowerOfUptoSaid : Prop := fnExactPowerOfUptoRow.holds Try.pinned (OpenSpec.upto fnExactPowerOfSpec)

/-- 'laws.FnExactPrimitiveOf', WHERE WHAT IT READS IS OF BULK AT MOST 1048576: true; the input reads as it did. -/
def fnExactPrimitiveOfUptoRow : OpenClaim := { program := "ytbjpkmbhbpcbgaa", sum := "c8a49bb641b14db86c9d7b32644c5d03429e544296cb822c0f44c263a5c29903", func := "loop.example/g01245/laws.FnExactPrimitiveOf", spec := "fnExactPrimitiveOf", unfollowed := true, recurses := true, plainKeys := false, apart := false, narrowed := true }
def FnExactPrimitiveOfUptoSaid : Prop := fnExactPrimitiveOfUptoRow.holds Try.pinned (OpenSpec.upto fnExactPrimitiveOfSpec)

/-- 'laws.FnExactIsSkew', WHERE WHAT IT READS IS OF BULK AT MOST 1048576: true; the input reads as it did. -/
def fnExactIsSkewUptoRow : OpenClaim := { program := "ytbjpkmbhbpcbgaa", sum := "c8a49bb641b14db86c9d7b32644c5d03429e544296cb822c0f44c263a5c29903", func := "loop.example/g01245/laws.FnExactIsSkew", spec := "fnExactIsSkew", unfollowed := true, recurses := true, plainKeys := false, apart := false, narrowed := true }
def FnExactIsSkewUptoSaid : Prop := fnExactIsSkewUptoRow.holds Try.pinned (OpenSpec.upto fnExactIsSkewSpec)

/-- 'laws.FnExactSkewDegree', WHERE WHAT IT READS IS OF BULK AT MOST 1048576: true; the input reads as it did. -/
def fnExactSkewDegreeUptoRow : OpenClaim := { program := "ytbjpkmbhbpcbgaa", sum := "c8a49bb641b14db86c9d7b32644c5d03429e544296cb822c0f44c263a5c29903", func := "loop.example/g01245/laws.FnExactSkewDegree", spec := "fnExactSkewDegree", unfollowed := true, recurses := true, plainKeys := false, apart := false, narrowed := true }
def FnExactSkewDegreeUptoSaid : Prop := fnExactSkewDegreeUptoRow.holds Try.pinned (OpenSpec.upto fnExactSkewDegreeSpec)

/-- 'laws.FnExactAddSkews', WHERE WHAT IT READS IS OF BULK AT MOST 1048576: true; the input reads as it did. -/
def fnExactAddSkewsUptoRow : OpenClaim := { program := "ytbjpkmbhbpcbgaa", sum := "c8a49bb641b14db86c9d7b32644c5d03429e544296cb822c0f44c263a5c29903", func := "loop.example/g01245/laws.FnExactAddSkews", spec := "fnExactAddSkews", unfollowed := true, recurses := true, plainKeys := false, apart := false, narrowed := true }
def FnExactAddSkewsUptoSaid : Prop := fnExactAddSkewsUptoRow.holds Try.pinned (OpenSpec.upto fnExactAddSkewsSpec)

/-- 'laws.FnExactMultiplySkews', WHERE WHAT IT READS IS OF BULK AT MOST 1048576: true; the input reads as it did. -/
def fnExactMultiplySkewsUptoRow : OpenClaim := { program := "ytbjpkmbhbpcbgaa", sum := "c8a49bb641b14db86c9d7b32644c5d03429e544296cb822c0f44c263a5c29903", func := "loop.example/g01245/laws.FnExactMultiplySkews", spec := "fnExactMultiplySkews", unfollowed := true, recurses := true, plainKeys := false, apart := false, narrowed := true }
def FnExactMultiplySkewsUptoSaid : Prop := fnExactMultiplySkewsUptoRow.holds Try.pinned (OpenSpec.upto fnExactMultiplySkewsSpec)

/-- 'laws.FnExactValueOfSkew', WHERE WHAT IT READS IS OF BULK AT MOST 1048576: true; the input reads as it did. -/
def fnExactValueOfSkewUptoRow : OpenClaim := { program := "ytbjpkmbhbpcbgaa", sum := "c8a49bb641b14db86c9d7b32644c5d03429e544296cb822c0f44c263a5c29903", func := "loop.example/g01245/laws.FnExactValueOfSkew", spec := "fnExactValueOfSkew", unfollowed := true, recurses := true, plainKeys := false, apart := false, narrowed := true }
def FnExactValueOfSkewUptoSaid : Prop := fnExactValueOfSkewUptoRow.holds Try.pinned (OpenSpec.upto fnExactValueOfSkewSpec)

/-- 'laws.FnExactAddActions', WHERE WHAT IT READS IS OF BULK AT MOST 1048576: true; the input reads as it did. -/
def fnExactAddActionsUptoRow : OpenClaim := { program := "ytbjpkmbhbpcbgaa", sum := "c8a49bb641b14db86c9d7b32644c5d03429e544296cb822c0f44c263a5c29903", func := "loop.example/g01245/laws.FnExactAddActions", spec := "fnExactAddActions", plainKeys := false, apart := false, narrowed := true }
def FnExactAddActionsUptoSaid : Prop := fnExactAddActionsUptoRow.holds Try.pinned (OpenSpec.upto fnExactAddActionsSpec)

/-- 'laws.FnExactActOnResidue', WHERE WHAT IT READS IS OF BULK AT MOST 1048576: true; the input reads as it did. -/
def fnExactActOnResidueUptoRow : OpenClaim := { program := "ytbjpkmbhbpcbgaa", sum := "c8a49bb641b14db86c9d7b32644c5d03429e544296cb822c0f44c263a5c29903", func := "loop.example/g01245/laws.FnExactActOnResidue", spec := "fnExactActOnResidue", unfollowed := true, recurses := true, plainKeys := false, apart := false, narrowed := true }
def FnExactActOnResidueUptoSaid : Prop := fnExactActOnResidueUptoRow.holds Try.pinned (OpenSpec.upto fnExactActOnResidueSpec)

/-- 'laws.FnExactAnnihilatorOf', WHERE WHAT IT READS IS OF BULK AT MOST 1048576: true; the input reads as it did. -/
def fnExactAnnihilatorOfUptoRow : OpenClaim := { program := "ytbjpkmbhbpcbgaa", sum := "c8a49bb641b14db86c9d7b32644c5d03429e544296cb822c0f44c263a5c29903", func := "loop.example/g01245/laws.FnExactAnnihilatorOf", spec := "fnExactAnnihilatorOf", unfollowed := true, recurses := true, plainKeys := false, apart := false, narrowed := true }
def FnExactAnnihilatorOfUptoSaid : Prop := fnExactAnnihilatorOfUptoRow.holds Try.pinned (OpenSpec.upto fnExactAnnihilatorOfSpec)

/-- 'laws.FnExactExponentOf', WHERE WHAT IT READS IS OF BULK AT MOST 1048576: true; the input reads as it did. -/
def fnExactExponentOfUptoRow : OpenClaim := { program := "ytbjpkmbhbpcbgaa", sum := "c8a49bb641b14db86c9d7b32644c5d03429e544296cb822c0f44c263a5c29903", func := "loop.example/g01245/laws.FnExactExponentOf", spec := "fnExactExponentOf", unfollowed := true, recurses := true, plainKeys := false, apart := false, narrowed := true }
def FnExactExponentOfUptoSaid : Prop := fnExactExponentOfUptoRow.holds Try.pinned (OpenSpec.upto fnExactExponentOfSpec)

/-- 'laws.FnExactTorsionNumber', WHERE WHAT IT READS IS OF BULK AT MOST 1048576: true; the input reads as it did. -/
def fnExactTorsionNumberUptoRow : OpenClaim := { program := "ytbjpkmbhbpcbgaa", sum := "c8a49bb641b14db86c9d7b32644c5d03429e544296cb822c0f44c263a5c29903", func := "loop.example/g01245/laws.FnExactTorsionNumber", spec := "fnExactTorsionNumber", unfollowed := true, recurses := true, plainKeys := false, apart := false, narrowed := true }
def FnExactTorsionNumberUptoSaid : Prop := fnExactTorsionNumberUptoRow.holds Try.pinned (OpenSpec.upto fnExactTorsionNumberSpec)

/-- 'laws.FnExactDeepRest', WHERE WHAT IT READS IS OF BULK AT MOST 1048576: true; the input reads as it did. -/
def fnExactDeepRestUptoRow : OpenClaim := { program := "ytbjpkmbhbpcbgaa", sum := "c8a49bb641b14db86c9d7b32644c5d03429e544296cb822c0f44c263a5c29903", func := "loop.example/g01245/laws.FnExactDeepRest", spec := "fnExactDeepRest", unfollowed := true, recurses := true, plainKeys := false, apart := false, narrowed := true }
def FnExactDeepRestUptoSaid : Prop := fnExactDeepRestUptoRow.holds Try.pinned (OpenSpec.upto fnExactDeepRestSpec)

/-- 'laws.FnExactBracketOf', WHERE WHAT IT READS IS OF BULK AT MOST 1048576: true; the input reads as it did. -/
def fnExactBracketOfUptoRow : OpenClaim := { program := "ytbjpkmbhbpcbgaa", sum := "c8a49bb641b14db86c9d7b32644c5d03429e544296cb822c0f44c263a5c29903", func := "loop.example/g01245/laws.FnExactBracketOf", spec := "fnExactBracketOf", unfollowed := true, recurses := true, plainKeys := false, apart := false, narrowed := true }
def FnExactBracketOfUptoSaid : Prop := fnExactBracketOfUptoRow.holds Try.pinned (OpenSpec.upto fnExactBracketOfSpec)

/-- 'laws.FnExactFirstFactorial', WHERE WHAT IT READS IS OF BULK AT MOST 1048576: true; the input reads as it did. -/
def fnExactFirstFactorialUptoRow : OpenClaim := { program := "ytbjpkmbhbpcbgaa", sum := "c8a49bb641b14db86c9d7b32644c5d03429e544296cb822c0f44c263a5c29903", func := "loop.example/g01245/laws.FnExactFirstFactorial", spec := "fnExactFirstFactorial", unfollowed := true, recurses := true, plainKeys := false, apart := false, narrowed := true }
def FnExactFirstFactorialUptoSaid : Prop := fnExactFirstFactorialUptoRow.holds Try.pinned (OpenSpec.upto fnExactFirstFactorialSpec)

/-- 'laws.FnExactSecondFactorial', WHERE WHAT IT READS IS OF BULK AT MOST 1048576: true; the input reads as it did. -/
def fnExactSecondFactorialUptoRow : OpenClaim := { program := "ytbjpkmbhbpcbgaa", sum := "c8a49bb641b14db86c9d7b32644c5d03429e544296cb822c0f44c263a5c29903", func := "loop.example/g01245/laws.FnExactSecondFactorial", spec := "fnExactSecondFactorial", unfollowed := true, recurses := true, plainKeys := false, apart := false, narrowed := true }
def FnExactSecondFactorialUptoSaid : Prop := fnExactSecondFactorialUptoRow.holds Try.pinned (OpenSpec.upto fnExactSecondFactorialSpec)

/-- 'laws.FnExactActionOf', WHERE WHAT IT READS IS OF BULK AT MOST 1048576: true; the input reads as it did. -/
def fnExactActionOfUptoRow : OpenClaim := { program := "ytbjpkmbhbpcbgaa", sum := "c8a49bb641b14db86c9d7b32644c5d03429e544296cb822c0f44c263a5c29903", func := "loop.example/g01245/laws.FnExactActionOf", spec := "fnExactActionOf", unfollowed := true, recurses := true, plainKeys := false, apart := false, narrowed := true }
def FnExactActionOfUptoSaid : Prop := fnExactActionOfUptoRow.holds Try.pinned (OpenSpec.upto fnExactActionOfSpec)

/-- 'laws.FnExactComposeActions', WHERE WHAT IT READS IS OF BULK AT MOST 1048576: true; the input reads as it did. -/
def fnExactComposeActionsUptoRow : OpenClaim := { program := "ytbjpkmbhbpcbgaa", sum := "c8a49bb641b14db86c9d7b32644c5d03429e544296cb822c0f44c263a5c29903", func := "loop.example/g01245/laws.FnExactComposeActions", spec := "fnExactComposeActions", unfollowed := true, recurses := true, plainKeys := false, apart := false, narrowed := true }
def FnExactComposeActionsUptoSaid : Prop := fnExactComposeActionsUptoRow.holds Try.pinned (OpenSpec.upto fnExactComposeActionsSpec)

/-- 'laws.FnExactBinomialOf', WHERE WHAT IT READS IS OF BULK AT MOST 1048576: true; the input reads as it did. -/
def fnExactBinomialOfUptoRow : OpenClaim := { program := "ytbjpkmbhbpcbgaa", sum := "c8a49bb641b14db86c9d7b32644c5d03429e544296cb822c0f44c263a5c29903", func := "loop.example/g01245/laws.FnExactBinomialOf", spec := "fnExactBinomialOf", unfollowed := true, recurses := true, plainKeys := false, apart := false, narrowed := true }
def FnExactBinomialOfUptoSaid : Prop := fnExactBinomialOfUptoRow.holds Try.pinned (OpenSpec.upto fnExactBinomialOfSpec)

/-- 'laws.FnExactCarlitzFactorial', WHERE WHAT IT READS IS OF BULK AT MOST 1048576: true; the input reads as it did. -/
def fnExactCarlitzFactorialUptoRow : OpenClaim := { program := "ytbjpkmbhbpcbgaa", sum := "c8a49bb641b14db86c9d7b32644c5d03429e544296cb822c0f44c263a5c29903", func := "loop.example/g01245/laws.FnExactCarlitzFactorial", spec := "fnExactCarlitzFactorial", unfollowed := true, recurses := true, plainKeys := false, apart := false, narrowed := true }
def FnExactCarlitzFactorialUptoSaid : Prop := fnExactCarlitzFactorialUptoRow.holds Try.pinned (OpenSpec.upto fnExactCarlitzFactorialSpec)

end Rows
end Go.Proofs.Ytbjpkmbhbpcbgaa
