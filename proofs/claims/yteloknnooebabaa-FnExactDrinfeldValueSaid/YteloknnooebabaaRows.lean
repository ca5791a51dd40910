/-
  No cell of these rows narrows 'for every input' (looked for: loops, veiled, ifaces, maps, wideKeys, modest, calm, conditions, laid).
  DERIVED. THE GIVEN ROWS OF THIS SEAT. 24 by the template 'for every input the law returns true; each argument reads behind the call as it read before'; 0 by the template 'total and deterministic' (their statements: YteloknnooebabaaTotals.lean).
  GIVEN WITH THE SEED: the statements are not yours to turn. If you find one false, say at which input.
  Laid BY PROGRAM, IN A SANDBOX (cutbox-rows.mjs): the forced cells as the released guide's own fill.sh prints them over the translation 704feb738a8b2a2f… (all of the seat's roots in one cut). By AI agents, Wed Nov 11 2026. No macro, syntax, notation, axiom, sorry.
-/
import Derived.Test.YteloknnooebabaaChecked
import GoSem.Claim
import GoSem.ClaimJoined
import GoSem.ClaimMapViews
import Derived.JoinedTies
import Derived.KernelRfl
namespace Go.Proofs.Yteloknnooebabaa
/- THE CELL 'sum', in the pinned program and in every row, IS THE sha256 OF THE DUMP (.gsa) THAT YteloknnooebabaaProg.lean LOADS. Nothing in Lean hashes anything: it is a label: what it is worth is what the hold of that sum in a sandbox is worth. -/
noncomputable def Try.pinned : Pinned := { name := "yteloknnooebabaa", sum := "704feb738a8b2a2fd64e2c831cbe20930886be645b02e48c9bab8e765e291869", checked := Try.checked }
namespace Rows
def none {H : Type} : Left H := { results := [], args := [] }

/-- 'laws.FnExactMultiplySkews': WHATEVER THE INPUT: true; the input reads as it did. -/
def fnExactMultiplySkewsSpec : ChangeSpec := { name := "fnExactMultiplySkews", fn := fun _ => fun
  | [d1, d2, d3, d4] => { results := [.lit (.bool true)], args := [d1, d2, d3, d4] }
  | _ => none }
def fnExactMultiplySkewsRow : OpenClaim := { program := "yteloknnooebabaa", sum := "704feb738a8b2a2fd64e2c831cbe20930886be645b02e48c9bab8e765e291869", func := "loop.example/g01245/laws.FnExactMultiplySkews", spec := "fnExactMultiplySkews", unfollowed := true, recurses := true, plainKeys := false, apart := false }
def FnExactMultiplySkewsSaid : Prop := fnExactMultiplySkewsRow.holds Try.pinned (OpenSpec.ofChange fnExactMultiplySkewsSpec)

/-- ITS FALSE NEIGHBOUR: 'it returns false'. Refute it at one input. -/
def fnExactMultiplySkewsWrong : ChangeSpec := { name := "fnExactMultiplySkews", fn := fun _ => fun
  | [d1, d2, d3, d4] => { results := [.lit (.bool false)], args := [d1, d2, d3, d4] }
  | _ => none }
def FnExactMultiplySkewsWrongFalsely : Prop := fnExactMultiplySkewsRow.holds Try.pinned (OpenSpec.ofChange fnExactMultiplySkewsWrong)

/-- 'laws.FnExactPowerOfSkew': WHATEVER THE INPUT: true; the input reads as it did. -/
def fnExactPowerOfSkewSpec : ChangeSpec := { name := "fnExactPowerOfSkew", fn := fun _ => fun
  | [d1, d2, d3, d4] => { results := [.lit (.bool true)], args := [d1, d2, d3, d4] }
  | _ => none }
def fnExactPowerOfSkewRow : OpenClaim := { program := "yteloknnooebabaa", sum := "704feb738a8b2a2fd64e2c831cbe20930886be645b02e48c9bab8e765e291869", func := "loop.example/g01245/laws.FnExactPowerOfSkew", spec := "fnExactPowerOfSkew", unfollowed := true, recurses := true, plainKeys := false, apart := false }
def FnExactPowerOfSkewSaid : Prop := fnExactPowerOfSkewRow.holds Try.pinned (OpenSpec.ofChange fnExactPowerOfSkewSpec)

/-- ITS FALSE NEIGHBOUR: 'it returns false'. Refute it at one input. -/
def fnExactPowerOfSkewWrong : ChangeSpec := { name := "fnExactPowerOfSkew", fn := fun _ => fun
  | [d1, d2, d3, d4] => { results := [.lit (.bool false)], args := [d1, d2, d3, d4] }
  | _ => none }
def FnExactPowerOfSkewWrongFalsely : Prop := fnExactPowerOfSkewRow.holds Try.pinned (OpenSpec.ofChange fnExactPowerOfSkewWrong)

/-- 'laws.FnExactDivideRight': WHATEVER THE INPUT: true; the input reads as it did. -/
def fnExactDivideRightSpec : ChangeSpec := { name := "fnExactDivideRight", fn := fun _ => fun
  | [d1, d2, d3, d4] => { results := [.lit (.bool true)], args := [d1, d2, d3, d4] }
  | _ => none }
def fnExactDivideRightRow : OpenClaim := { program := "yteloknnooebabaa", sum := "704feb738a8b2a2fd64e2c831cbe20930886be645b02e48c9bab8e765e291869", func := "loop.example/g01245/laws.FnExactDivideRight", spec := "fnExactDivideRight", unfollowed := true, recurses := true, plainKeys := false, apart := false }
def FnExactDivideRightSaid : Prop := fnExactDivideRightRow.holds Try.pinned (OpenSpec.ofChange fnExactDivideRightSpec)

/-- ITS FALSE NEIGHBOUR: 'it returns false'. Refute it at one input. -/
def fnExactDivideRightWrong : ChangeSpec := { name := "fnExactDivideRight", fn := fun _ => fun
  | [d1, d2, d3, d4] => { results := [.lit (.bool false)], args := [d1, d2, d3, d4] }
  | _ => none }
def FnExactDivideRightWrongFalsely : Prop := fnExactDivideRightRow.holds Try.pinned (OpenSpec.ofChange fnExactDivideRightWrong)

/-- 'laws.FnExactDivideLeft': WHATEVER THE INPUT: true; the input reads as it did. -/
def fnExactDivideLeftSpec : ChangeSpec := { name := "fnExactDivideLeft", fn := fun _ => fun
  | [d1, d2, d3, d4] => { results := [.lit (.bool true)], args := [d1, d2, d3, d4] }
  | _ => none }
def fnExactDivideLeftRow : OpenClaim := { program := "yteloknnooebabaa", sum := "704feb738a8b2a2fd64e2c831cbe20930886be645b02e48c9bab8e765e291869", func := "loop.example/g01245/laws.FnExactDivideLeft", spec := "fnExactDivideLeft", unfollowed := true, recurses := true, plainKeys := false, apart := false }
def FnExactDivideLeftSaid : Prop := fnExactDivideLeftRow.holds Try.pinned (OpenSpec.ofChange fnExactDivideLeftSpec)

/-- ITS FALSE NEIGHBOUR: 'it returns false'. Refute it at one input. -/
def fnExactDivideLeftWrong : ChangeSpec := { name := "fnExactDivideLeft", fn := fun _ => fun
  | [d1, d2, d3, d4] => { results := [.lit (.bool false)], args := [d1, d2, d3, d4] }
  | _ => none }
def FnExactDivideLeftWrongFalsely : Prop := fnExactDivideLeftRow.holds Try.pinned (OpenSpec.ofChange fnExactDivideLeftWrong)

/-- 'laws.FnExactRightDivisor': WHATEVER THE INPUT: true; the input reads as it did. -/
def fnExactRightDivisorSpec : ChangeSpec := { name := "fnExactRightDivisor", fn := fun _ => fun
  | [d1, d2, d3, d4] => { results := [.lit (.bool true)], args := [d1, d2, d3, d4] }
  | _ => none }
def fnExactRightDivisorRow : OpenClaim := { program := "yteloknnooebabaa", sum := "704feb738a8b2a2fd64e2c831cbe20930886be645b02e48c9bab8e765e291869", func := "loop.example/g01245/laws.FnExactRightDivisor", spec := "fnExactRightDivisor", unfollowed := true, recurses := true, plainKeys := false, apart := false }
def FnExactRightDivisorSaid : Prop := fnExactRightDivisorRow.holds Try.pinned (OpenSpec.ofChange fnExactRightDivisorSpec)

/-- ITS FALSE NEIGHBOUR: 'it returns false'. Refute it at one input. -/
def fnExactRightDivisorWrong : ChangeSpec := { name := "fnExactRightDivisor", fn := fun _ => fun
  | [d1, d2, d3, d4] => { results := [.lit (.bool false)], args := [d1, d2, d3, d4] }
  | _ => none }
def FnExactRightDivisorWrongFalsely : Prop := fnExactRightDivisorRow.holds Try.pinned (OpenSpec.ofChange fnExactRightDivisorWrong)

/-- 'laws.FnExactLeftMultiple': WHATEVER THE INPUT: true; the input reads as it did. -/
def fnExactLeftMultipleSpec : ChangeSpec := { name := "fnExactLeftMultiple", fn := fun _ => fun
  | [d1, d2, d3, d4] => { results := [.lit (.bool true)], args := [d1, d2, d3, d4] }
  | _ => none }
def fnExactLeftMultipleRow : OpenClaim := { program := "yteloknnooebabaa", sum := "704feb738a8b2a2fd64e2c831cbe20930886be645b02e48c9bab8e765e291869", func := "loop.example/g01245/laws.FnExactLeftMultiple", spec := "fnExactLeftMultiple", unfollowed := true, recurses := true, plainKeys := false, apart := false }
def FnExactLeftMultipleSaid : Prop := fnExactLeftMultipleRow.holds Try.pinned (OpenSpec.ofChange fnExactLeftMultipleSpec)

/-- ITS FALSE NEIGHBOUR: 'it returns false'. Refute it at one input. -/
def fnExactLeftMultipleWrong : ChangeSpec := { name := "fnExactLeftMultiple", fn := fun _ => fun
  | [d1, d2, d3, d4] => { results := [.lit (.bool false)], args := [d1, d2, d3, d4] }
  | _ => none }
def FnExactLeftMultipleWrongFalsely : Prop := fnExactLeftMultipleRow.holds Try.pinned (OpenSpec.ofChange fnExactLeftMultipleWrong)

/-- 'laws.FnExactLeastSkew': WHATEVER THE INPUT: true; the input reads as it did. -/
def fnExactLeastSkewSpec : ChangeSpec := { name := "fnExactLeastSkew", fn := fun _ => fun
  | [d1, d2, d3] => { results := [.lit (.bool true)], args := [d1, d2, d3] }
  | _ => none }
def fnExactLeastSkewRow : OpenClaim := { program := "yteloknnooebabaa", sum := "704feb738a8b2a2fd64e2c831cbe20930886be645b02e48c9bab8e765e291869", func := "loop.example/g01245/laws.FnExactLeastSkew", spec := "fnExactLeastSkew", unfollowed := true, recurses := true, plainKeys := false, apart := false }
def FnExactLeastSkewSaid : Prop := fnExactLeastSkewRow.holds Try.pinned (OpenSpec.ofChange fnExactLeastSkewSpec)

/-- ITS FALSE NEIGHBOUR: 'it returns false'. Refute it at one input. -/
def fnExactLeastSkewWrong : ChangeSpec := { name := "fnExactLeastSkew", fn := fun _ => fun
  | [d1, d2, d3] => { results := [.lit (.bool false)], args := [d1, d2, d3] }
  | _ => none }
def FnExactLeastSkewWrongFalsely : Prop := fnExactLeastSkewRow.holds Try.pinned (OpenSpec.ofChange fnExactLeastSkewWrong)

/-- 'laws.FnExactActOnResidue': WHATEVER THE INPUT: true; the input reads as it did. -/
def fnExactActOnResidueSpec : ChangeSpec := { name := "fnExactActOnResidue", fn := fun _ => fun
  | [d1, d2, d3, d4] => { results := [.lit (.bool true)], args := [d1, d2, d3, d4] }
  | _ => none }
def fnExactActOnResidueRow : OpenClaim := { program := "yteloknnooebabaa", sum := "704feb738a8b2a2fd64e2c831cbe20930886be645b02e48c9bab8e765e291869", func := "loop.example/g01245/laws.FnExactActOnResidue", spec := "fnExactActOnResidue", unfollowed := true, recurses := true, plainKeys := false, apart := false }
def FnExactActOnResidueSaid : Prop := fnExactActOnResidueRow.holds Try.pinned (OpenSpec.ofChange fnExactActOnResidueSpec)

/-- ITS FALSE NEIGHBOUR: 'it returns false'. Refute it at one input. -/
def fnExactActOnResidueWrong : ChangeSpec := { name := "fnExactActOnResidue", fn := fun _ => fun
  | [d1, d2, d3, d4] => { results := [.lit (.bool false)], args := [d1, d2, d3, d4] }
  | _ => none }
def FnExactActOnResidueWrongFalsely : Prop := fnExactActOnResidueRow.holds Try.pinned (OpenSpec.ofChange fnExactActOnResidueWrong)

/-- 'laws.FnExactDeepRest': WHATEVER THE INPUT: true; the input reads as it did. -/
def fnExactDeepRestSpec : ChangeSpec := { name := "fnExactDeepRest", fn := fun _ => fun
  | [d1, d2, d3] => { results := [.lit (.bool true)], args := [d1, d2, d3] }
  | _ => none }
def fnExactDeepRestRow : OpenClaim := { program := "yteloknnooebabaa", sum := "704feb738a8b2a2fd64e2c831cbe20930886be645b02e48c9bab8e765e291869", func := "loop.example/g01245/laws.FnExactDeepRest", spec := "fnExactDeepRest", unfollowed := true, recurses := true, plainKeys := false, apart := false }
def FnExactDeepRestSaid : Prop := fnExactDeepRestRow.holds Try.pinned (OpenSpec.ofChange fnExactDeepRestSpec)

/-- ITS FALSE NEIGHBOUR: 'it returns false'. Refute it at one input. -/
def fnExactDeepRestWrong : ChangeSpec := { name := "fnExactDeepRest", fn := fun _ => fun
  | [d1, d2, d3] => { results := [.lit (.bool false)], args := [d1, d2, d3] }
  | _ => none }
def FnExactDeepRestWrongFalsely : Prop := fnExactDeepRestRow.holds Try.pinned (OpenSpec.ofChange fnExactDeepRestWrong)

/-- 'laws.FnExactAddActions': WHATEVER THE INPUT: true; the input reads as it did. -/
def fnExactAddActionsSpec : ChangeSpec := { name := "fnExactAddActions", fn := fun _ => fun
  | [d1, d2, d3] => { results := [.lit (.bool true)], args := [d1, d2, d3] }
  | _ => none }
def fnExactAddActionsRow : OpenClaim := { program := "yteloknnooebabaa", sum := "704feb738a8b2a2fd64e2c831cbe20930886be645b02e48c9bab8e765e291869", func := "loop.example/g01245/laws.FnExactAddActions", spec := "fnExactAddActions", unfollowed := true, recurses := true, plainKeys := false, apart := false }
def FnExactAddActionsSaid : Prop := fnExactAddActionsRow.holds Try.pinned (OpenSpec.ofChange fnExactAddActionsSpec)

/-- ITS FALSE NEIGHBOUR: 'it returns false'. Refute it at one input. -/
def fnExactAddActionsWrong : ChangeSpec := { name := "fnExactAddActions", fn := fun _ => fun
  | [d1, d2, d3] => { results := [.lit (.bool false)], args := [d1, d2, d3] }
  | _ => none }
def FnExactAddActionsWrongFalsely : Prop := fnExactAddActionsRow.holds Try.pinned (OpenSpec.ofChange fnExactAddActionsWrong)

/-- 'laws.FnExactComposeActions': WHATEVER THE INPUT: true; the input reads as it did. -/
def fnExactComposeActionsSpec : ChangeSpec := { name := "fnExactComposeActions", fn := fun _ => fun
  | [d1, d2, d3] => { results := [.lit (.bool true)], args := [d1, d2, d3] }
  | _ => none }
def fnExactComposeActionsRow : OpenClaim := { program := "yteloknnooebabaa", sum := "704feb738a8b2a2fd64e2c831cbe20930886be645b02e48c9bab8e765e291869", func := "loop.example/g01245/laws.FnExactComposeActions", spec := "fnExactComposeActions", unfollowed := true, recurses := true, plainKeys := false, apart := false }
def FnExactComposeActionsSaid : Prop := fnExactComposeActionsRow.holds Try.pinned (OpenSpec.ofChange fnExactComposeActionsSpec)

/-- ITS FALSE NEIGHBOUR: 'it returns false'. Refute it at one input. -/
def fnExactComposeActionsWrong : ChangeSpec := { name := "fnExactComposeActions", fn := fun _ => fun
  | [d1, d2, d3] => { results := [.lit (.bool false)], args := [d1, d2, d3] }
  | _ => none }
def FnExactComposeActionsWrongFalsely : Prop := fnExactComposeActionsRow.holds Try.pinned (OpenSpec.ofChange fnExactComposeActionsWrong)

/-- 'laws.FnExactIsDrinfeld': WHATEVER THE INPUT: true; the input reads as it did. -/
def fnExactIsDrinfeldSpec : ChangeSpec := { name := "fnExactIsDrinfeld", fn := fun _ => fun
  | [d] => { results := [.lit (.bool true)], args := [d] }
  | _ => none }
def fnExactIsDrinfeldRow : OpenClaim := { program := "yteloknnooebabaa", sum := "704feb738a8b2a2fd64e2c831cbe20930886be645b02e48c9bab8e765e291869", func := "loop.example/g01245/laws.FnExactIsDrinfeld", spec := "fnExactIsDrinfeld", unfollowed := true, recurses := true, plainKeys := false, apart := false }
def FnExactIsDrinfeldSaid : Prop := fnExactIsDrinfeldRow.holds Try.pinned (OpenSpec.ofChange fnExactIsDrinfeldSpec)

/-- ITS FALSE NEIGHBOUR: 'it returns false'. Refute it at one input. -/
def fnExactIsDrinfeldWrong : ChangeSpec := { name := "fnExactIsDrinfeld", fn := fun _ => fun
  | [d] => { results := [.lit (.bool false)], args := [d] }
  | _ => none }
def FnExactIsDrinfeldWrongFalsely : Prop := fnExactIsDrinfeldRow.holds Try.pinned (OpenSpec.ofChange fnExactIsDrinfeldWrong)

/-- 'laws.FnExactDrinfeldAction': WHATEVER THE INPUT: true; the input reads as it did. -/
def fnExactDrinfeldActionSpec : ChangeSpec := { name := "fnExactDrinfeldAction", fn := fun _ => fun
  | [d1, d2] => { results := [.lit (.bool true)], args := [d1, d2] }
  | _ => none }
def fnExactDrinfeldActionRow : OpenClaim := { program := "yteloknnooebabaa", sum := "704feb738a8b2a2fd64e2c831cbe20930886be645b02e48c9bab8e765e291869", func := "loop.example/g01245/laws.FnExactDrinfeldAction", spec := "fnExactDrinfeldAction", unfollowed := true, recurses := true, plainKeys := false, apart := false }
def FnExactDrinfeldActionSaid : Prop := fnExactDrinfeldActionRow.holds Try.pinned (OpenSpec.ofChange fnExactDrinfeldActionSpec)

/-- ITS FALSE NEIGHBOUR: 'it returns false'. Refute it at one input. -/
def fnExactDrinfeldActionWrong : ChangeSpec := { name := "fnExactDrinfeldAction", fn := fun _ => fun
  | [d1, d2] => { results := [.lit (.bool false)], args := [d1, d2] }
  | _ => none }
def FnExactDrinfeldActionWrongFalsely : Prop := fnExactDrinfeldActionRow.holds Try.pinned (OpenSpec.ofChange fnExactDrinfeldActionWrong)

/-- 'laws.FnExactDrinfeldValue': WHATEVER THE INPUT: true; the input reads as it did. -/
def fnExactDrinfeldValueSpec : ChangeSpec := { name := "fnExactDrinfeldValue", fn := fun _ => fun
  | [d1, d2, d3] => { results := [.lit (.bool true)], args := [d1, d2, d3] }
  | _ => none }
def fnExactDrinfeldValueRow : OpenClaim := { program := "yteloknnooebabaa", sum := "704feb738a8b2a2fd64e2c831cbe20930886be645b02e48c9bab8e765e291869", func := "loop.example/g01245/laws.FnExactDrinfeldValue", spec := "fnExactDrinfeldValue", unfollowed := true, recurses := true, plainKeys := false, apart := false }
def FnExactDrinfeldValueSaid : Prop := fnExactDrinfeldValueRow.holds Try.pinned (OpenSpec.ofChange fnExactDrinfeldValueSpec)

/-- ITS FALSE NEIGHBOUR: 'it returns false'. Refute it at one input. -/
def fnExactDrinfeldValueWrong : ChangeSpec := { name := "fnExactDrinfeldValue", fn := fun _ => fun
  | [d1, d2, d3] => { results := [.lit (.bool false)], args := [d1, d2, d3] }
  | _ => none }
def FnExactDrinfeldValueWrongFalsely : Prop := fnExactDrinfeldValueRow.holds Try.pinned (OpenSpec.ofChange fnExactDrinfeldValueWrong)

/-- 'laws.FnExactInvariantOf': WHATEVER THE INPUT: true; the input reads as it did. -/
def fnExactInvariantOfSpec : ChangeSpec := { name := "fnExactInvariantOf", fn := fun _ => fun
  | [d] => { results := [.lit (.bool true)], args := [d] }
  | _ => none }
def fnExactInvariantOfRow : OpenClaim := { program := "yteloknnooebabaa", sum := "704feb738a8b2a2fd64e2c831cbe20930886be645b02e48c9bab8e765e291869", func := "loop.example/g01245/laws.FnExactInvariantOf", spec := "fnExactInvariantOf", unfollowed := true, recurses := true, plainKeys := false, apart := false }
def FnExactInvariantOfSaid : Prop := fnExactInvariantOfRow.holds Try.pinned (OpenSpec.ofChange fnExactInvariantOfSpec)

/-- ITS FALSE NEIGHBOUR: 'it returns false'. Refute it at one input. -/
def fnExactInvariantOfWrong : ChangeSpec := { name := "fnExactInvariantOf", fn := fun _ => fun
  | [d] => { results := [.lit (.bool false)], args := [d] }
  | _ => none }
def FnExactInvariantOfWrongFalsely : Prop := fnExactInvariantOfRow.holds Try.pinned (OpenSpec.ofChange fnExactInvariantOfWrong)

/-- 'laws.FnExactTwistOf': WHATEVER THE INPUT: true; the input reads as it did. -/
def fnExactTwistOfSpec : ChangeSpec := { name := "fnExactTwistOf", fn := fun _ => fun
  | [d1, d2] => { results := [.lit (.bool true)], args := [d1, d2] }
  | _ => none }
def fnExactTwistOfRow : OpenClaim := { program := "yteloknnooebabaa", sum := "704feb738a8b2a2fd64e2c831cbe20930886be645b02e48c9bab8e765e291869", func := "loop.example/g01245/laws.FnExactTwistOf", spec := "fnExactTwistOf", unfollowed := true, recurses := true, plainKeys := false, apart := false }
def FnExactTwistOfSaid : Prop := fnExactTwistOfRow.holds Try.pinned (OpenSpec.ofChange fnExactTwistOfSpec)

/-- ITS FALSE NEIGHBOUR: 'it returns false'. Refute it at one input. -/
def fnExactTwistOfWrong : ChangeSpec := { name := "fnExactTwistOf", fn := fun _ => fun
  | [d1, d2] => { results := [.lit (.bool false)], args := [d1, d2] }
  | _ => none }
def FnExactTwistOfWrongFalsely : Prop := fnExactTwistOfRow.holds Try.pinned (OpenSpec.ofChange fnExactTwistOfWrong)

/-- 'laws.FnExactAreIsomorphic': WHATEVER THE INPUT: true; the input reads as it did. -/
def fnExactAreIsomorphicSpec : ChangeSpec := { name := "fnExactAreIsomorphic", fn := fun _ => fun
  | [d1, d2] => { results := [.lit (.bool true)], args := [d1, d2] }
  | _ => none }
def fnExactAreIsomorphicRow : OpenClaim := { program := "yteloknnooebabaa", sum := "704feb738a8b2a2fd64e2c831cbe20930886be645b02e48c9bab8e765e291869", func := "loop.example/g01245/laws.FnExactAreIsomorphic", spec := "fnExactAreIsomorphic", unfollowed := true, recurses := true, plainKeys := false, apart := false }
def FnExactAreIsomorphicSaid : Prop := fnExactAreIsomorphicRow.holds Try.pinned (OpenSpec.ofChange fnExactAreIsomorphicSpec)

/-- ITS FALSE NEIGHBOUR: 'it returns false'. Refute it at one input. -/
def fnExactAreIsomorphicWrong : ChangeSpec := { name := "fnExactAreIsomorphic", fn := fun _ => fun
  | [d1, d2] => { results := [.lit (.bool false)], args := [d1, d2] }
  | _ => none }
def FnExactAreIsomorphicWrongFalsely : Prop := fnExactAreIsomorphicRow.holds Try.pinned (OpenSpec.ofChange fnExactAreIsomorphicWrong)

/-- 'laws.FnExactIsIsogeny': WHATEVER THE INPUT: true; the input reads as it did. -/
def fnExactIsIsogenySpec : ChangeSpec := { name := "fnExactIsIsogeny", fn := fun _ => fun
  | [d1, d2, d3] => { results := [.lit (.bool true)], args := [d1, d2, d3] }
  | _ => none }
def fnExactIsIsogenyRow : OpenClaim := { program := "yteloknnooebabaa", sum := "704feb738a8b2a2fd64e2c831cbe20930886be645b02e48c9bab8e765e291869", func := "loop.example/g01245/laws.FnExactIsIsogeny", spec := "fnExactIsIsogeny", unfollowed := true, recurses := true, plainKeys := false, apart := false }
def FnExactIsIsogenySaid : Prop := fnExactIsIsogenyRow.holds Try.pinned (OpenSpec.ofChange fnExactIsIsogenySpec)

/-- ITS FALSE NEIGHBOUR: 'it returns false'. Refute it at one input. -/
def fnExactIsIsogenyWrong : ChangeSpec := { name := "fnExactIsIsogeny", fn := fun _ => fun
  | [d1, d2, d3] => { results := [.lit (.bool false)], args := [d1, d2, d3] }
  | _ => none }
def FnExactIsIsogenyWrongFalsely : Prop := fnExactIsIsogenyRow.holds Try.pinned (OpenSpec.ofChange fnExactIsIsogenyWrong)

/-- 'laws.FnExactNormOf': WHATEVER THE INPUT: true; the input reads as it did. -/
def fnExactNormOfSpec : ChangeSpec := { name := "fnExactNormOf", fn := fun _ => fun
  | [d1, d2] => { results := [.lit (.bool true)], args := [d1, d2] }
  | _ => none }
def fnExactNormOfRow : OpenClaim := { program := "yteloknnooebabaa", sum := "704feb738a8b2a2fd64e2c831cbe20930886be645b02e48c9bab8e765e291869", func := "loop.example/g01245/laws.FnExactNormOf", spec := "fnExactNormOf", unfollowed := true, recurses := true, plainKeys := false, apart := false }
def FnExactNormOfSaid : Prop := fnExactNormOfRow.holds Try.pinned (OpenSpec.ofChange fnExactNormOfSpec)

/-- ITS FALSE NEIGHBOUR: 'it returns false'. Refute it at one input. -/
def fnExactNormOfWrong : ChangeSpec := { name := "fnExactNormOf", fn := fun _ => fun
  | [d1, d2] => { results := [.lit (.bool false)], args := [d1, d2] }
  | _ => none }
def FnExactNormOfWrongFalsely : Prop := fnExactNormOfRow.holds Try.pinned (OpenSpec.ofChange fnExactNormOfWrong)

/-- 'laws.FnExactFrobeniusOf': WHATEVER THE INPUT: true; the input reads as it did. -/
def fnExactFrobeniusOfSpec : ChangeSpec := { name := "fnExactFrobeniusOf", fn := fun _ => fun
  | [d] => { results := [.lit (.bool true)], args := [d] }
  | _ => none }
def fnExactFrobeniusOfRow : OpenClaim := { program := "yteloknnooebabaa", sum := "704feb738a8b2a2fd64e2c831cbe20930886be645b02e48c9bab8e765e291869", func := "loop.example/g01245/laws.FnExactFrobeniusOf", spec := "fnExactFrobeniusOf", unfollowed := true, recurses := true, plainKeys := false, apart := false }
def FnExactFrobeniusOfSaid : Prop := fnExactFrobeniusOfRow.holds Try.pinned (OpenSpec.ofChange fnExactFrobeniusOfSpec)

/-- ITS FALSE NEIGHBOUR: 'it returns false'. Refute it at one input. -/
def fnExactFrobeniusOfWrong : ChangeSpec := { name := "fnExactFrobeniusOf", fn := fun _ => fun
  | [d] => { results := [.lit (.bool false)], args := [d] }
  | _ => none }
def FnExactFrobeniusOfWrongFalsely : Prop := fnExactFrobeniusOfRow.holds Try.pinned (OpenSpec.ofChange fnExactFrobeniusOfWrong)

/-- 'laws.FnExactIsSupersingular': WHATEVER THE INPUT: true; the input reads as it did. -/
def fnExactIsSupersingularSpec : ChangeSpec := { name := "fnExactIsSupersingular", fn := fun _ => fun
  | [d] => { results := [.lit (.bool true)], args := [d] }
  | _ => none }
def fnExactIsSupersingularRow : OpenClaim := { program := "yteloknnooebabaa", sum := "704feb738a8b2a2fd64e2c831cbe20930886be645b02e48c9bab8e765e291869", func := "loop.example/g01245/laws.FnExactIsSupersingular", spec := "fnExactIsSupersingular", unfollowed := true, recurses := true, plainKeys := false, apart := false }
def FnExactIsSupersingularSaid : Prop := fnExactIsSupersingularRow.holds Try.pinned (OpenSpec.ofChange fnExactIsSupersingularSpec)

/-- ITS FALSE NEIGHBOUR: 'it returns false'. Refute it at one input. -/
def fnExactIsSupersingularWrong : ChangeSpec := { name := "fnExactIsSupersingular", fn := fun _ => fun
  | [d] => { results := [.lit (.bool false)], args := [d] }
  | _ => none }
def FnExactIsSupersingularWrongFalsely : Prop := fnExactIsSupersingularRow.holds Try.pinned (OpenSpec.ofChange fnExactIsSupersingularWrong)

/-- 'laws.FnExactOrderPolynomial': WHATEVER THE INPUT: true; the input reads as it did. -/
def fnExactOrderPolynomialSpec : ChangeSpec := { name := "fnExactOrderPolynomial", fn := fun _ => fun
  | [d] => { results := [.lit (.bool true)], args := [d] }
  | _ => none }
def fnExactOrderPolynomialRow : OpenClaim := { program := "yteloknnooebabaa", sum := "704feb738a8b2a2fd64e2c831cbe20930886be645b02e48c9bab8e765e291869", func := "loop.example/g01245/laws.FnExactOrderPolynomial", spec := "fnExactOrderPolynomial", unfollowed := true, recurses := true, plainKeys := false, apart := false }
def FnExactOrderPolynomialSaid : Prop := fnExactOrderPolynomialRow.holds Try.pinned (OpenSpec.ofChange fnExactOrderPolynomialSpec)

/-- ITS FALSE NEIGHBOUR: 'it returns false'. Refute it at one input. -/
def fnExactOrderPolynomialWrong : ChangeSpec := { name := "fnExactOrderPolynomial", fn := fun _ => fun
  | [d] => { results := [.lit (.bool false)], args := [d] }
  | _ => none }
def FnExactOrderPolynomialWrongFalsely : Prop := fnExactOrderPolynomialRow.holds Try.pinned (OpenSpec.ofChange fnExactOrderPolynomialWrong)

/-- 'laws.FnExactAllDrinfeld': WHATEVER THE INPUT: true; the input reads as it did. -/
def fnExactAllDrinfeldSpec : ChangeSpec := { name := "fnExactAllDrinfeld", fn := fun _ => fun
  | [d1, d2] => { results := [.lit (.bool true)], args := [d1, d2] }
  | _ => none }
def fnExactAllDrinfeldRow : OpenClaim := { program := "yteloknnooebabaa", sum := "704feb738a8b2a2fd64e2c831cbe20930886be645b02e48c9bab8e765e291869", func := "loop.example/g01245/laws.FnExactAllDrinfeld", spec := "fnExactAllDrinfeld", unfollowed := true, recurses := true, plainKeys := false, apart := false }
def FnExactAllDrinfeldSaid : Prop := fnExactAllDrinfeldRow.holds Try.pinned (OpenSpec.ofChange fnExactAllDrinfeldSpec)

/-- ITS FALSE NEIGHBOUR: 'it returns false'. Refute it at one input. -/
def fnExactAllDrinfeldWrong : ChangeSpec := { name := "fnExactAllDrinfeld", fn := fun _ => fun
  | [d1, d2] => { results := [.lit (.bool false)], args := [d1, d2] }
  | _ => none }
def FnExactAllDrinfeldWrongFalsely : Prop := fnExactAllDrinfeldRow.holds Try.pinned (OpenSpec.ofChange fnExactAllDrinfeldWrong)

/-- 'laws.FnExactCountByTrace': WHATEVER THE INPUT: true; the input reads as it did. -/
def fnExactCountByTraceSpec : ChangeSpec := { name := "fnExactCountByTrace", fn := fun _ => fun
  | [d1, d2] => { results := [.lit (.bool true)], args := [d1, d2] }
  | _ => none }
def fnExactCountByTraceRow : OpenClaim := { program := "yteloknnooebabaa", sum := "704feb738a8b2a2fd64e2c831cbe20930886be645b02e48c9bab8e765e291869", func := "loop.example/g01245/laws.FnExactCountByTrace", spec := "fnExactCountByTrace", unfollowed := true, recurses := true, plainKeys := false, apart := false }
def FnExactCountByTraceSaid : Prop := fnExactCountByTraceRow.holds Try.pinned (OpenSpec.ofChange fnExactCountByTraceSpec)

/-- ITS FALSE NEIGHBOUR: 'it returns false'. Refute it at one input. -/
def fnExactCountByTraceWrong : ChangeSpec := { name := "fnExactCountByTrace", fn := fun _ => fun
  | [d1, d2] => { results := [.lit (.bool false)], args := [d1, d2] }
  | _ => none }
def FnExactCountByTraceWrongFalsely : Prop := fnExactCountByTraceRow.holds Try.pinned (OpenSpec.ofChange fnExactCountByTraceWrong)

/- THE SECOND FORM. 'bulk': how many values and letters a reading holds, each counted each time it is reached (what is shared counts as often as it is met; a slice's spare places count too). A statement '..UptoSaid' is the law's where the arguments, and the package variables that the reading takes, are together of bulk at most 1048576: NARROWER than '..Said'. Prove '..Said' where nothing that the law and all that it calls make is longer than what came in: it says more and counts as full. Else prove '..UptoSaid'. A law counts once. -/
mutual
def uptoBulk {H : Type} : DataW H → Nat
  | .lit (.string bytes) => bytes.length + 1
  | .lit _ => 1
  | .nil => 1
  | .ptr d => uptoBulk d + 1
  | .slice elems spare => uptoBulkAll elems + uptoBulkAll spare + 1
  | .agg parts => uptoBulkAll parts + 1
  | .iface _ d => uptoBulk d + 1
  | .map entries => uptoBulkEntries entries + 1
  | .held _ => 1
def uptoBulkAll {H : Type} : List (DataW H) → Nat
  | [] => 0
  | d :: r => uptoBulk d + uptoBulkAll r
def uptoBulkEntries {H : Type} : List (Lit × DataW H) → Nat
  | [] => 0
  | x :: r => uptoBulkEntry x + uptoBulkEntries r
def uptoBulkEntry {H : Type} : Lit × DataW H → Nat
  | (.string bytes, d) => bytes.length + uptoBulk d + 1
  | (_, d) => uptoBulk d + 1
 end
def uptoSmall : (H : Type) → List (DataW H) → Bool := fun _ ds => decide (uptoBulkAll ds ≤ 1048576)
def OpenSpec.upto (s : _root_.Go.ChangeSpec) : _root_.Go.OpenSpec := { _root_.Go.OpenSpec.ofChange s with cond := some uptoSmall }

/-- 'laws.FnExactMultiplySkews', WHERE WHAT IT READS IS OF BULK AT MOST 1048576: true; the input reads as it did. -/
def fnExactMultiplySkewsUptoRow : OpenClaim := { program := "yteloknnooebabaa", sum := "704feb738a8b2a2fd64e2c831cbe20930886be645b02e48c9bab8e765e291869", func := "loop.example/g01245/laws.FnExactMultiplySkews", spec := "fnExactMultiplySkews", unfollowed := true, recurses := true, plainKeys := false, apart := false, narrowed := true }
def FnExactMultiplySkewsUptoSaid : Prop := fnExactMultiplySkewsUptoRow.holds Try.pinned (OpenSpec.upto fnExactMultiplySkewsSpec)

/-- 'laws.FnExactPowerOfSkew', WHERE WHAT IT READS IS OF BULK AT MOST 1048576: true; the input reads as it did. -/
def fnExactPowerOfSkewUptoRow : OpenClaim := { program := "yteloknnooebabaa", sum := "704feb738a8b2a2fd64e2c831cbe20930886be645b02e48c9bab8e765e291869", func := "loop.example/g01245/laws.FnExactPowerOfSkew", spec := "fnExactPowerOfSkew", unfollowed := true, recurses := true, plainKeys := false, apart := false, narrowed := true }
def FnExactPowerOfSkewUptoSaid : Prop := fnExactPowerOfSkewUptoRow.holds Try.pinned (OpenSpec.upto fnExactPowerOfSkewSpec)

/-- 'laws.FnExactDivideRight', WHERE WHAT IT READS IS OF BULK AT MOST 1048576: true; the input reads as it did. -/
def fnExactDivideRightUptoRow : OpenClaim := { program := "yteloknnooebabaa", sum := "704feb738a8b2a2fd64e2c831cbe20930886be645b02e48c9bab8e765e291869", func := "loop.example/g01245/laws.FnExactDivideRight", spec := "fnExactDivideRight", unfollowed := true, recurses := true, plainKeys := false, apart := false, narrowed := true }
def FnExactDivideRightUptoSaid : Prop := fnExactDivideRightUptoRow.holds Try.pinned (OpenSpec.upto fnExactDivideRightSpec)

/-- 'laws.FnExactDivideLeft', WHERE WHAT IT READS IS OF BULK AT MOST 1048576: true; the input reads as it did. -/
def fnExactDivideLeftUptoRow : OpenClaim := { program := "yteloknnooebabaa", sum := "704feb738a8b2a2fd64e2c831cbe20930886be645b02e48c9bab8e765e291869", func := "loop.example/g01245/laws.FnExactDivideLeft", spec := "fnExactDivideLeft", unfollowed := true, recurses := true, plainKeys := false, apart := false, narrowed := true }
def FnExactDivideLeftUptoSaid : Prop := fnExactDivideLeftUptoRow.holds Try.pinned (OpenSpec.upto fnExactDivideLeftSpec)

/-- 'laws.FnExactRightDivisor', WHERE WHAT IT READS IS OF BULK AT MOST 1048576: true; the input reads as it did. -/
def fnExactRightDivisorUptoRow : OpenClaim := { program := "yteloknnooebabaa", sum := "704feb738a8b2a2fd64e2c831cbe20930886be645b02e48c9bab8e765e291869", func := "loop.example/g01245/laws.FnExactRightDivisor", spec := "fnExactRightDivisor", unfollowed := true, recurses := true, plainKeys := false, apart := false, narrowed := true }
def FnExactRightDivisorUptoSaid : Prop := fnExactRightDivisorUptoRow.holds Try.pinned (OpenSpec.upto fnExactRightDivisorSpec)

/-- 'laws.FnExactLeftMultiple', WHERE WHAT IT READS IS OF BULK AT MOST 1048576: true; the input reads as it did. -/
def fnExactLeftMultipleUptoRow : OpenClaim := { program := "yteloknnooebabaa", sum := "704feb738a8b2a2fd64e2c831cbe20930886be645b02e48c9bab8e765e291869", func := "loop.example/g01245/laws.FnExactLeftMultiple", spec := "fnExactLeftMultiple", unfollowed := true, recurses := true, plainKeys := false, apart := false, narrowed := true }
def FnExactLeftMultipleUptoSaid : Prop := fnExactLeftMultipleUptoRow.holds Try.pinned (OpenSpec.upto fnExactLeftMultipleSpec)

/-- 'laws.FnExactLeastSkew', WHERE WHAT IT READS IS OF BULK AT MOST 1048576: true; the input reads as it did. -/
def fnExactLeastSkewUptoRow : OpenClaim := { program := "yteloknnooebabaa", sum := "704feb738a8b2a2fd64e2c831cbe20930886be645b02e48c9bab8e765e291869", func := "loop.example/g01245/laws.FnExactLeastSkew", spec := "fnExactLeastSkew", unfollowed := true, recurses := true, plainKeys := false, apart := false, narrowed := true }
def FnExactLeastSkewUptoSaid : Prop := fnExactLeastSkewUptoRow.holds Try.pinned (OpenSpec.upto fnExactLeastSkewSpec)

/-- 'laws.FnExactActOnResidue', WHERE WHAT IT READS IS OF BULK AT MOST 1048576: true; the input reads as it did. -/
def fnExactActOnResidueUptoRow : OpenClaim := { program := "yteloknnooebabaa", sum := "704feb738a8b2a2fd64e2c831cbe20930886be645b02e48c9bab8e765e291869", func := "loop.example/g01245/laws.FnExactActOnResidue", spec := "fnExactActOnResidue", unfollowed := true, recurses := true, plainKeys := false, apart := false, narrowed := true }
def FnExactActOnResidueUptoSaid : Prop := fnExactActOnResidueUptoRow.holds Try.pinned (OpenSpec.upto fnExactActOnResidueSpec)

/-- 'laws.FnExactDeepRest', WHERE WHAT IT READS IS OF BULK AT MOST 1048576: true; the input reads as it did. -/
def fnExactDeepRestUptoRow : OpenClaim := { program := "yteloknnooebabaa", sum := "704feb738a8b2a2fd64e2c831cbe20930886be645b02e48c9bab8e765e291869", func := "loop.example/g01245/laws.FnExactDeepRest", spec := "fnExactDeepRest", unfollowed := true, recurses := true, plainKeys := false, apart := false, narrowed := true }
def FnExactDeepRestUptoSaid : Prop := fnExactDeepRestUptoRow.holds Try.pinned (OpenSpec.upto fnExactDeepRestSpec)

/-- 'laws.FnExactAddActions', WHERE WHAT IT READS IS OF BULK AT MOST 1048576: true; the input reads as it did. -/
def fnExactAddActionsUptoRow : OpenClaim := { program := "yteloknnooebabaa", sum := "704feb738a8b2a2fd64e2c831cbe20930886be645b02e48c9bab8e765e291869", func := "loop.example/g01245/laws.FnExactAddActions", spec := "fnExactAddActions", unfollowed := true, recurses := true, plainKeys := false, apart := false, narrowed := true }
def FnExactAddActionsUptoSaid : Prop := fnExactAddActionsUptoRow.holds Try.pinned (OpenSpec.upto fnExactAddActionsSpec)

/-- 'laws.FnExactComposeActions', WHERE WHAT IT READS IS OF BULK AT MOST 1048576: true; the input reads as it did. -/
def fnExactComposeActionsUptoRow : OpenClaim := { program := "yteloknnooebabaa", sum := "704feb738a8b2a2fd64e2c831cbe20930886be645b02e48c9bab8e765e291869", func := "loop.example/g01245/laws.FnExactComposeActions", spec := "fnExactComposeActions", unfollowed := true, recurses := true, plainKeys := false, apart := false, narrowed := true }
def FnExactComposeActionsUptoSaid : Prop := fnExactComposeActionsUptoRow.holds Try.pinned (OpenSpec.upto fnExactComposeActionsSpec)

/-- 'laws.FnExactIsDrinfeld', WHERE WHAT IT READS IS OF BULK AT MOST 1048576: true; the input reads as it did. -/
def fnExactIsDrinfeldUptoRow : OpenClaim := { program := "yteloknnooebabaa", sum := "704feb738a8b2a2fd64e2c831cbe20930886be645b02e48c9bab8e765e291869", func := "loop.example/g01245/laws.FnExactIsDrinfeld", spec := "fnExactIsDrinfeld", unfollowed := true, recurses := true, plainKeys := false, apart := false, narrowed := true }
def FnExactIsDrinfeldUptoSaid : Prop := fnExactIsDrinfeldUptoRow.holds Try.pinned (OpenSpec.upto fnExactIsDrinfeldSpec)

/-- 'laws.FnExactDrinfeldAction', WHERE WHAT IT READS IS OF BULK AT MOST 1048576: true; the input reads as it did. -/
def fnExactDrinfeldActionUptoRow : OpenClaim := { program := "yteloknnooebabaa", sum := "704feb738a8b2a2fd64e2c831cbe20930886be645b02e48c9bab8e765e291869", func := "loop.example/g01245/laws.FnExactDrinfeldAction", spec := "fnExactDrinfeldAction", unfollowed := true, recurses := true, plainKeys := false, apart := false, narrowed := true }
def FnExactDrinfeldActionUptoSaid : Prop := fnExactDrinfeldActionUptoRow.holds Try.pinned (OpenSpec.upto fnExactDrinfeldActionSpec)

/-- 'laws.FnExactDrinfeldValue', WHERE WHAT IT READS IS OF BULK AT MOST 1048576: true; the input reads as it did. -/
def fnExactDrinfeldValueUptoRow : OpenClaim := { program := "yteloknnooebabaa", sum := "704feb738a8b2a2fd64e2c831cbe20930886be645b02e48c9bab8e765e291869", func := "loop.example/g01245/laws.FnExactDrinfeldValue", spec := "fnExactDrinfeldValue", unfollowed := true, recurses := true, plainKeys := false, apart := false, narrowed := true }
def FnExactDrinfeldValueUptoSaid : Prop := fnExactDrinfeldValueUptoRow.holds Try.pinned (OpenSpec.upto fnExactDrinfeldValueSpec)

/-- 'laws.FnExactInvariantOf', WHERE WHAT IT READS IS OF BULK AT MOST 1048576: true; the input reads as it did. -/
def fnExactInvariantOfUptoRow : OpenClaim := { program := "yteloknnooebabaa", sum := "704feb738a8b2a2fd64e2c831cbe20930886be645b02e48c9bab8e765e291869", func := "loop.example/g01245/laws.FnExactInvariantOf", spec := "fnExactInvariantOf", unfollowed := true, recurses := true, plainKeys := false, apart := false, narrowed := true }
def FnExactInvariantOfUptoSaid : Prop := fnExactInvariantOfUptoRow.holds Try.pinned (OpenSpec.upto fnExactInvariantOfSpec)

/-- 'laws.FnExactTwistOf', WHERE WHAT IT READS IS OF BULK AT MOST 1048576: true; the input reads as it did. -/
def fnExactTwistOfUptoRow : OpenClaim := { program := "yteloknnooebabaa", sum := "704feb738a8b2a2fd64e2c831cbe20930886be645b02e48c9bab8e765e291869", func := "loop.example/g01245/laws.FnExactTwistOf", spec := "fnExactTwistOf", unfollowed := true, recurses := true, plainKeys := false, apart := false, narrowed := true }
def FnExactTwistOfUptoSaid : Prop := fnExactTwistOfUptoRow.holds Try.pinned (OpenSpec.upto fnExactTwistOfSpec)

/-- 'laws.FnExactAreIsomorphic', WHERE WHAT IT READS IS OF BULK AT MOST 1048576: true; the input reads as it did. -/
def fnExactAreIsomorphicUptoRow : OpenClaim := { program := "yteloknnooebabaa", sum := "704feb738a8b2a2fd64e2c831cbe20930886be645b02e48c9bab8e765e291869", func := "loop.example/g01245/laws.FnExactAreIsomorphic", spec := "fnExactAreIsomorphic", unfollowed := true, recurses := true, plainKeys := false, apart := false, narrowed := true }
def FnExactAreIsomorphicUptoSaid : Prop := fnExactAreIsomorphicUptoRow.holds Try.pinned (OpenSpec.upto fnExactAreIsomorphicSpec)

/-- 'laws.FnExactIsIsogeny', WHERE WHAT IT READS IS OF BULK AT MOST 1048576: true; the input reads as it did. -/
def fnExactIsIsogenyUptoRow : OpenClaim := { program := "yteloknnooebabaa", sum := "704feb738a8b2a2fd64e2c831cbe20930886be645b02e48c9bab8e765e291869", func := "loop.example/g01245/laws.FnExactIsIsogeny", spec := "fnExactIsIsogeny", unfollowed := true, recurses := true, plainKeys := false, apart := false, narrowed := true }
def FnExactIsIsogenyUptoSaid : Prop := fnExactIsIsogenyUptoRow.holds Try.pinned (OpenSpec.upto fnExactIsIsogenySpec)

/-- 'laws.FnExactNormOf', WHERE WHAT IT READS IS OF BULK AT MOST 1048576: true; the input reads as it did. -/
def fnExactNormOfUptoRow : OpenClaim := { program := "yteloknnooebabaa", sum := "704feb738a8b2a2fd64e2c831cbe20930886be645b02e48c9bab8e765e291869", func := "loop.example/g01245/laws.FnExactNormOf", spec := "fnExactNormOf", unfollowed := true, recurses := true, plainKeys := false, apart := false, narrowed := true }
def FnExactNormOfUptoSaid : Prop := fnExactNormOfUptoRow.holds Try.pinned (OpenSpec.upto fnExactNormOfSpec)

/-- 'laws.FnExactFrobeniusOf', WHERE WHAT IT READS IS OF BULK AT MOST 1048576: true; the input reads as it did. -/
def fnExactFrobeniusOfUptoRow : OpenClaim := { program := "yteloknnooebabaa", sum := "704feb738a8b2a2fd64e2c831cbe20930886be645b02e48c9bab8e765e291869", func := "loop.example/g01245/laws.FnExactFrobeniusOf", spec := "fnExactFrobeniusOf", unfollowed := true, recurses := true, plainKeys := false, apart := false, narrowed := true }
def FnExactFrobeniusOfUptoSaid : Prop := fnExactFrobeniusOfUptoRow.holds Try.pinned (OpenSpec.upto fnExactFrobeniusOfSpec)

/-- 'laws.FnExactIsSupersingular', WHERE WHAT IT READS IS OF BULK AT MOST 1048576: true; the input reads as it did. -/
def fnExactIsSupersingularUptoRow : OpenClaim := { program := "yteloknnooebabaa", sum := "704feb738a8b2a2fd64e2c831cbe20930886be645b02e48c9bab8e765e291869", func := "loop.example/g01245/laws.FnExactIsSupersingular", spec := "fnExactIsSupersingular", unfollowed := true, recurses := true, plainKeys := false, apart := false, narrowed := true }
def FnExactIsSupersingularUptoSaid : Prop := fnExactIsSupersingularUptoRow.holds Try.pinned (OpenSpec.upto fnExactIsSupersingularSpec)

/-- 'laws.FnExactOrderPolynomial', WHERE WHAT IT READS IS OF BULK AT MOST 1048576: true; the input reads as it did. -/
def fnExactOrderPolynomialUptoRow : OpenClaim := { program := "yteloknnooebabaa", sum := "704feb738a8b2a2fd64e2c831cbe20930886be645b02e48c9bab8e765e291869", func := "loop.example/g01245/laws.FnExactOrderPolynomial", spec := "fnExactOrderPolynomial", unfollowed := true, recurses := true, plainKeys := false, apart := false, narrowed := true }
def FnExactOrderPolynomialUptoSaid : Prop := fnExactOrderPolynomialUptoRow.holds Try.pinned (OpenSpec.upto fnExactOrderPolynomialSpec)

/-- 'laws.FnExactAllDrinfeld', WHERE WHAT IT READS IS OF BULK AT MOST 1048576: true; the input reads as it did. -/
def fnExactAllDrinfeldUptoRow : OpenClaim := { program := "yteloknnooebabaa", sum := "704feb738a8b2a2fd64e2c831cbe20930886be645b02e48c9bab8e765e291869", func := "loop.example/g01245/laws.FnExactAllDrinfeld", spec := "fnExactAllDrinfeld", unfollowed := true, recurses := true, plainKeys := false, apart := false, narrowed := true }
def FnExactAllDrinfeldUptoSaid : Prop := fnExactAllDrinfeldUptoRow.holds Try.pinned (OpenSpec.upto fnExactAllDrinfeldSpec)

/-- 'laws.FnExactCountByTrace', WHERE WHAT IT READS IS OF BULK AT MOST 1048576: true; the input reads as it did. -/
def fnExactCountByTraceUptoRow : OpenClaim := { program := "yteloknnooebabaa", sum := "704feb738a8b2a2fd64e2c831cbe20930886be645b02e48c9bab8e765e291869", func := "loop.example/g01245/laws.FnExactCountByTrace", spec := "fnExactCountByTrace", unfollowed := true, recurses := true, plainKeys := false, apart := false, narrowed := true }
def FnExactCountByTraceUptoSaid : Prop := fnExactCountByTraceUptoRow.holds Try.pinned (OpenSpec.upto fnExactCountByTraceSpec)

end Rows
end Go.Proofs.Yteloknnooebabaa
