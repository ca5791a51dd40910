/-
  No cell of these rows narrows 'for every input' (looked for: loops, veiled, ifaces, maps, wideKeys, modest, calm, conditions, laid).
  DERIVED. THE GIVEN ROWS OF THIS SEAT. 20 by the template 'for every input the law returns true; each argument reads behind the call as it read before'; 0 by the template 'total and deterministic' (their statements: YtdlojnmggogbaaaTotals.lean).
  GIVEN WITH THE SEED: the statements are not yours to turn. If you find one false, say at which input.
  Laid BY PROGRAM, IN A SANDBOX (cutbox-rows.mjs): the forced cells as the released guide's own fill.sh prints them over the translation d879429f22e2ff07… (all of the seat's roots in one cut). By AI agents, Wed Nov 11 2026. No macro, syntax, notation, axiom, sorry.
-/
import Derived.Test.YtdlojnmggogbaaaChecked
import GoSem.Claim
import GoSem.ClaimJoined
import GoSem.ClaimMapViews
import Derived.JoinedTies
import Derived.KernelRfl
namespace Go.Proofs.Ytdlojnmggogbaaa
/- THE CELL 'sum', in the pinned program and in every row, IS THE sha256 OF THE DUMP (.gsa) THAT YtdlojnmggogbaaaProg.lean LOADS. Nothing in Lean hashes anything: it is a label: what it is worth is what the hold of that sum in a sandbox is worth. -/
noncomputable def Try.pinned : Pinned := { name := "ytdlojnmggogbaaa", sum := "d879429f22e2ff07ffc63534823f03903de7d928cc860eaf1b50dd93734c4ad0", checked := Try.checked }
namespace Rows
def none {H : Type} : Left H := { results := [], args := [] }

/-- 'laws.FnExactPowerOfSkew': WHATEVER THE INPUT: true; the input reads as it did. -/
def fnExactPowerOfSkewSpec : ChangeSpec := { name := "fnExactPowerOfSkew", fn := fun _ => fun
  | [d1, d2, d3, d4] => { results := [.lit (.bool true)], args := [d1, d2, d3, d4] }
  | _ => none }
def fnExactPowerOfSkewRow : OpenClaim := { program := "ytdlojnmggogbaaa", sum := "d879429f22e2ff07ffc63534823f03903de7d928cc860eaf1b50dd93734c4ad0", func := "loop.example/g01245/laws.FnExactPowerOfSkew", spec := "fnExactPowerOfSkew", unfollowed := true, recurses := true, plainKeys := false, leaving := true, apart := false }
def FnExactPowerOfSkewSaid : Prop := fnExactPowerOfSkewRow.holds Try.pinned (OpenSpec.ofChange fnExactPowerOfSkewSpec)

/-- ITS FALSE NEIGHBOUR: 'it returns false'. Refute it at one input. -/
def fnExactPowerOfSkewWrong : ChangeSpec := { name := "fnExactPowerOfSkew", fn := fun _ => fun
  | [d1, d2, d3, d4] => { results := [.lit (.bool false)], args := [d1, d2, d3, d4] }
  | _ => none }
def FnExactPowerOfSkewWrongFalsely : Prop := fnExactPowerOfSkewRow.holds Try.pinned (OpenSpec.ofChange fnExactPowerOfSkewWrong)

/-- 'laws.FnExactDivideRight': WHATEVER THE INPUT: true; the input reads as it did. -/
def fnExactDivideRightSpec : ChangeSpec := { name := "fnExactDivideRight", fn := fun _ => fun
  | [d1, d2, d3, d4] => { results := [.lit (.bool true)], args := [d1, d2, d3, d4] }
  | _ => none }
def fnExactDivideRightRow : OpenClaim := { program := "ytdlojnmggogbaaa", sum := "d879429f22e2ff07ffc63534823f03903de7d928cc860eaf1b50dd93734c4ad0", func := "loop.example/g01245/laws.FnExactDivideRight", spec := "fnExactDivideRight", unfollowed := true, recurses := true, plainKeys := false, leaving := true, apart := false }
def FnExactDivideRightSaid : Prop := fnExactDivideRightRow.holds Try.pinned (OpenSpec.ofChange fnExactDivideRightSpec)

/-- ITS FALSE NEIGHBOUR: 'it returns false'. Refute it at one input. -/
def fnExactDivideRightWrong : ChangeSpec := { name := "fnExactDivideRight", fn := fun _ => fun
  | [d1, d2, d3, d4] => { results := [.lit (.bool false)], args := [d1, d2, d3, d4] }
  | _ => none }
def FnExactDivideRightWrongFalsely : Prop := fnExactDivideRightRow.holds Try.pinned (OpenSpec.ofChange fnExactDivideRightWrong)

/-- 'laws.FnExactDivideLeft': WHATEVER THE INPUT: true; the input reads as it did. -/
def fnExactDivideLeftSpec : ChangeSpec := { name := "fnExactDivideLeft", fn := fun _ => fun
  | [d1, d2, d3, d4] => { results := [.lit (.bool true)], args := [d1, d2, d3, d4] }
  | _ => none }
def fnExactDivideLeftRow : OpenClaim := { program := "ytdlojnmggogbaaa", sum := "d879429f22e2ff07ffc63534823f03903de7d928cc860eaf1b50dd93734c4ad0", func := "loop.example/g01245/laws.FnExactDivideLeft", spec := "fnExactDivideLeft", unfollowed := true, recurses := true, plainKeys := false, leaving := true, apart := false }
def FnExactDivideLeftSaid : Prop := fnExactDivideLeftRow.holds Try.pinned (OpenSpec.ofChange fnExactDivideLeftSpec)

/-- ITS FALSE NEIGHBOUR: 'it returns false'. Refute it at one input. -/
def fnExactDivideLeftWrong : ChangeSpec := { name := "fnExactDivideLeft", fn := fun _ => fun
  | [d1, d2, d3, d4] => { results := [.lit (.bool false)], args := [d1, d2, d3, d4] }
  | _ => none }
def FnExactDivideLeftWrongFalsely : Prop := fnExactDivideLeftRow.holds Try.pinned (OpenSpec.ofChange fnExactDivideLeftWrong)

/-- 'laws.FnExactRightDivisor': WHATEVER THE INPUT: true; the input reads as it did. -/
def fnExactRightDivisorSpec : ChangeSpec := { name := "fnExactRightDivisor", fn := fun _ => fun
  | [d1, d2, d3, d4] => { results := [.lit (.bool true)], args := [d1, d2, d3, d4] }
  | _ => none }
def fnExactRightDivisorRow : OpenClaim := { program := "ytdlojnmggogbaaa", sum := "d879429f22e2ff07ffc63534823f03903de7d928cc860eaf1b50dd93734c4ad0", func := "loop.example/g01245/laws.FnExactRightDivisor", spec := "fnExactRightDivisor", unfollowed := true, recurses := true, plainKeys := false, leaving := true, apart := false }
def FnExactRightDivisorSaid : Prop := fnExactRightDivisorRow.holds Try.pinned (OpenSpec.ofChange fnExactRightDivisorSpec)

/-- ITS FALSE NEIGHBOUR: 'it returns false'. Refute it at one input. -/
def fnExactRightDivisorWrong : ChangeSpec := { name := "fnExactRightDivisor", fn := fun _ => fun
  | [d1, d2, d3, d4] => { results := [.lit (.bool false)], args := [d1, d2, d3, d4] }
  | _ => none }
def FnExactRightDivisorWrongFalsely : Prop := fnExactRightDivisorRow.holds Try.pinned (OpenSpec.ofChange fnExactRightDivisorWrong)

/-- 'laws.FnExactLeftMultiple': WHATEVER THE INPUT: true; the input reads as it did. -/
def fnExactLeftMultipleSpec : ChangeSpec := { name := "fnExactLeftMultiple", fn := fun _ => fun
  | [d1, d2, d3, d4] => { results := [.lit (.bool true)], args := [d1, d2, d3, d4] }
  | _ => none }
def fnExactLeftMultipleRow : OpenClaim := { program := "ytdlojnmggogbaaa", sum := "d879429f22e2ff07ffc63534823f03903de7d928cc860eaf1b50dd93734c4ad0", func := "loop.example/g01245/laws.FnExactLeftMultiple", spec := "fnExactLeftMultiple", unfollowed := true, recurses := true, plainKeys := false, leaving := true, apart := false }
def FnExactLeftMultipleSaid : Prop := fnExactLeftMultipleRow.holds Try.pinned (OpenSpec.ofChange fnExactLeftMultipleSpec)

/-- ITS FALSE NEIGHBOUR: 'it returns false'. Refute it at one input. -/
def fnExactLeftMultipleWrong : ChangeSpec := { name := "fnExactLeftMultiple", fn := fun _ => fun
  | [d1, d2, d3, d4] => { results := [.lit (.bool false)], args := [d1, d2, d3, d4] }
  | _ => none }
def FnExactLeftMultipleWrongFalsely : Prop := fnExactLeftMultipleRow.holds Try.pinned (OpenSpec.ofChange fnExactLeftMultipleWrong)

/-- 'laws.FnExactKernelOfSkew': WHATEVER THE INPUT: true; the input reads as it did. -/
def fnExactKernelOfSkewSpec : ChangeSpec := { name := "fnExactKernelOfSkew", fn := fun _ => fun
  | [d1, d2, d3] => { results := [.lit (.bool true)], args := [d1, d2, d3] }
  | _ => none }
def fnExactKernelOfSkewRow : OpenClaim := { program := "ytdlojnmggogbaaa", sum := "d879429f22e2ff07ffc63534823f03903de7d928cc860eaf1b50dd93734c4ad0", func := "loop.example/g01245/laws.FnExactKernelOfSkew", spec := "fnExactKernelOfSkew", inPlace := ["slices.overlaps[loop.example/g01245/impl.Poly]"], unfollowed := true, recurses := true, plainKeys := false, leaving := true, apart := false }
def FnExactKernelOfSkewSaid : Prop := fnExactKernelOfSkewRow.holds Try.pinned (OpenSpec.ofChange fnExactKernelOfSkewSpec)

/-- ITS FALSE NEIGHBOUR: 'it returns false'. Refute it at one input. -/
def fnExactKernelOfSkewWrong : ChangeSpec := { name := "fnExactKernelOfSkew", fn := fun _ => fun
  | [d1, d2, d3] => { results := [.lit (.bool false)], args := [d1, d2, d3] }
  | _ => none }
def FnExactKernelOfSkewWrongFalsely : Prop := fnExactKernelOfSkewRow.holds Try.pinned (OpenSpec.ofChange fnExactKernelOfSkewWrong)

/-- 'laws.FnExactLeastSkew': WHATEVER THE INPUT: true; the input reads as it did. -/
def fnExactLeastSkewSpec : ChangeSpec := { name := "fnExactLeastSkew", fn := fun _ => fun
  | [d1, d2, d3] => { results := [.lit (.bool true)], args := [d1, d2, d3] }
  | _ => none }
def fnExactLeastSkewRow : OpenClaim := { program := "ytdlojnmggogbaaa", sum := "d879429f22e2ff07ffc63534823f03903de7d928cc860eaf1b50dd93734c4ad0", func := "loop.example/g01245/laws.FnExactLeastSkew", spec := "fnExactLeastSkew", unfollowed := true, recurses := true, plainKeys := false, leaving := true, apart := false }
def FnExactLeastSkewSaid : Prop := fnExactLeastSkewRow.holds Try.pinned (OpenSpec.ofChange fnExactLeastSkewSpec)

/-- ITS FALSE NEIGHBOUR: 'it returns false'. Refute it at one input. -/
def fnExactLeastSkewWrong : ChangeSpec := { name := "fnExactLeastSkew", fn := fun _ => fun
  | [d1, d2, d3] => { results := [.lit (.bool false)], args := [d1, d2, d3] }
  | _ => none }
def FnExactLeastSkewWrongFalsely : Prop := fnExactLeastSkewRow.holds Try.pinned (OpenSpec.ofChange fnExactLeastSkewWrong)

/-- 'laws.FnExactCarlitzGenerator': WHATEVER THE INPUT: true; the input reads as it did. -/
def fnExactCarlitzGeneratorSpec : ChangeSpec := { name := "fnExactCarlitzGenerator", fn := fun _ => fun
  | [d1, d2] => { results := [.lit (.bool true)], args := [d1, d2] }
  | _ => none }
def fnExactCarlitzGeneratorRow : OpenClaim := { program := "ytdlojnmggogbaaa", sum := "d879429f22e2ff07ffc63534823f03903de7d928cc860eaf1b50dd93734c4ad0", func := "loop.example/g01245/laws.FnExactCarlitzGenerator", spec := "fnExactCarlitzGenerator", unfollowed := true, recurses := true, plainKeys := false, leaving := true, apart := false }
def FnExactCarlitzGeneratorSaid : Prop := fnExactCarlitzGeneratorRow.holds Try.pinned (OpenSpec.ofChange fnExactCarlitzGeneratorSpec)

/-- ITS FALSE NEIGHBOUR: 'it returns false'. Refute it at one input. -/
def fnExactCarlitzGeneratorWrong : ChangeSpec := { name := "fnExactCarlitzGenerator", fn := fun _ => fun
  | [d1, d2] => { results := [.lit (.bool false)], args := [d1, d2] }
  | _ => none }
def FnExactCarlitzGeneratorWrongFalsely : Prop := fnExactCarlitzGeneratorRow.holds Try.pinned (OpenSpec.ofChange fnExactCarlitzGeneratorWrong)

/-- 'laws.FnExactIsSquare': WHATEVER THE INPUT: true; the input reads as it did. -/
def fnExactIsSquareSpec : ChangeSpec := { name := "fnExactIsSquare", fn := fun _ => fun
  | [d1, d2, d3] => { results := [.lit (.bool true)], args := [d1, d2, d3] }
  | _ => none }
def fnExactIsSquareRow : OpenClaim := { program := "ytdlojnmggogbaaa", sum := "d879429f22e2ff07ffc63534823f03903de7d928cc860eaf1b50dd93734c4ad0", func := "loop.example/g01245/laws.FnExactIsSquare", spec := "fnExactIsSquare", plainKeys := false, apart := false }
def FnExactIsSquareSaid : Prop := fnExactIsSquareRow.holds Try.pinned (OpenSpec.ofChange fnExactIsSquareSpec)

/-- ITS FALSE NEIGHBOUR: 'it returns false'. Refute it at one input. -/
def fnExactIsSquareWrong : ChangeSpec := { name := "fnExactIsSquare", fn := fun _ => fun
  | [d1, d2, d3] => { results := [.lit (.bool false)], args := [d1, d2, d3] }
  | _ => none }
def FnExactIsSquareWrongFalsely : Prop := fnExactIsSquareRow.holds Try.pinned (OpenSpec.ofChange fnExactIsSquareWrong)

/-- 'laws.FnExactApplySquare': WHATEVER THE INPUT: true; the input reads as it did. -/
def fnExactApplySquareSpec : ChangeSpec := { name := "fnExactApplySquare", fn := fun _ => fun
  | [d1, d2, d3, d4, d5] => { results := [.lit (.bool true)], args := [d1, d2, d3, d4, d5] }
  | _ => none }
def fnExactApplySquareRow : OpenClaim := { program := "ytdlojnmggogbaaa", sum := "d879429f22e2ff07ffc63534823f03903de7d928cc860eaf1b50dd93734c4ad0", func := "loop.example/g01245/laws.FnExactApplySquare", spec := "fnExactApplySquare", unfollowed := true, recurses := true, plainKeys := false, leaving := true, apart := false }
def FnExactApplySquareSaid : Prop := fnExactApplySquareRow.holds Try.pinned (OpenSpec.ofChange fnExactApplySquareSpec)

/-- ITS FALSE NEIGHBOUR: 'it returns false'. Refute it at one input. -/
def fnExactApplySquareWrong : ChangeSpec := { name := "fnExactApplySquare", fn := fun _ => fun
  | [d1, d2, d3, d4, d5] => { results := [.lit (.bool false)], args := [d1, d2, d3, d4, d5] }
  | _ => none }
def FnExactApplySquareWrongFalsely : Prop := fnExactApplySquareRow.holds Try.pinned (OpenSpec.ofChange fnExactApplySquareWrong)

/-- 'laws.FnExactCharacteristicOf': WHATEVER THE INPUT: true; the input reads as it did. -/
def fnExactCharacteristicOfSpec : ChangeSpec := { name := "fnExactCharacteristicOf", fn := fun _ => fun
  | [d1, d2, d3] => { results := [.lit (.bool true)], args := [d1, d2, d3] }
  | _ => none }
def fnExactCharacteristicOfRow : OpenClaim := { program := "ytdlojnmggogbaaa", sum := "d879429f22e2ff07ffc63534823f03903de7d928cc860eaf1b50dd93734c4ad0", func := "loop.example/g01245/laws.FnExactCharacteristicOf", spec := "fnExactCharacteristicOf", unfollowed := true, recurses := true, plainKeys := false, leaving := true, apart := false }
def FnExactCharacteristicOfSaid : Prop := fnExactCharacteristicOfRow.holds Try.pinned (OpenSpec.ofChange fnExactCharacteristicOfSpec)

/-- ITS FALSE NEIGHBOUR: 'it returns false'. Refute it at one input. -/
def fnExactCharacteristicOfWrong : ChangeSpec := { name := "fnExactCharacteristicOf", fn := fun _ => fun
  | [d1, d2, d3] => { results := [.lit (.bool false)], args := [d1, d2, d3] }
  | _ => none }
def FnExactCharacteristicOfWrongFalsely : Prop := fnExactCharacteristicOfRow.holds Try.pinned (OpenSpec.ofChange fnExactCharacteristicOfWrong)

/-- 'laws.FnExactLeastOf': WHATEVER THE INPUT: true; the input reads as it did. -/
def fnExactLeastOfSpec : ChangeSpec := { name := "fnExactLeastOf", fn := fun _ => fun
  | [d1, d2, d3] => { results := [.lit (.bool true)], args := [d1, d2, d3] }
  | _ => none }
def fnExactLeastOfRow : OpenClaim := { program := "ytdlojnmggogbaaa", sum := "d879429f22e2ff07ffc63534823f03903de7d928cc860eaf1b50dd93734c4ad0", func := "loop.example/g01245/laws.FnExactLeastOf", spec := "fnExactLeastOf", unfollowed := true, recurses := true, plainKeys := false, leaving := true, apart := false }
def FnExactLeastOfSaid : Prop := fnExactLeastOfRow.holds Try.pinned (OpenSpec.ofChange fnExactLeastOfSpec)

/-- ITS FALSE NEIGHBOUR: 'it returns false'. Refute it at one input. -/
def fnExactLeastOfWrong : ChangeSpec := { name := "fnExactLeastOf", fn := fun _ => fun
  | [d1, d2, d3] => { results := [.lit (.bool false)], args := [d1, d2, d3] }
  | _ => none }
def FnExactLeastOfWrongFalsely : Prop := fnExactLeastOfRow.holds Try.pinned (OpenSpec.ofChange fnExactLeastOfWrong)

/-- 'laws.FnExactOrderOfVector': WHATEVER THE INPUT: true; the input reads as it did. -/
def fnExactOrderOfVectorSpec : ChangeSpec := { name := "fnExactOrderOfVector", fn := fun _ => fun
  | [d1, d2, d3, d4] => { results := [.lit (.bool true)], args := [d1, d2, d3, d4] }
  | _ => none }
def fnExactOrderOfVectorRow : OpenClaim := { program := "ytdlojnmggogbaaa", sum := "d879429f22e2ff07ffc63534823f03903de7d928cc860eaf1b50dd93734c4ad0", func := "loop.example/g01245/laws.FnExactOrderOfVector", spec := "fnExactOrderOfVector", unfollowed := true, recurses := true, plainKeys := false, leaving := true, apart := false }
def FnExactOrderOfVectorSaid : Prop := fnExactOrderOfVectorRow.holds Try.pinned (OpenSpec.ofChange fnExactOrderOfVectorSpec)

/-- ITS FALSE NEIGHBOUR: 'it returns false'. Refute it at one input. -/
def fnExactOrderOfVectorWrong : ChangeSpec := { name := "fnExactOrderOfVector", fn := fun _ => fun
  | [d1, d2, d3, d4] => { results := [.lit (.bool false)], args := [d1, d2, d3, d4] }
  | _ => none }
def FnExactOrderOfVectorWrongFalsely : Prop := fnExactOrderOfVectorRow.holds Try.pinned (OpenSpec.ofChange fnExactOrderOfVectorWrong)

/-- 'laws.FnExactInvariantFactors': WHATEVER THE INPUT: true; the input reads as it did. -/
def fnExactInvariantFactorsSpec : ChangeSpec := { name := "fnExactInvariantFactors", fn := fun _ => fun
  | [d1, d2, d3] => { results := [.lit (.bool true)], args := [d1, d2, d3] }
  | _ => none }
def fnExactInvariantFactorsRow : OpenClaim := { program := "ytdlojnmggogbaaa", sum := "d879429f22e2ff07ffc63534823f03903de7d928cc860eaf1b50dd93734c4ad0", func := "loop.example/g01245/laws.FnExactInvariantFactors", spec := "fnExactInvariantFactors", inPlace := ["slices.overlaps[loop.example/g01245/impl.Poly]"], unfollowed := true, recurses := true, plainKeys := false, leaving := true, apart := false }
def FnExactInvariantFactorsSaid : Prop := fnExactInvariantFactorsRow.holds Try.pinned (OpenSpec.ofChange fnExactInvariantFactorsSpec)

/-- ITS FALSE NEIGHBOUR: 'it returns false'. Refute it at one input. -/
def fnExactInvariantFactorsWrong : ChangeSpec := { name := "fnExactInvariantFactors", fn := fun _ => fun
  | [d1, d2, d3] => { results := [.lit (.bool false)], args := [d1, d2, d3] }
  | _ => none }
def FnExactInvariantFactorsWrongFalsely : Prop := fnExactInvariantFactorsRow.holds Try.pinned (OpenSpec.ofChange fnExactInvariantFactorsWrong)

/-- 'laws.FnExactIsCyclicModule': WHATEVER THE INPUT: true; the input reads as it did. -/
def fnExactIsCyclicModuleSpec : ChangeSpec := { name := "fnExactIsCyclicModule", fn := fun _ => fun
  | [d1, d2, d3] => { results := [.lit (.bool true)], args := [d1, d2, d3] }
  | _ => none }
def fnExactIsCyclicModuleRow : OpenClaim := { program := "ytdlojnmggogbaaa", sum := "d879429f22e2ff07ffc63534823f03903de7d928cc860eaf1b50dd93734c4ad0", func := "loop.example/g01245/laws.FnExactIsCyclicModule", spec := "fnExactIsCyclicModule", unfollowed := true, recurses := true, plainKeys := false, leaving := true, apart := false }
def FnExactIsCyclicModuleSaid : Prop := fnExactIsCyclicModuleRow.holds Try.pinned (OpenSpec.ofChange fnExactIsCyclicModuleSpec)

/-- ITS FALSE NEIGHBOUR: 'it returns false'. Refute it at one input. -/
def fnExactIsCyclicModuleWrong : ChangeSpec := { name := "fnExactIsCyclicModule", fn := fun _ => fun
  | [d1, d2, d3] => { results := [.lit (.bool false)], args := [d1, d2, d3] }
  | _ => none }
def FnExactIsCyclicModuleWrongFalsely : Prop := fnExactIsCyclicModuleRow.holds Try.pinned (OpenSpec.ofChange fnExactIsCyclicModuleWrong)

/-- 'laws.FnExactModuleGenerator': WHATEVER THE INPUT: true; the input reads as it did. -/
def fnExactModuleGeneratorSpec : ChangeSpec := { name := "fnExactModuleGenerator", fn := fun _ => fun
  | [d1, d2, d3] => { results := [.lit (.bool true)], args := [d1, d2, d3] }
  | _ => none }
def fnExactModuleGeneratorRow : OpenClaim := { program := "ytdlojnmggogbaaa", sum := "d879429f22e2ff07ffc63534823f03903de7d928cc860eaf1b50dd93734c4ad0", func := "loop.example/g01245/laws.FnExactModuleGenerator", spec := "fnExactModuleGenerator", unfollowed := true, recurses := true, plainKeys := false, leaving := true, apart := false }
def FnExactModuleGeneratorSaid : Prop := fnExactModuleGeneratorRow.holds Try.pinned (OpenSpec.ofChange fnExactModuleGeneratorSpec)

/-- ITS FALSE NEIGHBOUR: 'it returns false'. Refute it at one input. -/
def fnExactModuleGeneratorWrong : ChangeSpec := { name := "fnExactModuleGenerator", fn := fun _ => fun
  | [d1, d2, d3] => { results := [.lit (.bool false)], args := [d1, d2, d3] }
  | _ => none }
def FnExactModuleGeneratorWrongFalsely : Prop := fnExactModuleGeneratorRow.holds Try.pinned (OpenSpec.ofChange fnExactModuleGeneratorWrong)

/-- 'laws.FnExactKernelOfPoly': WHATEVER THE INPUT: true; the input reads as it did. -/
def fnExactKernelOfPolySpec : ChangeSpec := { name := "fnExactKernelOfPoly", fn := fun _ => fun
  | [d1, d2, d3, d4] => { results := [.lit (.bool true)], args := [d1, d2, d3, d4] }
  | _ => none }
def fnExactKernelOfPolyRow : OpenClaim := { program := "ytdlojnmggogbaaa", sum := "d879429f22e2ff07ffc63534823f03903de7d928cc860eaf1b50dd93734c4ad0", func := "loop.example/g01245/laws.FnExactKernelOfPoly", spec := "fnExactKernelOfPoly", unfollowed := true, recurses := true, plainKeys := false, leaving := true, apart := false }
def FnExactKernelOfPolySaid : Prop := fnExactKernelOfPolyRow.holds Try.pinned (OpenSpec.ofChange fnExactKernelOfPolySpec)

/-- ITS FALSE NEIGHBOUR: 'it returns false'. Refute it at one input. -/
def fnExactKernelOfPolyWrong : ChangeSpec := { name := "fnExactKernelOfPoly", fn := fun _ => fun
  | [d1, d2, d3, d4] => { results := [.lit (.bool false)], args := [d1, d2, d3, d4] }
  | _ => none }
def FnExactKernelOfPolyWrongFalsely : Prop := fnExactKernelOfPolyRow.holds Try.pinned (OpenSpec.ofChange fnExactKernelOfPolyWrong)

/-- 'laws.FnExactSquareOfSkew': WHATEVER THE INPUT: true; the input reads as it did. -/
def fnExactSquareOfSkewSpec : ChangeSpec := { name := "fnExactSquareOfSkew", fn := fun _ => fun
  | [d1, d2, d3] => { results := [.lit (.bool true)], args := [d1, d2, d3] }
  | _ => none }
def fnExactSquareOfSkewRow : OpenClaim := { program := "ytdlojnmggogbaaa", sum := "d879429f22e2ff07ffc63534823f03903de7d928cc860eaf1b50dd93734c4ad0", func := "loop.example/g01245/laws.FnExactSquareOfSkew", spec := "fnExactSquareOfSkew", unfollowed := true, recurses := true, plainKeys := false, leaving := true, apart := false }
def FnExactSquareOfSkewSaid : Prop := fnExactSquareOfSkewRow.holds Try.pinned (OpenSpec.ofChange fnExactSquareOfSkewSpec)

/-- ITS FALSE NEIGHBOUR: 'it returns false'. Refute it at one input. -/
def fnExactSquareOfSkewWrong : ChangeSpec := { name := "fnExactSquareOfSkew", fn := fun _ => fun
  | [d1, d2, d3] => { results := [.lit (.bool false)], args := [d1, d2, d3] }
  | _ => none }
def FnExactSquareOfSkewWrongFalsely : Prop := fnExactSquareOfSkewRow.holds Try.pinned (OpenSpec.ofChange fnExactSquareOfSkewWrong)

/-- 'laws.FnExactCompanionOf': WHATEVER THE INPUT: true; the input reads as it did. -/
def fnExactCompanionOfSpec : ChangeSpec := { name := "fnExactCompanionOf", fn := fun _ => fun
  | [d1, d2] => { results := [.lit (.bool true)], args := [d1, d2] }
  | _ => none }
def fnExactCompanionOfRow : OpenClaim := { program := "ytdlojnmggogbaaa", sum := "d879429f22e2ff07ffc63534823f03903de7d928cc860eaf1b50dd93734c4ad0", func := "loop.example/g01245/laws.FnExactCompanionOf", spec := "fnExactCompanionOf", unfollowed := true, recurses := true, plainKeys := false, leaving := true, apart := false }
def FnExactCompanionOfSaid : Prop := fnExactCompanionOfRow.holds Try.pinned (OpenSpec.ofChange fnExactCompanionOfSpec)

/-- ITS FALSE NEIGHBOUR: 'it returns false'. Refute it at one input. -/
def fnExactCompanionOfWrong : ChangeSpec := { name := "fnExactCompanionOf", fn := fun _ => fun
  | [d1, d2] => { results := [.lit (.bool false)], args := [d1, d2] }
  | _ => none }
def FnExactCompanionOfWrongFalsely : Prop := fnExactCompanionOfRow.holds Try.pinned (OpenSpec.ofChange fnExactCompanionOfWrong)

/-- 'laws.FnExactAreSimilar': WHATEVER THE INPUT: true; the input reads as it did. -/
def fnExactAreSimilarSpec : ChangeSpec := { name := "fnExactAreSimilar", fn := fun _ => fun
  | [d1, d2, d3, d4] => { results := [.lit (.bool true)], args := [d1, d2, d3, d4] }
  | _ => none }
def fnExactAreSimilarRow : OpenClaim := { program := "ytdlojnmggogbaaa", sum := "d879429f22e2ff07ffc63534823f03903de7d928cc860eaf1b50dd93734c4ad0", func := "loop.example/g01245/laws.FnExactAreSimilar", spec := "fnExactAreSimilar", inPlace := ["slices.overlaps[loop.example/g01245/impl.Poly]"], unfollowed := true, recurses := true, plainKeys := false, leaving := true, apart := false }
def FnExactAreSimilarSaid : Prop := fnExactAreSimilarRow.holds Try.pinned (OpenSpec.ofChange fnExactAreSimilarSpec)

/-- ITS FALSE NEIGHBOUR: 'it returns false'. Refute it at one input. -/
def fnExactAreSimilarWrong : ChangeSpec := { name := "fnExactAreSimilar", fn := fun _ => fun
  | [d1, d2, d3, d4] => { results := [.lit (.bool false)], args := [d1, d2, d3, d4] }
  | _ => none }
def FnExactAreSimilarWrongFalsely : Prop := fnExactAreSimilarRow.holds Try.pinned (OpenSpec.ofChange fnExactAreSimilarWrong)

/- THE SECOND FORM. 'bulk': how many values and letters a reading holds, each counted each time it is reached (what is shared counts as often as it is met; a slice's spare places count too). A statement '..UptoSaid' is the law's where the arguments, and the package variables that the reading takes, are together of bulk at most 1048576: NARROWER than '..Said'. Prove '..Said' where nothing that the law and all that it calls make is longer than what came in: it says more and counts as full. Else prove '..UptoSaid'. A law counts once. -/
mutual
def uptoBulk {H : Type} : DataW H → Nat
  | .lit (.string bytes) => bytes.length + 1
  | .lit _ => 1
  | .nil => 1
  | .ptr d => uptoBulk d + 1
  | .slice elems spare => uptoBulkAll elems + uptoBulkAll spare + 1
  | .agg parts => uptoBulkAll parts + 1
  | .iface _ d => uptoBulk d + 1
  | .map entries => uptoBulkEntries entries + 1
  | .held _ => 1
def uptoBulkAll {H : Type} : List (DataW H) → Nat
  | [] => 0
  | d :: r => uptoBulk d + uptoBulkAll r
def uptoBulkEntries {H : Type} : List (Lit × DataW H) → Nat
  | [] => 0
  | x :: r => uptoBulkEntry x + uptoBulkEntries r
def uptoBulkEntry {H : Type} : Lit × DataW H → Nat
  | (.string bytes, d) => bytes.length + uptoBulk d + 1
  | (_, d) => uptoBulk d + 1
 end
def uptoSmall : (H : Type) → List (DataW H) → Bool := fun _ ds => decide (uptoBulkAll ds ≤ 1048576)
def OpenSpec.upto (s : _root_.Go.ChangeSpec) : _root_.Go.OpenSpec := { _root_.Go.OpenSpec.ofChange s with cond := some uptoSmall }

/-- 'laws.FnExactPowerOfSkew', WHERE WHAT IT READS IS OF BULK AT MOST 1048576: true; the input reads as it did. -/
def fnExactPowerOfSkewUptoRow : OpenClaim := { program := "ytdlojnmggogbaaa", sum := "d879429f22e2ff07ffc63534823f03903de7d928cc860eaf1b50dd93734c4ad0", func := "loop.example/g01245/laws.FnExactPowerOfSkew", spec := "fnExactPowerOfSkew", unfollowed := true, recurses := true, plainKeys := false, leaving := true, apart := false, narrowed := true }
def FnExactPowerOfSkewUptoSaid : Prop := fnExactPowerOfSkewUptoRow.holds Try.pinned (OpenSpec.upto fnExactPowerOfSkewSpec)

/-- 'laws.FnExactDivideRight', WHERE WHAT IT READS IS OF BULK AT MOST 1048576: true; the input reads as it did. -/
def fnExactDivideRightUptoRow : OpenClaim := { program := "ytdlojnmggogbaaa", sum := "d879429f22e2ff07ffc63534823f03903de7d928cc860eaf1b50dd93734c4ad0", func := "loop.example/g01245/laws.FnExactDivideRight", spec := "fnExactDivideRight", unfollowed := true, recurses := true, plainKeys := false, leaving := true, apart := false, narrowed := true }
def FnExactDivideRightUptoSaid : Prop := fnExactDivideRightUptoRow.holds Try.pinned (OpenSpec.upto fnExactDivideRightSpec)

/-- 'laws.FnExactDivideLeft', WHERE WHAT IT READS IS OF BULK AT MOST 1048576: true; the input reads as it did. -/
def fnExactDivideLeftUptoRow : OpenClaim := { program := "ytdlojnmggogbaaa", sum := "d879429f22e2ff07ffc63534823f03903de7d928cc860eaf1b50dd93734c4ad0", func := "loop.example/g01245/laws.FnExactDivideLeft", spec := "fnExactDivideLeft", unfollowed := true, recurses := true, plainKeys := false, leaving := true, apart := false, narrowed := true }
def FnExactDivideLeftUptoSaid : Prop := fnExactDivideLeftUptoRow.holds Try.pinned (OpenSpec.upto fnExactDivideLeftSpec)

/-- 'laws.FnExactRightDivisor', WHERE WHAT IT READS IS OF BULK AT MOST 1048576: true; the input reads as it did. -/
def fnExactRightDivisorUptoRow : OpenClaim := { program := "ytdlojnmggogbaaa", sum := "d879429f22e2ff07ffc63534823f03903de7d928cc860eaf1b50dd93734c4ad0", func := "loop.example/g01245/laws.FnExactRightDivisor", spec := "fnExactRightDivisor", unfollowed := true, recurses := true, plainKeys := false, leaving := true, apart := false, narrowed := true }
def FnExactRightDivisorUptoSaid : Prop := fnExactRightDivisorUptoRow.holds Try.pinned (OpenSpec.upto fnExactRightDivisorSpec)

/-- 'laws.FnExactLeftMultiple', WHERE WHAT IT READS IS OF BULK AT MOST 1048576: true; the input reads as it did. -/
def fnExactLeftMultipleUptoRow : OpenClaim := { program := "ytdlojnmggogbaaa", sum := "d879429f22e2ff07ffc63534823f03903de7d928cc860eaf1b50dd93734c4ad0", func := "loop.example/g01245/laws.FnExactLeftMultiple", spec := "fnExactLeftMultiple", unfollowed := true, recurses := true, plainKeys := false, leaving := true, apart := false, narrowed := true }
def FnExactLeftMultipleUptoSaid : Prop := fnExactLeftMultipleUptoRow.holds Try.pinned (OpenSpec.upto fnExactLeftMultipleSpec)

/-- 'laws.FnExactKernelOfSkew', WHERE WHAT IT READS IS OF BULK AT MOST 1048576: true; the input reads as it did. -/
def fnExactKernelOfSkewUptoRow : OpenClaim := { program := "ytdlojnmggogbaaa", sum := "d879429f22e2ff07ffc63534823f03903de7d928cc860eaf1b50dd93734c4ad0", func := "loop.example/g01245/laws.FnExactKernelOfSkew", spec := "fnExactKernelOfSkew", inPlace := ["slices.overlaps[loop.example/g01245/impl.Poly]"], unfollowed := true, recurses := true, plainKeys := false, leaving := true, apart := false, narrowed := true }
def FnExactKernelOfSkewUptoSaid : Prop := fnExactKernelOfSkewUptoRow.holds Try.pinned (OpenSpec.upto fnExactKernelOfSkewSpec)

/-- 'laws.FnExactLeastSkew', WHERE WHAT IT READS IS OF BULK AT MOST 1048576: true; the input reads as it did. -/
def fnExactLeastSkewUptoRow : OpenClaim := { program := "ytdlojnmggogbaaa", sum := "d879429f22e2ff07ffc63534823f03903de7d928cc860eaf1b50dd93734c4ad0", func := "loop.example/g01245/laws.FnExactLeastSkew", spec := "fnExactLeastSkew", unfollowed := true, recurses := true, plainKeys := false, leaving := true, apart := false, narrowed := true }
def FnExactLeastSkewUptoSaid : Prop := fnExactLeastSkewUptoRow.holds Try.pinned (OpenSpec.upto fnExactLeastSkewSpec)

/-- 'laws.FnExactCarlitzGenerator', WHERE WHAT IT READS IS OF BULK AT MOST 1048576: true; the input reads as it did. -/
def fnExactCarlitzGeneratorUptoRow : OpenClaim := { program := "ytdlojnmggogbaaa", sum := "d879429f22e2ff07ffc63534823f03903de7d928cc860eaf1b50dd93734c4ad0", func := "loop.example/g01245/laws.FnExactCarlitzGenerator", spec := "fnExactCarlitzGenerator", unfollowed := true, recurses := true, plainKeys := false, leaving := true, apart := false, narrowed := true }
def FnExactCarlitzGeneratorUptoSaid : Prop := fnExactCarlitzGeneratorUptoRow.holds Try.pinned (OpenSpec.upto fnExactCarlitzGeneratorSpec)

/-- 'laws.FnExactIsSquare', WHERE WHAT IT READS IS OF BULK AT MOST 1048576: true; the input reads as it did. -/
def fnExactIsSquareUptoRow : OpenClaim := { program := "ytdlojnmggogbaaa", sum := "d879429f22e2ff07ffc63534823f03903de7d928cc860eaf1b50dd93734c4ad0", func := "loop.example/g01245/laws.FnExactIsSquare", spec := "fnExactIsSquare", plainKeys := false, apart := false, narrowed := true }
def FnExactIsSquareUptoSaid : Prop := fnExactIsSquareUptoRow.holds Try.pinned (OpenSpec.upto fnExactIsSquareSpec)

/-- 'laws.FnExactApplySquare', WHERE WHAT IT READS IS OF BULK AT MOST 1048576: true; the input reads as it did. -/
def fnExactApplySquareUptoRow : OpenClaim := { program := "ytdlojnmggogbaaa", sum := "d879429f22e2ff07ffc63534823f03903de7d928cc860eaf1b50dd93734c4ad0", func := "loop.example/g01245/laws.FnExactApplySquare", spec := "fnExactApplySquare", unfollowed := true, recurses := true, plainKeys := false, leaving := true, apart := false, narrowed := true }
def FnExactApplySquareUptoSaid : Prop := fnExactApplySquareUptoRow.holds Try.pinned (OpenSpec.upto fnExactApplySquareSpec)

/-- 'laws.FnExactCharacteristicOf', WHERE WHAT IT READS IS OF BULK AT MOST 1048576: true; the input reads as it did. -/
def fnExactCharacteristicOfUptoRow : OpenClaim := { program := "ytdlojnmggogbaaa", sum := "d879429f22e2ff07ffc63534823f03903de7d928cc860eaf1b50dd93734c4ad0", func := "loop.example/g01245/laws.FnExactCharacteristicOf", spec := "fnExactCharacteristicOf", unfollowed := true, recurses := true, plainKeys := false, leaving := true, apart := false, narrowed := true }
def FnExactCharacteristicOfUptoSaid : Prop := fnExactCharacteristicOfUptoRow.holds Try.pinned (OpenSpec.upto fnExactCharacteristicOfSpec)

/-- 'laws.FnExactLeastOf', WHERE WHAT IT READS IS OF BULK AT MOST 1048576: true; the input reads as it did. -/
def fnExactLeastOfUptoRow : OpenClaim := { program := "ytdlojnmggogbaaa", sum := "d879429f22e2ff07ffc63534823f03903de7d928cc860eaf1b50dd93734c4ad0", func := "loop.example/g01245/laws.FnExactLeastOf", spec := "fnExactLeastOf", unfollowed := true, recurses := true, plainKeys := false, leaving := true, apart := false, narrowed := true }
def FnExactLeastOfUptoSaid : Prop := fnExactLeastOfUptoRow.holds Try.pinned (OpenSpec.upto fnExactLeastOfSpec)

/-- 'laws.FnExactOrderOfVector', WHERE WHAT IT READS IS OF BULK AT MOST 1048576: true; the input reads as it did. -/
def fnExactOrderOfVectorUptoRow : OpenClaim := { program := "ytdlojnmggogbaaa", sum := "d879429f22e2ff07ffc63534823f03903de7d928cc860eaf1b50dd93734c4ad0", func := "loop.example/g01245/laws.FnExactOrderOfVector", spec := "fnExactOrderOfVector", unfollowed := true, recurses := true, plainKeys := false, leaving := true, apart := false, narrowed := true }
def FnExactOrderOfVectorUptoSaid : Prop := fnExactOrderOfVectorUptoRow.holds Try.pinned (OpenSpec.upto fnExactOrderOfVectorSpec)

/-- 'laws.FnExactInvariantFactors', WHERE WHAT IT READS IS OF BULK AT MOST 1048576: true; the input reads as it did. -/
def fnExactInvariantFactorsUptoRow : OpenClaim := { program := "ytdlojnmggogbaaa", sum := "d879429f22e2ff07ffc63534823f03903de7d928cc860eaf1b50dd93734c4ad0", func := "loop.example/g01245/laws.FnExactInvariantFactors", spec := "fnExactInvariantFactors", inPlace := ["slices.overlaps[loop.example/g01245/impl.Poly]"], unfollowed := true, recurses := true, plainKeys := false, leaving := true, apart := false, narrowed := true }
def FnExactInvariantFactorsUptoSaid : Prop := fnExactInvariantFactorsUptoRow.holds Try.pinned (OpenSpec.upto fnExactInvariantFactorsSpec)

/-- 'laws.FnExactIsCyclicModule', WHERE WHAT IT READS IS OF BULK AT MOST 1048576: true; the input reads as it did. -/
def fnExactIsCyclicModuleUptoRow : OpenClaim := { program := "ytdlojnmggogbaaa", sum := "d879429f22e2ff07ffc63534823f03903de7d928cc860eaf1b50dd93734c4ad0", func := "loop.example/g01245/laws.FnExactIsCyclicModule", spec := "fnExactIsCyclicModule", unfollowed := true, recurses := true, plainKeys := false, leaving := true, apart := false, narrowed := true }
def FnExactIsCyclicModuleUptoSaid : Prop := fnExactIsCyclicModuleUptoRow.holds Try.pinned (OpenSpec.upto fnExactIsCyclicModuleSpec)

/-- 'laws.FnExactModuleGenerator', WHERE WHAT IT READS IS OF BULK AT MOST 1048576: true; the input reads as it did. -/
def fnExactModuleGeneratorUptoRow : OpenClaim := { program := "ytdlojnmggogbaaa", sum := "d879429f22e2ff07ffc63534823f03903de7d928cc860eaf1b50dd93734c4ad0", func := "loop.example/g01245/laws.FnExactModuleGenerator", spec := "fnExactModuleGenerator", unfollowed := true, recurses := true, plainKeys := false, leaving := true, apart := false, narrowed := true }
def FnExactModuleGeneratorUptoSaid : Prop := fnExactModuleGeneratorUptoRow.holds Try.pinned (OpenSpec.upto fnExactModuleGeneratorSpec)

/-- 'laws.FnExactKernelOfPoly', WHERE WHAT IT READS IS OF BULK AT MOST 1048576: true; the input reads as it did. -/
def fnExactKernelOfPolyUptoRow : OpenClaim := { program := "ytdlojnmggogbaaa", sum := "d879429f22e2ff07ffc63534823f03903de7d928cc860eaf1b50dd93734c4ad0", func := "loop.example/g01245/laws.FnExactKernelOfPoly", spec := "fnExactKernelOfPoly", unfollowed := true, recurses := true, plainKeys := false, leaving := true, apart := false, narrowed := true }
def FnExactKernelOfPolyUptoSaid : Prop := fnExactKernelOfPolyUptoRow.holds Try.pinned (OpenSpec.upto fnExactKernelOfPolySpec)

/-- 'laws.FnExactSquareOfSkew', WHERE WHAT IT READS IS OF BULK AT MOST 1048576: true; the input reads as it did. -/
def fnExactSquareOfSkewUptoRow : OpenClaim := { program := "ytdlojnmggogbaaa", sum := "d879429f22e2ff07ffc63534823f03903de7d928cc860eaf1b50dd93734c4ad0", func := "loop.example/g01245/laws.FnExactSquareOfSkew", spec := "fnExactSquareOfSkew", unfollowed := true, recurses := true, plainKeys := false, leaving := true, apart := false, narrowed := true }
def FnExactSquareOfSkewUptoSaid : Prop := fnExactSquareOfSkewUptoRow.holds Try.pinned (OpenSpec.upto fnExactSquareOfSkewSpec)

/-- 'laws.FnExactCompanionOf', WHERE WHAT IT READS IS OF BULK AT MOST 1048576: true; the input reads as it did. -/
def fnExactCompanionOfUptoRow : OpenClaim := { program := "ytdlojnmggogbaaa", sum := "d879429f22e2ff07ffc63534823f03903de7d928cc860eaf1b50dd93734c4ad0", func := "loop.example/g01245/laws.FnExactCompanionOf", spec := "fnExactCompanionOf", unfollowed := true, recurses := true, plainKeys := false, leaving := true, apart := false, narrowed := true }
def FnExactCompanionOfUptoSaid : Prop := fnExactCompanionOfUptoRow.holds Try.pinned (OpenSpec.upto fnExactCompanionOfSpec)

/-- 'laws.FnExactAreSimilar', WHERE WHAT IT READS IS OF BULK AT MOST 1048576: true; the input reads as it did. -/
def fnExactAreSimilarUptoRow : OpenClaim := { program := "ytdlojnmggogbaaa", sum := "d879429f22e2ff07ffc63534823f03903de7d928cc860eaf1b50dd93734c4ad0", func := "loop.example/g01245/laws.FnExactAreSimilar", spec := "fnExactAreSimilar", inPlace := ["slices.overlaps[loop.example/g01245/impl.Poly]"], unfollowed := true, recurses := true, plainKeys := false, leaving := true, apart := false, narrowed := true }
def FnExactAreSimilarUptoSaid : Prop := fnExactAreSimilarUptoRow.holds Try.pinned (OpenSpec.upto fnExactAreSimilarSpec)

end Rows
end Go.Proofs.Ytdlojnmggogbaaa
