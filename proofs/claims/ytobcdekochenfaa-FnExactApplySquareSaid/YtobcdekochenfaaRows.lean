/-
  No cell of these rows narrows 'for every input' (looked for: loops, veiled, ifaces, maps, wideKeys, modest, calm, conditions, laid).
  DERIVED. THE GIVEN ROWS OF THIS SEAT. 16 by the template 'for every input the law returns true; each argument reads behind the call as it read before'; 0 by the template 'total and deterministic' (their statements: YtobcdekochenfaaTotals.lean).
  GIVEN WITH THE SEED: the statements are not yours to turn. If you find one false, say at which input.
  Laid BY PROGRAM, IN A SANDBOX (cutbox-rows.mjs): the forced cells as the released guide's own fill.sh prints them over the translation 1726942013d4bec5… (all of the seat's roots in one cut). By AI agents, Wed Nov 11 2026. No macro, syntax, notation, axiom, sorry.
-/
import Derived.Test.YtobcdekochenfaaChecked
import GoSem.Claim
import GoSem.ClaimJoined
import GoSem.ClaimMapViews
import Derived.JoinedTies
import Derived.KernelRfl
namespace Go.Proofs.Ytobcdekochenfaa
/- THE CELL 'sum', in the pinned program and in every row, IS THE sha256 OF THE DUMP (.gsa) THAT YtobcdekochenfaaProg.lean LOADS. Nothing in Lean hashes anything: it is a label: what it is worth is what the hold of that sum in a sandbox is worth. -/
noncomputable def Try.pinned : Pinned := { name := "ytobcdekochenfaa", sum := "1726942013d4bec5e2b1b8b1db146b0c80c9859fc0eb80bb2c1440121d7a76a7", checked := Try.checked }
namespace Rows
def none {H : Type} : Left H := { results := [], args := [] }

/-- 'laws.FnExactPowerSum': WHATEVER THE INPUT: true; the input reads as it did. -/
def fnExactPowerSumSpec : ChangeSpec := { name := "fnExactPowerSum", fn := fun _ => fun
  | [d1, d2, d3] => { results := [.lit (.bool true)], args := [d1, d2, d3] }
  | _ => none }
def fnExactPowerSumRow : OpenClaim := { program := "ytobcdekochenfaa", sum := "1726942013d4bec5e2b1b8b1db146b0c80c9859fc0eb80bb2c1440121d7a76a7", func := "loop.example/g01245/laws.FnExactPowerSum", spec := "fnExactPowerSum", unfollowed := true, recurses := true, plainKeys := false, leaving := true, apart := false }
def FnExactPowerSumSaid : Prop := fnExactPowerSumRow.holds Try.pinned (OpenSpec.ofChange fnExactPowerSumSpec)

/-- ITS FALSE NEIGHBOUR: 'it returns false'. Refute it at one input. -/
def fnExactPowerSumWrong : ChangeSpec := { name := "fnExactPowerSum", fn := fun _ => fun
  | [d1, d2, d3] => { results := [.lit (.bool false)], args := [d1, d2, d3] }
  | _ => none }
def FnExactPowerSumWrongFalsely : Prop := fnExactPowerSumRow.holds Try.pinned (OpenSpec.ofChange fnExactPowerSumWrong)

/-- 'laws.FnExactDigitSum': WHATEVER THE INPUT: true; the input reads as it did. -/
def fnExactDigitSumSpec : ChangeSpec := { name := "fnExactDigitSum", fn := fun _ => fun
  | [d1, d2] => { results := [.lit (.bool true)], args := [d1, d2] }
  | _ => none }
def fnExactDigitSumRow : OpenClaim := { program := "ytobcdekochenfaa", sum := "1726942013d4bec5e2b1b8b1db146b0c80c9859fc0eb80bb2c1440121d7a76a7", func := "loop.example/g01245/laws.FnExactDigitSum", spec := "fnExactDigitSum", plainKeys := false, apart := false }
def FnExactDigitSumSaid : Prop := fnExactDigitSumRow.holds Try.pinned (OpenSpec.ofChange fnExactDigitSumSpec)

/-- ITS FALSE NEIGHBOUR: 'it returns false'. Refute it at one input. -/
def fnExactDigitSumWrong : ChangeSpec := { name := "fnExactDigitSum", fn := fun _ => fun
  | [d1, d2] => { results := [.lit (.bool false)], args := [d1, d2] }
  | _ => none }
def FnExactDigitSumWrongFalsely : Prop := fnExactDigitSumRow.holds Try.pinned (OpenSpec.ofChange fnExactDigitSumWrong)

/-- 'laws.FnExactShiftedSum': WHATEVER THE INPUT: true; the input reads as it did. -/
def fnExactShiftedSumSpec : ChangeSpec := { name := "fnExactShiftedSum", fn := fun _ => fun
  | [d1, d2, d3, d4] => { results := [.lit (.bool true)], args := [d1, d2, d3, d4] }
  | _ => none }
def fnExactShiftedSumRow : OpenClaim := { program := "ytobcdekochenfaa", sum := "1726942013d4bec5e2b1b8b1db146b0c80c9859fc0eb80bb2c1440121d7a76a7", func := "loop.example/g01245/laws.FnExactShiftedSum", spec := "fnExactShiftedSum", unfollowed := true, recurses := true, plainKeys := false, leaving := true, apart := false }
def FnExactShiftedSumSaid : Prop := fnExactShiftedSumRow.holds Try.pinned (OpenSpec.ofChange fnExactShiftedSumSpec)

/-- ITS FALSE NEIGHBOUR: 'it returns false'. Refute it at one input. -/
def fnExactShiftedSumWrong : ChangeSpec := { name := "fnExactShiftedSum", fn := fun _ => fun
  | [d1, d2, d3, d4] => { results := [.lit (.bool false)], args := [d1, d2, d3, d4] }
  | _ => none }
def FnExactShiftedSumWrongFalsely : Prop := fnExactShiftedSumRow.holds Try.pinned (OpenSpec.ofChange fnExactShiftedSumWrong)

/-- 'laws.FnExactFirstVanishing': WHATEVER THE INPUT: true; the input reads as it did. -/
def fnExactFirstVanishingSpec : ChangeSpec := { name := "fnExactFirstVanishing", fn := fun _ => fun
  | [d1, d2] => { results := [.lit (.bool true)], args := [d1, d2] }
  | _ => none }
def fnExactFirstVanishingRow : OpenClaim := { program := "ytobcdekochenfaa", sum := "1726942013d4bec5e2b1b8b1db146b0c80c9859fc0eb80bb2c1440121d7a76a7", func := "loop.example/g01245/laws.FnExactFirstVanishing", spec := "fnExactFirstVanishing", unfollowed := true, recurses := true, plainKeys := false, leaving := true, apart := false }
def FnExactFirstVanishingSaid : Prop := fnExactFirstVanishingRow.holds Try.pinned (OpenSpec.ofChange fnExactFirstVanishingSpec)

/-- ITS FALSE NEIGHBOUR: 'it returns false'. Refute it at one input. -/
def fnExactFirstVanishingWrong : ChangeSpec := { name := "fnExactFirstVanishing", fn := fun _ => fun
  | [d1, d2] => { results := [.lit (.bool false)], args := [d1, d2] }
  | _ => none }
def FnExactFirstVanishingWrongFalsely : Prop := fnExactFirstVanishingRow.holds Try.pinned (OpenSpec.ofChange fnExactFirstVanishingWrong)

/-- 'laws.FnExactPowerOf': WHATEVER THE INPUT: true; the input reads as it did. -/
def fnExactPowerOfSpec : ChangeSpec := { name := "fnExactPowerOf", fn := fun _ => fun
  | [d1, d2, d3] => { results := [.lit (.bool true)], args := [d1, d2, d3] }
  | _ => none }
def fnExactPowerOfRow : OpenClaim := { program := "ytobcdekochenfaa", sum := "1726942013d4bec5e2b1b8b1db146b0c80c9859fc0eb80bb2c1440121d7a76a7", func := "loop.example/g01245/laws.FnExactPowerOf", spec := "fnExactPowerOf", unfollowed := true, recurses := true, plainKeys := false, leaving := true, apart := false }
def FnExactPowerOfSaid : Prop := fnExactPowerOfRow.holds Try.pinned (OpenSpec.ofChange fnExactPowerOfSpec)

/-- ITS FALSE NEIGHBOUR: 'it returns false'. Refute it at one input. -/
def fnExactPowerOfWrong : ChangeSpec := { name := "fnExactPowerOf", fn := fun _ => fun
  | [d1, d2, d3] => { results := [.lit (.bool false)], args := [d1, d2, d3] }
  | _ => none }
def FnExactPowerOfWrongFalsely : Prop := fnExactPowerOfRow.holds Try.pinned (OpenSpec.ofChange fnExactPowerOfWrong)

/-- 'laws.FnExactZetaAt': WHATEVER THE INPUT: true; the input reads as it did. -/
def fnExactZetaAtSpec : ChangeSpec := { name := "fnExactZetaAt", fn := fun _ => fun
  | [d1, d2] => { results := [.lit (.bool true)], args := [d1, d2] }
  | _ => none }
def fnExactZetaAtRow : OpenClaim := { program := "ytobcdekochenfaa", sum := "1726942013d4bec5e2b1b8b1db146b0c80c9859fc0eb80bb2c1440121d7a76a7", func := "loop.example/g01245/laws.FnExactZetaAt", spec := "fnExactZetaAt", inPlace := ["(*sync.WaitGroup).Add", "internal/race.ReleaseMerge", "internal/race.Disable", "internal/race.Enable", "internal/synctest.IsInBubble", "internal/synctest.Associate[sync.WaitGroup]", "sync.fatal", "sync/atomic.OrUint64", "sync/atomic.AddUint64", "internal/race.Read", "sync/atomic.LoadUint64", "sync/atomic.StoreUint64", "internal/synctest.Disassociate[sync.WaitGroup]", "sync.runtime_Semrelease", "(*sync.WaitGroup).Done", "(*sync.WaitGroup).Wait", "internal/race.Acquire", "internal/synctest.IsAssociated[sync.WaitGroup]", "sync/atomic.CompareAndSwapUint64", "internal/race.Write", "sync.runtime_SemacquireWaitGroup"], unfollowed := true, recurses := true, plainKeys := false, leaving := true, apart := false }
def FnExactZetaAtSaid : Prop := fnExactZetaAtRow.holds Try.pinned (OpenSpec.ofChange fnExactZetaAtSpec)

/-- ITS FALSE NEIGHBOUR: 'it returns false'. Refute it at one input. -/
def fnExactZetaAtWrong : ChangeSpec := { name := "fnExactZetaAt", fn := fun _ => fun
  | [d1, d2] => { results := [.lit (.bool false)], args := [d1, d2] }
  | _ => none }
def FnExactZetaAtWrongFalsely : Prop := fnExactZetaAtRow.holds Try.pinned (OpenSpec.ofChange fnExactZetaAtWrong)

/-- 'laws.FnExactNestedSum': WHATEVER THE INPUT: true; the input reads as it did. -/
def fnExactNestedSumSpec : ChangeSpec := { name := "fnExactNestedSum", fn := fun _ => fun
  | [d1, d2, d3, d4] => { results := [.lit (.bool true)], args := [d1, d2, d3, d4] }
  | _ => none }
def fnExactNestedSumRow : OpenClaim := { program := "ytobcdekochenfaa", sum := "1726942013d4bec5e2b1b8b1db146b0c80c9859fc0eb80bb2c1440121d7a76a7", func := "loop.example/g01245/laws.FnExactNestedSum", spec := "fnExactNestedSum", inPlace := ["(*sync.WaitGroup).Add", "internal/race.ReleaseMerge", "internal/race.Disable", "internal/race.Enable", "internal/synctest.IsInBubble", "internal/synctest.Associate[sync.WaitGroup]", "sync.fatal", "sync/atomic.OrUint64", "sync/atomic.AddUint64", "internal/race.Read", "sync/atomic.LoadUint64", "sync/atomic.StoreUint64", "internal/synctest.Disassociate[sync.WaitGroup]", "sync.runtime_Semrelease", "(*sync.WaitGroup).Done", "(*sync.WaitGroup).Wait", "internal/race.Acquire", "internal/synctest.IsAssociated[sync.WaitGroup]", "sync/atomic.CompareAndSwapUint64", "internal/race.Write", "sync.runtime_SemacquireWaitGroup"], unfollowed := true, recurses := true, plainKeys := false, leaving := true, apart := false }
def FnExactNestedSumSaid : Prop := fnExactNestedSumRow.holds Try.pinned (OpenSpec.ofChange fnExactNestedSumSpec)

/-- ITS FALSE NEIGHBOUR: 'it returns false'. Refute it at one input. -/
def fnExactNestedSumWrong : ChangeSpec := { name := "fnExactNestedSum", fn := fun _ => fun
  | [d1, d2, d3, d4] => { results := [.lit (.bool false)], args := [d1, d2, d3, d4] }
  | _ => none }
def FnExactNestedSumWrongFalsely : Prop := fnExactNestedSumRow.holds Try.pinned (OpenSpec.ofChange fnExactNestedSumWrong)

/-- 'laws.FnExactQuadraticSymbol': WHATEVER THE INPUT: true; the input reads as it did. -/
def fnExactQuadraticSymbolSpec : ChangeSpec := { name := "fnExactQuadraticSymbol", fn := fun _ => fun
  | [d1, d2, d3] => { results := [.lit (.bool true)], args := [d1, d2, d3] }
  | _ => none }
def fnExactQuadraticSymbolRow : OpenClaim := { program := "ytobcdekochenfaa", sum := "1726942013d4bec5e2b1b8b1db146b0c80c9859fc0eb80bb2c1440121d7a76a7", func := "loop.example/g01245/laws.FnExactQuadraticSymbol", spec := "fnExactQuadraticSymbol", plainKeys := false, apart := false }
def FnExactQuadraticSymbolSaid : Prop := fnExactQuadraticSymbolRow.holds Try.pinned (OpenSpec.ofChange fnExactQuadraticSymbolSpec)

/-- ITS FALSE NEIGHBOUR: 'it returns false'. Refute it at one input. -/
def fnExactQuadraticSymbolWrong : ChangeSpec := { name := "fnExactQuadraticSymbol", fn := fun _ => fun
  | [d1, d2, d3] => { results := [.lit (.bool false)], args := [d1, d2, d3] }
  | _ => none }
def FnExactQuadraticSymbolWrongFalsely : Prop := fnExactQuadraticSymbolRow.holds Try.pinned (OpenSpec.ofChange fnExactQuadraticSymbolWrong)

/-- 'laws.FnExactSymbolSum': WHATEVER THE INPUT: true; the input reads as it did. -/
def fnExactSymbolSumSpec : ChangeSpec := { name := "fnExactSymbolSum", fn := fun _ => fun
  | [d1, d2, d3] => { results := [.lit (.bool true)], args := [d1, d2, d3] }
  | _ => none }
def fnExactSymbolSumRow : OpenClaim := { program := "ytobcdekochenfaa", sum := "1726942013d4bec5e2b1b8b1db146b0c80c9859fc0eb80bb2c1440121d7a76a7", func := "loop.example/g01245/laws.FnExactSymbolSum", spec := "fnExactSymbolSum", unfollowed := true, recurses := true, plainKeys := false, leaving := true, apart := false }
def FnExactSymbolSumSaid : Prop := fnExactSymbolSumRow.holds Try.pinned (OpenSpec.ofChange fnExactSymbolSumSpec)

/-- ITS FALSE NEIGHBOUR: 'it returns false'. Refute it at one input. -/
def fnExactSymbolSumWrong : ChangeSpec := { name := "fnExactSymbolSum", fn := fun _ => fun
  | [d1, d2, d3] => { results := [.lit (.bool false)], args := [d1, d2, d3] }
  | _ => none }
def FnExactSymbolSumWrongFalsely : Prop := fnExactSymbolSumRow.holds Try.pinned (OpenSpec.ofChange fnExactSymbolSumWrong)

/-- 'laws.FnExactSymbolPolynomial': WHATEVER THE INPUT: true; the input reads as it did. -/
def fnExactSymbolPolynomialSpec : ChangeSpec := { name := "fnExactSymbolPolynomial", fn := fun _ => fun
  | [d1, d2] => { results := [.lit (.bool true)], args := [d1, d2] }
  | _ => none }
def fnExactSymbolPolynomialRow : OpenClaim := { program := "ytobcdekochenfaa", sum := "1726942013d4bec5e2b1b8b1db146b0c80c9859fc0eb80bb2c1440121d7a76a7", func := "loop.example/g01245/laws.FnExactSymbolPolynomial", spec := "fnExactSymbolPolynomial", inPlace := ["(*sync.WaitGroup).Add", "internal/race.ReleaseMerge", "internal/race.Disable", "internal/race.Enable", "internal/synctest.IsInBubble", "internal/synctest.Associate[sync.WaitGroup]", "sync.fatal", "sync/atomic.OrUint64", "sync/atomic.AddUint64", "internal/race.Read", "sync/atomic.LoadUint64", "sync/atomic.StoreUint64", "internal/synctest.Disassociate[sync.WaitGroup]", "sync.runtime_Semrelease", "(*sync.WaitGroup).Done", "(*sync.WaitGroup).Wait", "internal/race.Acquire", "internal/synctest.IsAssociated[sync.WaitGroup]", "sync/atomic.CompareAndSwapUint64", "internal/race.Write", "sync.runtime_SemacquireWaitGroup"], unfollowed := true, recurses := true, plainKeys := false, leaving := true, apart := false }
def FnExactSymbolPolynomialSaid : Prop := fnExactSymbolPolynomialRow.holds Try.pinned (OpenSpec.ofChange fnExactSymbolPolynomialSpec)

/-- ITS FALSE NEIGHBOUR: 'it returns false'. Refute it at one input. -/
def fnExactSymbolPolynomialWrong : ChangeSpec := { name := "fnExactSymbolPolynomial", fn := fun _ => fun
  | [d1, d2] => { results := [.lit (.bool false)], args := [d1, d2] }
  | _ => none }
def FnExactSymbolPolynomialWrongFalsely : Prop := fnExactSymbolPolynomialRow.holds Try.pinned (OpenSpec.ofChange fnExactSymbolPolynomialWrong)

/-- 'laws.FnExactClassSum': WHATEVER THE INPUT: true; the input reads as it did. -/
def fnExactClassSumSpec : ChangeSpec := { name := "fnExactClassSum", fn := fun _ => fun
  | [d1, d2] => { results := [.lit (.bool true)], args := [d1, d2] }
  | _ => none }
def fnExactClassSumRow : OpenClaim := { program := "ytobcdekochenfaa", sum := "1726942013d4bec5e2b1b8b1db146b0c80c9859fc0eb80bb2c1440121d7a76a7", func := "loop.example/g01245/laws.FnExactClassSum", spec := "fnExactClassSum", inPlace := ["(*sync.WaitGroup).Add", "internal/race.ReleaseMerge", "internal/race.Disable", "internal/race.Enable", "internal/synctest.IsInBubble", "internal/synctest.Associate[sync.WaitGroup]", "sync.fatal", "sync/atomic.OrUint64", "sync/atomic.AddUint64", "internal/race.Read", "sync/atomic.LoadUint64", "sync/atomic.StoreUint64", "internal/synctest.Disassociate[sync.WaitGroup]", "sync.runtime_Semrelease", "(*sync.WaitGroup).Done", "(*sync.WaitGroup).Wait", "internal/race.Acquire", "internal/synctest.IsAssociated[sync.WaitGroup]", "sync/atomic.CompareAndSwapUint64", "internal/race.Write", "sync.runtime_SemacquireWaitGroup"], unfollowed := true, recurses := true, plainKeys := false, leaving := true, apart := false }
def FnExactClassSumSaid : Prop := fnExactClassSumRow.holds Try.pinned (OpenSpec.ofChange fnExactClassSumSpec)

/-- ITS FALSE NEIGHBOUR: 'it returns false'. Refute it at one input. -/
def fnExactClassSumWrong : ChangeSpec := { name := "fnExactClassSum", fn := fun _ => fun
  | [d1, d2] => { results := [.lit (.bool false)], args := [d1, d2] }
  | _ => none }
def FnExactClassSumWrongFalsely : Prop := fnExactClassSumRow.holds Try.pinned (OpenSpec.ofChange fnExactClassSumWrong)

/-- 'laws.FnExactAreIsomorphic': WHATEVER THE INPUT: true; the input reads as it did. -/
def fnExactAreIsomorphicSpec : ChangeSpec := { name := "fnExactAreIsomorphic", fn := fun _ => fun
  | [d1, d2] => { results := [.lit (.bool true)], args := [d1, d2] }
  | _ => none }
def fnExactAreIsomorphicRow : OpenClaim := { program := "ytobcdekochenfaa", sum := "1726942013d4bec5e2b1b8b1db146b0c80c9859fc0eb80bb2c1440121d7a76a7", func := "loop.example/g01245/laws.FnExactAreIsomorphic", spec := "fnExactAreIsomorphic", unfollowed := true, recurses := true, plainKeys := false, leaving := true, apart := false }
def FnExactAreIsomorphicSaid : Prop := fnExactAreIsomorphicRow.holds Try.pinned (OpenSpec.ofChange fnExactAreIsomorphicSpec)

/-- ITS FALSE NEIGHBOUR: 'it returns false'. Refute it at one input. -/
def fnExactAreIsomorphicWrong : ChangeSpec := { name := "fnExactAreIsomorphic", fn := fun _ => fun
  | [d1, d2] => { results := [.lit (.bool false)], args := [d1, d2] }
  | _ => none }
def FnExactAreIsomorphicWrongFalsely : Prop := fnExactAreIsomorphicRow.holds Try.pinned (OpenSpec.ofChange fnExactAreIsomorphicWrong)

/-- 'laws.FnExactDrinfeldAction': WHATEVER THE INPUT: true; the input reads as it did. -/
def fnExactDrinfeldActionSpec : ChangeSpec := { name := "fnExactDrinfeldAction", fn := fun _ => fun
  | [d1, d2] => { results := [.lit (.bool true)], args := [d1, d2] }
  | _ => none }
def fnExactDrinfeldActionRow : OpenClaim := { program := "ytobcdekochenfaa", sum := "1726942013d4bec5e2b1b8b1db146b0c80c9859fc0eb80bb2c1440121d7a76a7", func := "loop.example/g01245/laws.FnExactDrinfeldAction", spec := "fnExactDrinfeldAction", unfollowed := true, recurses := true, plainKeys := false, leaving := true, apart := false }
def FnExactDrinfeldActionSaid : Prop := fnExactDrinfeldActionRow.holds Try.pinned (OpenSpec.ofChange fnExactDrinfeldActionSpec)

/-- ITS FALSE NEIGHBOUR: 'it returns false'. Refute it at one input. -/
def fnExactDrinfeldActionWrong : ChangeSpec := { name := "fnExactDrinfeldAction", fn := fun _ => fun
  | [d1, d2] => { results := [.lit (.bool false)], args := [d1, d2] }
  | _ => none }
def FnExactDrinfeldActionWrongFalsely : Prop := fnExactDrinfeldActionRow.holds Try.pinned (OpenSpec.ofChange fnExactDrinfeldActionWrong)

/-- 'laws.FnExactCompanionOf': WHATEVER THE INPUT: true; the input reads as it did. -/
def fnExactCompanionOfSpec : ChangeSpec := { name := "fnExactCompanionOf", fn := fun _ => fun
  | [d1, d2] => { results := [.lit (.bool true)], args := [d1, d2] }
  | _ => none }
def fnExactCompanionOfRow : OpenClaim := { program := "ytobcdekochenfaa", sum := "1726942013d4bec5e2b1b8b1db146b0c80c9859fc0eb80bb2c1440121d7a76a7", func := "loop.example/g01245/laws.FnExactCompanionOf", spec := "fnExactCompanionOf", unfollowed := true, recurses := true, plainKeys := false, leaving := true, apart := false }
def FnExactCompanionOfSaid : Prop := fnExactCompanionOfRow.holds Try.pinned (OpenSpec.ofChange fnExactCompanionOfSpec)

/-- ITS FALSE NEIGHBOUR: 'it returns false'. Refute it at one input. -/
def fnExactCompanionOfWrong : ChangeSpec := { name := "fnExactCompanionOf", fn := fun _ => fun
  | [d1, d2] => { results := [.lit (.bool false)], args := [d1, d2] }
  | _ => none }
def FnExactCompanionOfWrongFalsely : Prop := fnExactCompanionOfRow.holds Try.pinned (OpenSpec.ofChange fnExactCompanionOfWrong)

/-- 'laws.FnExactApplySquare': WHATEVER THE INPUT: true; the input reads as it did. -/
def fnExactApplySquareSpec : ChangeSpec := { name := "fnExactApplySquare", fn := fun _ => fun
  | [d1, d2, d3, d4, d5] => { results := [.lit (.bool true)], args := [d1, d2, d3, d4, d5] }
  | _ => none }
def fnExactApplySquareRow : OpenClaim := { program := "ytobcdekochenfaa", sum := "1726942013d4bec5e2b1b8b1db146b0c80c9859fc0eb80bb2c1440121d7a76a7", func := "loop.example/g01245/laws.FnExactApplySquare", spec := "fnExactApplySquare", unfollowed := true, recurses := true, plainKeys := false, leaving := true, apart := false }
def FnExactApplySquareSaid : Prop := fnExactApplySquareRow.holds Try.pinned (OpenSpec.ofChange fnExactApplySquareSpec)

/-- ITS FALSE NEIGHBOUR: 'it returns false'. Refute it at one input. -/
def fnExactApplySquareWrong : ChangeSpec := { name := "fnExactApplySquare", fn := fun _ => fun
  | [d1, d2, d3, d4, d5] => { results := [.lit (.bool false)], args := [d1, d2, d3, d4, d5] }
  | _ => none }
def FnExactApplySquareWrongFalsely : Prop := fnExactApplySquareRow.holds Try.pinned (OpenSpec.ofChange fnExactApplySquareWrong)

/-- 'laws.FnExactLogarithmOf': WHATEVER THE INPUT: true; the input reads as it did. -/
def fnExactLogarithmOfSpec : ChangeSpec := { name := "fnExactLogarithmOf", fn := fun _ => fun
  | [d1, d2, d3, d4] => { results := [.lit (.bool true)], args := [d1, d2, d3, d4] }
  | _ => none }
def fnExactLogarithmOfRow : OpenClaim := { program := "ytobcdekochenfaa", sum := "1726942013d4bec5e2b1b8b1db146b0c80c9859fc0eb80bb2c1440121d7a76a7", func := "loop.example/g01245/laws.FnExactLogarithmOf", spec := "fnExactLogarithmOf", plainKeys := false, apart := false }
def FnExactLogarithmOfSaid : Prop := fnExactLogarithmOfRow.holds Try.pinned (OpenSpec.ofChange fnExactLogarithmOfSpec)

/-- ITS FALSE NEIGHBOUR: 'it returns false'. Refute it at one input. -/
def fnExactLogarithmOfWrong : ChangeSpec := { name := "fnExactLogarithmOf", fn := fun _ => fun
  | [d1, d2, d3, d4] => { results := [.lit (.bool false)], args := [d1, d2, d3, d4] }
  | _ => none }
def FnExactLogarithmOfWrongFalsely : Prop := fnExactLogarithmOfRow.holds Try.pinned (OpenSpec.ofChange fnExactLogarithmOfWrong)

/- THE SECOND FORM. 'bulk': how many values and letters a reading holds, each counted each time it is reached (what is shared counts as often as it is met; a slice's spare places count too). A statement '..UptoSaid' is the law's where the arguments, and the package variables that the reading takes, are together of bulk at most 1048576: NARROWER than '..Said'. Prove '..Said' where nothing that the law and all that it calls make is longer than what came in: it says more and counts as full. Else prove '..UptoSaid'. A law counts once. -/
mutual
def uptoBulk {H : Type} : DataW H → Nat
  | .lit (.string bytes) => bytes.length + 1
  | .lit _ => 1
  | .nil => 1
  | .ptr d => uptoBulk d + 1
  | .slice elems spare => uptoBulkAll elems + uptoBulkAll spare + 1
  | .agg parts => uptoBulkAll parts + 1
  | .iface _ d => uptoBulk d + 1
  | .map entries => uptoBulkEntries entries + 1
  | .held _ => 1
def uptoBulkAll {H : Type} : List (DataW H) → Nat
  | [] => 0
  | d :: r => uptoBulk d + uptoBulkAll r
def uptoBulkEntries {H : Type} : List (Lit × DataW H) → Nat
  | [] => 0
  | x :: r => uptoBulkEntry x + uptoBulkEntries r
def uptoBulkEntry {H : Type} : Lit × DataW H → Nat
  | (.string bytes, d) => bytes.length + uptoBulk d + 1
  | (_, d) => uptoBulk d + 1
 end
def uptoSmall : (H : Type) → List (DataW H) → Bool := fun _ ds => decide (uptoBulkAll ds ≤ 1048576)
def OpenSpec.upto (s : _root_.Go.ChangeSpec) : _root_.Go.OpenSpec := { _root_.Go.OpenSpec.ofChange s with cond := some uptoSmall }

/-- 'laws.FnExactPowerSum', WHERE WHAT IT READS IS OF BULK AT MOST 1048576: true; the input reads as it did. -/
def fnExactPowerSumUptoRow : OpenClaim := { program := "ytobcdekochenfaa", sum := "1726942013d4bec5e2b1b8b1db146b0c80c9859fc0eb80bb2c1440121d7a76a7", func := "loop.example/g01245/laws.FnExactPowerSum", spec := "fnExactPowerSum", unfollowed := true, recurses := true, plainKeys := false, leaving := true, apart := false, narrowed := true }
def FnExactPowerSumUptoSaid : Prop := fnExactPowerSumUptoRow.holds Try.pinned (OpenSpec.upto fnExactPowerSumSpec)

/-- 'laws.FnExactDigitSum', WHERE WHAT IT READS IS OF BULK AT MOST 1048576: true; the input reads as it did. -/
def fnExactDigitSumUptoRow : OpenClaim := { program := "ytobcdekochenfaa", sum := "1726942013d4bec5e2b1b8b1db146b0c80c9859fc0eb80bb2c1440121d7a76a7", func := "loop.example/g01245/laws.FnExactDigitSum", spec := "fnExactDigitSum", plainKeys := false, apart := false, narrowed := true }
def FnExactDigitSumUptoSaid : Prop := fnExactDigitSumUptoRow.holds Try.pinned (OpenSpec.upto fnExactDigitSumSpec)

/-- 'laws.FnExactShiftedSum', WHERE WHAT IT READS IS OF BULK AT MOST 1048576: true; the input reads as it did. -/
def fnExactShiftedSumUptoRow : OpenClaim := { program := "ytobcdekochenfaa", sum := "1726942013d4bec5e2b1b8b1db146b0c80c9859fc0eb80bb2c1440121d7a76a7", func := "loop.example/g01245/laws.FnExactShiftedSum", spec := "fnExactShiftedSum", unfollowed := true, recurses := true, plainKeys := false, leaving := true, apart := false, narrowed := true }
def FnExactShiftedSumUptoSaid : Prop := fnExactShiftedSumUptoRow.holds Try.pinned (OpenSpec.upto fnExactShiftedSumSpec)

/-- 'laws.FnExactFirstVanishing', WHERE WHAT IT READS IS OF BULK AT MOST 1048576: true; the input reads as it did. -/
def fnExactFirstVanishingUptoRow : OpenClaim := { program := "ytobcdekochenfaa", sum := "1726942013d4bec5e2b1b8b1db146b0c80c9859fc0eb80bb2c1440121d7a76a7", func := "loop.example/g01245/laws.FnExactFirstVanishing", spec := "fnExactFirstVanishing", unfollowed := true, recurses := true, plainKeys := false, leaving := true, apart := false, narrowed := true }
def FnExactFirstVanishingUptoSaid : Prop := fnExactFirstVanishingUptoRow.holds Try.pinned (OpenSpec.upto fnExactFirstVanishingSpec)

/-- 'laws.FnExactPowerOf', WHERE WHAT IT READS IS OF BULK AT MOST 1048576: true; the input reads as it did. -/
def fnExactPowerOfUptoRow : OpenClaim := { program := "ytobcdekochenfaa", sum := "1726942013d4bec5e2b1b8b1db146b0c80c9859fc0eb80bb2c1440121d7a76a7", func := "loop.example/g01245/laws.FnExactPowerOf", spec := "fnExactPowerOf", unfollowed := true, recurses := true, plainKeys := false, leaving := true, apart := false, narrowed := true }
def FnExactPowerOfUptoSaid : Prop := fnExactPowerOfUptoRow.holds Try.pinned (OpenSpec.upto fnExactPowerOfSpec)

/-- 'laws.FnExactZetaAt', WHERE WHAT IT READS IS OF BULK AT MOST 1048576: true; the input reads as it did. -/
def fnExactZetaAtUptoRow : OpenClaim := { program := "ytobcdekochenfaa", sum := "1726942013d4bec5e2b1b8b1db146b0c80c9859fc0eb80bb2c1440121d7a76a7", func := "loop.example/g01245/laws.FnExactZetaAt", spec := "fnExactZetaAt", inPlace := ["(*sync.WaitGroup).Add", "internal/race.ReleaseMerge", "internal/race.Disable", "internal/race.Enable", "internal/synctest.IsInBubble", "internal/synctest.Associate[sync.WaitGroup]", "sync.fatal", "sync/atomic.OrUint64", "sync/atomic.AddUint64", "internal/race.Read", "sync/atomic.LoadUint64", "sync/atomic.StoreUint64", "internal/synctest.Disassociate[sync.WaitGroup]", "sync.runtime_Semrelease", "(*sync.WaitGroup).Done", "(*sync.WaitGroup).Wait", "internal/race.Acquire", "internal/synctest.IsAssociated[sync.WaitGroup]", "sync/atomic.CompareAndSwapUint64", "internal/race.Write", "sync.runtime_SemacquireWaitGroup"], unfollowed := true, recurses := true, plainKeys := false, leaving := true, apart := false, narrowed := true }
def FnExactZetaAtUptoSaid : Prop := fnExactZetaAtUptoRow.holds Try.pinned (OpenSpec.upto fnExactZetaAtSpec)

/-- 'laws.FnExactNestedSum', WHERE WHAT IT READS IS OF BULK AT MOST 1048576: true; the input reads as it did. -/
def fnExactNestedSumUptoRow : OpenClaim := { program := "ytobcdekochenfaa", sum := "1726942013d4bec5e2b1b8b1db146b0c80c9859fc0eb80bb2c1440121d7a76a7", func := "loop.example/g01245/laws.FnExactNestedSum", spec := "fnExactNestedSum", inPlace := ["(*sync.WaitGroup).Add", "internal/race.ReleaseMerge", "internal/race.Disable", "internal/race.Enable", "internal/synctest.IsInBubble", "internal/synctest.Associate[sync.WaitGroup]", "sync.fatal", "sync/atomic.OrUint64", "sync/atomic.AddUint64", "internal/race.Read", "sync/atomic.LoadUint64", "sync/atomic.StoreUint64", "internal/synctest.Disassociate[sync.WaitGroup]", "sync.runtime_Semrelease", "(*sync.WaitGroup).Done", "(*sync.WaitGroup).Wait", "internal/race.Acquire", "internal/synctest.IsAssociated[sync.WaitGroup]", "sync/atomic.CompareAndSwapUint64", "internal/race.Write", "sync.runtime_SemacquireWaitGroup"], unfollowed := true, recurses := true, plainKeys := false, leaving := true, apart := false, narrowed := true }
def FnExactNestedSumUptoSaid : Prop := fnExactNestedSumUptoRow.holds Try.pinned (OpenSpec.upto fnExactNestedSumSpec)

/-- 'laws.FnExactQuadraticSymbol', WHERE WHAT IT READS IS OF BULK AT MOST 1048576: true; the input reads as it did. -/
def fnExactQuadraticSymbolUptoRow : OpenClaim := { program := "ytobcdekochenfaa", sum := "1726942013d4bec5e2b1b8b1db146b0c80c9859fc0eb80bb2c1440121d7a76a7", func := "loop.example/g01245/laws.FnExactQuadraticSymbol", spec := "fnExactQuadraticSymbol", plainKeys := false, apart := false, narrowed := true }
def FnExactQuadraticSymbolUptoSaid : Prop := fnExactQuadraticSymbolUptoRow.holds Try.pinned (OpenSpec.upto fnExactQuadraticSymbolSpec)

/-- 'laws.FnExactSymbolSum', WHERE WHAT IT READS IS OF BULK AT MOST 1048576: true; the input reads as it did. -/
def fnExactSymbolSumUptoRow : OpenClaim := { program := "ytobcdekochenfaa", sum := "1726942013d4bec5e2b1b8b1db146b0c80c9859fc0eb80bb2c1440121d7a76a7", func := "loop.example/g01245/laws.FnExactSymbolSum", spec := "fnExactSymbolSum", unfollowed := true, recurses := true, plainKeys := false, leaving := true, apart := false, narrowed := true }
def FnExactSymbolSumUptoSaid : Prop := fnExactSymbolSumUptoRow.holds Try.pinned (OpenSpec.upto fnExactSymbolSumSpec)

/-- 'laws.FnExactSymbolPolynomial', WHERE WHAT IT READS IS OF BULK AT MOST 1048576: true; the input reads as it did. -/
def fnExactSymbolPolynomialUptoRow : OpenClaim := { program := "ytobcdekochenfaa", sum := "1726942013d4bec5e2b1b8b1db146b0c80c9859fc0eb80bb2c1440121d7a76a7", func := "loop.example/g01245/laws.FnExactSymbolPolynomial", spec := "fnExactSymbolPolynomial", inPlace := ["(*sync.WaitGroup).Add", "internal/race.ReleaseMerge", "internal/race.Disable", "internal/race.Enable", "internal/synctest.IsInBubble", "internal/synctest.Associate[sync.WaitGroup]", "sync.fatal", "sync/atomic.OrUint64", "sync/atomic.AddUint64", "internal/race.Read", "sync/atomic.LoadUint64", "sync/atomic.StoreUint64", "internal/synctest.Disassociate[sync.WaitGroup]", "sync.runtime_Semrelease", "(*sync.WaitGroup).Done", "(*sync.WaitGroup).Wait", "internal/race.Acquire", "internal/synctest.IsAssociated[sync.WaitGroup]", "sync/atomic.CompareAndSwapUint64", "internal/race.Write", "sync.runtime_SemacquireWaitGroup"], unfollowed := true, recurses := true, plainKeys := false, leaving := true, apart := false, narrowed := true }
def FnExactSymbolPolynomialUptoSaid : Prop := fnExactSymbolPolynomialUptoRow.holds Try.pinned (OpenSpec.upto fnExactSymbolPolynomialSpec)

/-- 'laws.FnExactClassSum', WHERE WHAT IT READS IS OF BULK AT MOST 1048576: true; the input reads as it did. -/
def fnExactClassSumUptoRow : OpenClaim := { program := "ytobcdekochenfaa", sum := "1726942013d4bec5e2b1b8b1db146b0c80c9859fc0eb80bb2c1440121d7a76a7", func := "loop.example/g01245/laws.FnExactClassSum", spec := "fnExactClassSum", inPlace := ["(*sync.WaitGroup).Add", "internal/race.ReleaseMerge", "internal/race.Disable", "internal/race.Enable", "internal/synctest.IsInBubble", "internal/synctest.Associate[sync.WaitGroup]", "sync.fatal", "sync/atomic.OrUint64", "sync/atomic.AddUint64", "internal/race.Read", "sync/atomic.LoadUint64", "sync/atomic.StoreUint64", "internal/synctest.Disassociate[sync.WaitGroup]", "sync.runtime_Semrelease", "(*sync.WaitGroup).Done", "(*sync.WaitGroup).Wait", "internal/race.Acquire", "internal/synctest.IsAssociated[sync.WaitGroup]", "sync/atomic.CompareAndSwapUint64", "internal/race.Write", "sync.runtime_SemacquireWaitGroup"], unfollowed := true, recurses := true, plainKeys := false, leaving := true, apart := false, narrowed := true }
def FnExactClassSumUptoSaid : Prop := fnExactClassSumUptoRow.holds Try.pinned (OpenSpec.upto fnExactClassSumSpec)

/-- 'laws.FnExactAreIsomorphic', WHERE WHAT IT READS IS OF BULK AT MOST 1048576: true; the input reads as it did. -/
def fnExactAreIsomorphicUptoRow : OpenClaim := { program := "ytobcdekochenfaa", sum := "1726942013d4bec5e2b1b8b1db146b0c80c9859fc0eb80bb2c1440121d7a76a7", func := "loop.example/g01245/laws.FnExactAreIsomorphic", spec := "fnExactAreIsomorphic", unfollowed := true, recurses := true, plainKeys := false, leaving := true, apart := false, narrowed := true }
def FnExactAreIsomorphicUptoSaid : Prop := fnExactAreIsomorphicUptoRow.holds Try.pinned (OpenSpec.upto fnExactAreIsomorphicSpec)

/-- 'laws.FnExactDrinfeldAction', WHERE WHAT IT READS IS OF BULK AT MOST 1048576: true; the input reads as it did. -/
def fnExactDrinfeldActionUptoRow : OpenClaim := { program := "ytobcdekochenfaa", sum := "1726942013d4bec5e2b1b8b1db146b0c80c9859fc0eb80bb2c1440121d7a76a7", func := "loop.example/g01245/laws.FnExactDrinfeldAction", spec := "fnExactDrinfeldAction", unfollowed := true, recurses := true, plainKeys := false, leaving := true, apart := false, narrowed := true }
def FnExactDrinfeldActionUptoSaid : Prop := fnExactDrinfeldActionUptoRow.holds Try.pinned (OpenSpec.upto fnExactDrinfeldActionSpec)

/-- 'laws.FnExactCompanionOf', WHERE WHAT IT READS IS OF BULK AT MOST 1048576: true; the input reads as it did. -/
def fnExactCompanionOfUptoRow : OpenClaim := { program := "ytobcdekochenfaa", sum := "1726942013d4bec5e2b1b8b1db146b0c80c9859fc0eb80bb2c1440121d7a76a7", func := "loop.example/g01245/laws.FnExactCompanionOf", spec := "fnExactCompanionOf", unfollowed := true, recurses := true, plainKeys := false, leaving := true, apart := false, narrowed := true }
def FnExactCompanionOfUptoSaid : Prop := fnExactCompanionOfUptoRow.holds Try.pinned (OpenSpec.upto fnExactCompanionOfSpec)

/-- 'laws.FnExactApplySquare', WHERE WHAT IT READS IS OF BULK AT MOST 1048576: true; the input reads as it did. -/
def fnExactApplySquareUptoRow : OpenClaim := { program := "ytobcdekochenfaa", sum := "1726942013d4bec5e2b1b8b1db146b0c80c9859fc0eb80bb2c1440121d7a76a7", func := "loop.example/g01245/laws.FnExactApplySquare", spec := "fnExactApplySquare", unfollowed := true, recurses := true, plainKeys := false, leaving := true, apart := false, narrowed := true }
def FnExactApplySquareUptoSaid : Prop := fnExactApplySquareUptoRow.holds Try.pinned (OpenSpec.upto fnExactApplySquareSpec)

/-- 'laws.FnExactLogarithmOf', WHERE WHAT IT READS IS OF BULK AT MOST 1048576: true; the input reads as it did. -/
def fnExactLogarithmOfUptoRow : OpenClaim := { program := "ytobcdekochenfaa", sum := "1726942013d4bec5e2b1b8b1db146b0c80c9859fc0eb80bb2c1440121d7a76a7", func := "loop.example/g01245/laws.FnExactLogarithmOf", spec := "fnExactLogarithmOf", plainKeys := false, apart := false, narrowed := true }
def FnExactLogarithmOfUptoSaid : Prop := fnExactLogarithmOfUptoRow.holds Try.pinned (OpenSpec.upto fnExactLogarithmOfSpec)

end Rows
end Go.Proofs.Ytobcdekochenfaa
