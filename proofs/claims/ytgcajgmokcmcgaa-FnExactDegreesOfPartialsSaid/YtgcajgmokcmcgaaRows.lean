/-
  No cell of these rows narrows 'for every input' (looked for: loops, veiled, ifaces, maps, wideKeys, modest, calm, conditions, laid).
  DERIVED. THE GIVEN ROWS OF THIS SEAT. 15 by the template 'for every input the law returns true; each argument reads behind the call as it read before'; 0 by the template 'total and deterministic' (their statements: YtgcajgmokcmcgaaTotals.lean).
  GIVEN WITH THE SEED: the statements are not yours to turn. If you find one false, say at which input.
  Laid BY PROGRAM, IN A SANDBOX (cutbox-rows.mjs): the forced cells as the released guide's own fill.sh prints them over the translation 5065f7726828efac… (all of the seat's roots in one cut). By AI agents, Wed Nov 11 2026. No macro, syntax, notation, axiom, sorry.
-/
import Derived.Test.YtgcajgmokcmcgaaChecked
import GoSem.Claim
import GoSem.ClaimJoined
import GoSem.ClaimMapViews
import Derived.JoinedTies
import Derived.KernelRfl
namespace Go.Proofs.Ytgcajgmokcmcgaa
/- THE CELL 'sum', in the pinned program and in every row, IS THE sha256 OF THE DUMP (.gsa) THAT YtgcajgmokcmcgaaProg.lean LOADS. Nothing in Lean hashes anything: it is a label: what it is worth is what the hold of that sum in a sandbox is worth. -/
noncomputable def Try.pinned : Pinned := { name := "ytgcajgmokcmcgaa", sum := "5065f7726828efac71ed3520e510b7c16dfed103f42b748ee584865c5bb27ad8", checked := Try.checked }
namespace Rows
def none {H : Type} : Left H := { results := [], args := [] }

/-- 'laws.FnExactDigitsOfQuotient': WHATEVER THE INPUT: true; the input reads as it did. -/
def fnExactDigitsOfQuotientSpec : ChangeSpec := { name := "fnExactDigitsOfQuotient", fn := fun _ => fun
  | [d1, d2, d3, d4] => { results := [.lit (.bool true)], args := [d1, d2, d3, d4] }
  | _ => none }
def fnExactDigitsOfQuotientRow : OpenClaim := { program := "ytgcajgmokcmcgaa", sum := "5065f7726828efac71ed3520e510b7c16dfed103f42b748ee584865c5bb27ad8", func := "loop.example/g01245/laws.FnExactDigitsOfQuotient", spec := "fnExactDigitsOfQuotient", plainKeys := false, apart := false }
def FnExactDigitsOfQuotientSaid : Prop := fnExactDigitsOfQuotientRow.holds Try.pinned (OpenSpec.ofChange fnExactDigitsOfQuotientSpec)

/-- ITS FALSE NEIGHBOUR: 'it returns false'. Refute it at one input. -/
def fnExactDigitsOfQuotientWrong : ChangeSpec := { name := "fnExactDigitsOfQuotient", fn := fun _ => fun
  | [d1, d2, d3, d4] => { results := [.lit (.bool false)], args := [d1, d2, d3, d4] }
  | _ => none }
def FnExactDigitsOfQuotientWrongFalsely : Prop := fnExactDigitsOfQuotientRow.holds Try.pinned (OpenSpec.ofChange fnExactDigitsOfQuotientWrong)

/-- 'laws.FnExactContinuedFraction': WHATEVER THE INPUT: true; the input reads as it did. -/
def fnExactContinuedFractionSpec : ChangeSpec := { name := "fnExactContinuedFraction", fn := fun _ => fun
  | [d1, d2, d3] => { results := [.lit (.bool true)], args := [d1, d2, d3] }
  | _ => none }
def fnExactContinuedFractionRow : OpenClaim := { program := "ytgcajgmokcmcgaa", sum := "5065f7726828efac71ed3520e510b7c16dfed103f42b748ee584865c5bb27ad8", func := "loop.example/g01245/laws.FnExactContinuedFraction", spec := "fnExactContinuedFraction", plainKeys := false, apart := false }
def FnExactContinuedFractionSaid : Prop := fnExactContinuedFractionRow.holds Try.pinned (OpenSpec.ofChange fnExactContinuedFractionSpec)

/-- ITS FALSE NEIGHBOUR: 'it returns false'. Refute it at one input. -/
def fnExactContinuedFractionWrong : ChangeSpec := { name := "fnExactContinuedFraction", fn := fun _ => fun
  | [d1, d2, d3] => { results := [.lit (.bool false)], args := [d1, d2, d3] }
  | _ => none }
def FnExactContinuedFractionWrongFalsely : Prop := fnExactContinuedFractionRow.holds Try.pinned (OpenSpec.ofChange fnExactContinuedFractionWrong)

/-- 'laws.FnExactConvergentsOf': WHATEVER THE INPUT: true; the input reads as it did. -/
def fnExactConvergentsOfSpec : ChangeSpec := { name := "fnExactConvergentsOf", fn := fun _ => fun
  | [d1, d2] => { results := [.lit (.bool true)], args := [d1, d2] }
  | _ => none }
def fnExactConvergentsOfRow : OpenClaim := { program := "ytgcajgmokcmcgaa", sum := "5065f7726828efac71ed3520e510b7c16dfed103f42b748ee584865c5bb27ad8", func := "loop.example/g01245/laws.FnExactConvergentsOf", spec := "fnExactConvergentsOf", unfollowed := true, recurses := true, plainKeys := false, apart := false }
def FnExactConvergentsOfSaid : Prop := fnExactConvergentsOfRow.holds Try.pinned (OpenSpec.ofChange fnExactConvergentsOfSpec)

/-- ITS FALSE NEIGHBOUR: 'it returns false'. Refute it at one input. -/
def fnExactConvergentsOfWrong : ChangeSpec := { name := "fnExactConvergentsOf", fn := fun _ => fun
  | [d1, d2] => { results := [.lit (.bool false)], args := [d1, d2] }
  | _ => none }
def FnExactConvergentsOfWrongFalsely : Prop := fnExactConvergentsOfRow.holds Try.pinned (OpenSpec.ofChange fnExactConvergentsOfWrong)

/-- 'laws.FnExactBestApproximation': WHATEVER THE INPUT: true; the input reads as it did. -/
def fnExactBestApproximationSpec : ChangeSpec := { name := "fnExactBestApproximation", fn := fun _ => fun
  | [d1, d2, d3, d4] => { results := [.lit (.bool true)], args := [d1, d2, d3, d4] }
  | _ => none }
def fnExactBestApproximationRow : OpenClaim := { program := "ytgcajgmokcmcgaa", sum := "5065f7726828efac71ed3520e510b7c16dfed103f42b748ee584865c5bb27ad8", func := "loop.example/g01245/laws.FnExactBestApproximation", spec := "fnExactBestApproximation", plainKeys := false, apart := false }
def FnExactBestApproximationSaid : Prop := fnExactBestApproximationRow.holds Try.pinned (OpenSpec.ofChange fnExactBestApproximationSpec)

/-- ITS FALSE NEIGHBOUR: 'it returns false'. Refute it at one input. -/
def fnExactBestApproximationWrong : ChangeSpec := { name := "fnExactBestApproximation", fn := fun _ => fun
  | [d1, d2, d3, d4] => { results := [.lit (.bool false)], args := [d1, d2, d3, d4] }
  | _ => none }
def FnExactBestApproximationWrongFalsely : Prop := fnExactBestApproximationRow.holds Try.pinned (OpenSpec.ofChange fnExactBestApproximationWrong)

/-- 'laws.FnExactDegreesOfPartials': WHATEVER THE INPUT: true; the input reads as it did. -/
def fnExactDegreesOfPartialsSpec : ChangeSpec := { name := "fnExactDegreesOfPartials", fn := fun _ => fun
  | [d1, d2, d3] => { results := [.lit (.bool true)], args := [d1, d2, d3] }
  | _ => none }
def fnExactDegreesOfPartialsRow : OpenClaim := { program := "ytgcajgmokcmcgaa", sum := "5065f7726828efac71ed3520e510b7c16dfed103f42b748ee584865c5bb27ad8", func := "loop.example/g01245/laws.FnExactDegreesOfPartials", spec := "fnExactDegreesOfPartials", plainKeys := false, apart := false }
def FnExactDegreesOfPartialsSaid : Prop := fnExactDegreesOfPartialsRow.holds Try.pinned (OpenSpec.ofChange fnExactDegreesOfPartialsSpec)

/-- ITS FALSE NEIGHBOUR: 'it returns false'. Refute it at one input. -/
def fnExactDegreesOfPartialsWrong : ChangeSpec := { name := "fnExactDegreesOfPartials", fn := fun _ => fun
  | [d1, d2, d3] => { results := [.lit (.bool false)], args := [d1, d2, d3] }
  | _ => none }
def FnExactDegreesOfPartialsWrongFalsely : Prop := fnExactDegreesOfPartialsRow.holds Try.pinned (OpenSpec.ofChange fnExactDegreesOfPartialsWrong)

/-- 'laws.FnExactRootPart': WHATEVER THE INPUT: true; the input reads as it did. -/
def fnExactRootPartSpec : ChangeSpec := { name := "fnExactRootPart", fn := fun _ => fun
  | [d1, d2] => { results := [.lit (.bool true)], args := [d1, d2] }
  | _ => none }
def fnExactRootPartRow : OpenClaim := { program := "ytgcajgmokcmcgaa", sum := "5065f7726828efac71ed3520e510b7c16dfed103f42b748ee584865c5bb27ad8", func := "loop.example/g01245/laws.FnExactRootPart", spec := "fnExactRootPart", plainKeys := false, apart := false }
def FnExactRootPartSaid : Prop := fnExactRootPartRow.holds Try.pinned (OpenSpec.ofChange fnExactRootPartSpec)

/-- ITS FALSE NEIGHBOUR: 'it returns false'. Refute it at one input. -/
def fnExactRootPartWrong : ChangeSpec := { name := "fnExactRootPart", fn := fun _ => fun
  | [d1, d2] => { results := [.lit (.bool false)], args := [d1, d2] }
  | _ => none }
def FnExactRootPartWrongFalsely : Prop := fnExactRootPartRow.holds Try.pinned (OpenSpec.ofChange fnExactRootPartWrong)

/-- 'laws.FnExactDigitsOfRoot': WHATEVER THE INPUT: true; the input reads as it did. -/
def fnExactDigitsOfRootSpec : ChangeSpec := { name := "fnExactDigitsOfRoot", fn := fun _ => fun
  | [d1, d2, d3] => { results := [.lit (.bool true)], args := [d1, d2, d3] }
  | _ => none }
def fnExactDigitsOfRootRow : OpenClaim := { program := "ytgcajgmokcmcgaa", sum := "5065f7726828efac71ed3520e510b7c16dfed103f42b748ee584865c5bb27ad8", func := "loop.example/g01245/laws.FnExactDigitsOfRoot", spec := "fnExactDigitsOfRoot", plainKeys := false, apart := false }
def FnExactDigitsOfRootSaid : Prop := fnExactDigitsOfRootRow.holds Try.pinned (OpenSpec.ofChange fnExactDigitsOfRootSpec)

/-- ITS FALSE NEIGHBOUR: 'it returns false'. Refute it at one input. -/
def fnExactDigitsOfRootWrong : ChangeSpec := { name := "fnExactDigitsOfRoot", fn := fun _ => fun
  | [d1, d2, d3] => { results := [.lit (.bool false)], args := [d1, d2, d3] }
  | _ => none }
def FnExactDigitsOfRootWrongFalsely : Prop := fnExactDigitsOfRootRow.holds Try.pinned (OpenSpec.ofChange fnExactDigitsOfRootWrong)

/-- 'laws.FnExactIsSquarePoly': WHATEVER THE INPUT: true; the input reads as it did. -/
def fnExactIsSquarePolySpec : ChangeSpec := { name := "fnExactIsSquarePoly", fn := fun _ => fun
  | [d1, d2] => { results := [.lit (.bool true)], args := [d1, d2] }
  | _ => none }
def fnExactIsSquarePolyRow : OpenClaim := { program := "ytgcajgmokcmcgaa", sum := "5065f7726828efac71ed3520e510b7c16dfed103f42b748ee584865c5bb27ad8", func := "loop.example/g01245/laws.FnExactIsSquarePoly", spec := "fnExactIsSquarePoly", plainKeys := false, apart := false }
def FnExactIsSquarePolySaid : Prop := fnExactIsSquarePolyRow.holds Try.pinned (OpenSpec.ofChange fnExactIsSquarePolySpec)

/-- ITS FALSE NEIGHBOUR: 'it returns false'. Refute it at one input. -/
def fnExactIsSquarePolyWrong : ChangeSpec := { name := "fnExactIsSquarePoly", fn := fun _ => fun
  | [d1, d2] => { results := [.lit (.bool false)], args := [d1, d2] }
  | _ => none }
def FnExactIsSquarePolyWrongFalsely : Prop := fnExactIsSquarePolyRow.holds Try.pinned (OpenSpec.ofChange fnExactIsSquarePolyWrong)

/-- 'laws.FnExactExponentialUpTo': WHATEVER THE INPUT: true; the input reads as it did. -/
def fnExactExponentialUpToSpec : ChangeSpec := { name := "fnExactExponentialUpTo", fn := fun _ => fun
  | [d1, d2, d3, d4] => { results := [.lit (.bool true)], args := [d1, d2, d3, d4] }
  | _ => none }
def fnExactExponentialUpToRow : OpenClaim := { program := "ytgcajgmokcmcgaa", sum := "5065f7726828efac71ed3520e510b7c16dfed103f42b748ee584865c5bb27ad8", func := "loop.example/g01245/laws.FnExactExponentialUpTo", spec := "fnExactExponentialUpTo", unfollowed := true, recurses := true, plainKeys := false, apart := false }
def FnExactExponentialUpToSaid : Prop := fnExactExponentialUpToRow.holds Try.pinned (OpenSpec.ofChange fnExactExponentialUpToSpec)

/-- ITS FALSE NEIGHBOUR: 'it returns false'. Refute it at one input. -/
def fnExactExponentialUpToWrong : ChangeSpec := { name := "fnExactExponentialUpTo", fn := fun _ => fun
  | [d1, d2, d3, d4] => { results := [.lit (.bool false)], args := [d1, d2, d3, d4] }
  | _ => none }
def FnExactExponentialUpToWrongFalsely : Prop := fnExactExponentialUpToRow.holds Try.pinned (OpenSpec.ofChange fnExactExponentialUpToWrong)

/-- 'laws.FnExactLogarithmUpTo': WHATEVER THE INPUT: true; the input reads as it did. -/
def fnExactLogarithmUpToSpec : ChangeSpec := { name := "fnExactLogarithmUpTo", fn := fun _ => fun
  | [d1, d2, d3, d4] => { results := [.lit (.bool true)], args := [d1, d2, d3, d4] }
  | _ => none }
def fnExactLogarithmUpToRow : OpenClaim := { program := "ytgcajgmokcmcgaa", sum := "5065f7726828efac71ed3520e510b7c16dfed103f42b748ee584865c5bb27ad8", func := "loop.example/g01245/laws.FnExactLogarithmUpTo", spec := "fnExactLogarithmUpTo", unfollowed := true, recurses := true, plainKeys := false, apart := false }
def FnExactLogarithmUpToSaid : Prop := fnExactLogarithmUpToRow.holds Try.pinned (OpenSpec.ofChange fnExactLogarithmUpToSpec)

/-- ITS FALSE NEIGHBOUR: 'it returns false'. Refute it at one input. -/
def fnExactLogarithmUpToWrong : ChangeSpec := { name := "fnExactLogarithmUpTo", fn := fun _ => fun
  | [d1, d2, d3, d4] => { results := [.lit (.bool false)], args := [d1, d2, d3, d4] }
  | _ => none }
def FnExactLogarithmUpToWrongFalsely : Prop := fnExactLogarithmUpToRow.holds Try.pinned (OpenSpec.ofChange fnExactLogarithmUpToWrong)

/-- 'laws.FnExactActionOf': WHATEVER THE INPUT: true; the input reads as it did. -/
def fnExactActionOfSpec : ChangeSpec := { name := "fnExactActionOf", fn := fun _ => fun
  | [d1, d2] => { results := [.lit (.bool true)], args := [d1, d2] }
  | _ => none }
def fnExactActionOfRow : OpenClaim := { program := "ytgcajgmokcmcgaa", sum := "5065f7726828efac71ed3520e510b7c16dfed103f42b748ee584865c5bb27ad8", func := "loop.example/g01245/laws.FnExactActionOf", spec := "fnExactActionOf", unfollowed := true, recurses := true, plainKeys := false, apart := false }
def FnExactActionOfSaid : Prop := fnExactActionOfRow.holds Try.pinned (OpenSpec.ofChange fnExactActionOfSpec)

/-- ITS FALSE NEIGHBOUR: 'it returns false'. Refute it at one input. -/
def fnExactActionOfWrong : ChangeSpec := { name := "fnExactActionOf", fn := fun _ => fun
  | [d1, d2] => { results := [.lit (.bool false)], args := [d1, d2] }
  | _ => none }
def FnExactActionOfWrongFalsely : Prop := fnExactActionOfRow.holds Try.pinned (OpenSpec.ofChange fnExactActionOfWrong)

/-- 'laws.FnExactBinomialOf': WHATEVER THE INPUT: true; the input reads as it did. -/
def fnExactBinomialOfSpec : ChangeSpec := { name := "fnExactBinomialOf", fn := fun _ => fun
  | [d1, d2, d3] => { results := [.lit (.bool true)], args := [d1, d2, d3] }
  | _ => none }
def fnExactBinomialOfRow : OpenClaim := { program := "ytgcajgmokcmcgaa", sum := "5065f7726828efac71ed3520e510b7c16dfed103f42b748ee584865c5bb27ad8", func := "loop.example/g01245/laws.FnExactBinomialOf", spec := "fnExactBinomialOf", unfollowed := true, recurses := true, plainKeys := false, apart := false }
def FnExactBinomialOfSaid : Prop := fnExactBinomialOfRow.holds Try.pinned (OpenSpec.ofChange fnExactBinomialOfSpec)

/-- ITS FALSE NEIGHBOUR: 'it returns false'. Refute it at one input. -/
def fnExactBinomialOfWrong : ChangeSpec := { name := "fnExactBinomialOf", fn := fun _ => fun
  | [d1, d2, d3] => { results := [.lit (.bool false)], args := [d1, d2, d3] }
  | _ => none }
def FnExactBinomialOfWrongFalsely : Prop := fnExactBinomialOfRow.holds Try.pinned (OpenSpec.ofChange fnExactBinomialOfWrong)

/-- 'laws.FnExactMooreMatrix': WHATEVER THE INPUT: true; the input reads as it did. -/
def fnExactMooreMatrixSpec : ChangeSpec := { name := "fnExactMooreMatrix", fn := fun _ => fun
  | [d1, d2, d3] => { results := [.lit (.bool true)], args := [d1, d2, d3] }
  | _ => none }
def fnExactMooreMatrixRow : OpenClaim := { program := "ytgcajgmokcmcgaa", sum := "5065f7726828efac71ed3520e510b7c16dfed103f42b748ee584865c5bb27ad8", func := "loop.example/g01245/laws.FnExactMooreMatrix", spec := "fnExactMooreMatrix", unfollowed := true, recurses := true, plainKeys := false, apart := false }
def FnExactMooreMatrixSaid : Prop := fnExactMooreMatrixRow.holds Try.pinned (OpenSpec.ofChange fnExactMooreMatrixSpec)

/-- ITS FALSE NEIGHBOUR: 'it returns false'. Refute it at one input. -/
def fnExactMooreMatrixWrong : ChangeSpec := { name := "fnExactMooreMatrix", fn := fun _ => fun
  | [d1, d2, d3] => { results := [.lit (.bool false)], args := [d1, d2, d3] }
  | _ => none }
def FnExactMooreMatrixWrongFalsely : Prop := fnExactMooreMatrixRow.holds Try.pinned (OpenSpec.ofChange fnExactMooreMatrixWrong)

/-- 'laws.FnExactDrinfeldAction': WHATEVER THE INPUT: true; the input reads as it did. -/
def fnExactDrinfeldActionSpec : ChangeSpec := { name := "fnExactDrinfeldAction", fn := fun _ => fun
  | [d1, d2] => { results := [.lit (.bool true)], args := [d1, d2] }
  | _ => none }
def fnExactDrinfeldActionRow : OpenClaim := { program := "ytgcajgmokcmcgaa", sum := "5065f7726828efac71ed3520e510b7c16dfed103f42b748ee584865c5bb27ad8", func := "loop.example/g01245/laws.FnExactDrinfeldAction", spec := "fnExactDrinfeldAction", unfollowed := true, recurses := true, plainKeys := false, apart := false }
def FnExactDrinfeldActionSaid : Prop := fnExactDrinfeldActionRow.holds Try.pinned (OpenSpec.ofChange fnExactDrinfeldActionSpec)

/-- ITS FALSE NEIGHBOUR: 'it returns false'. Refute it at one input. -/
def fnExactDrinfeldActionWrong : ChangeSpec := { name := "fnExactDrinfeldAction", fn := fun _ => fun
  | [d1, d2] => { results := [.lit (.bool false)], args := [d1, d2] }
  | _ => none }
def FnExactDrinfeldActionWrongFalsely : Prop := fnExactDrinfeldActionRow.holds Try.pinned (OpenSpec.ofChange fnExactDrinfeldActionWrong)

/-- 'laws.FnExactSymbolSum': WHATEVER THE INPUT: true; the input reads as it did. -/
def fnExactSymbolSumSpec : ChangeSpec := { name := "fnExactSymbolSum", fn := fun _ => fun
  | [d1, d2, d3] => { results := [.lit (.bool true)], args := [d1, d2, d3] }
  | _ => none }
def fnExactSymbolSumRow : OpenClaim := { program := "ytgcajgmokcmcgaa", sum := "5065f7726828efac71ed3520e510b7c16dfed103f42b748ee584865c5bb27ad8", func := "loop.example/g01245/laws.FnExactSymbolSum", spec := "fnExactSymbolSum", unfollowed := true, recurses := true, plainKeys := false, apart := false }
def FnExactSymbolSumSaid : Prop := fnExactSymbolSumRow.holds Try.pinned (OpenSpec.ofChange fnExactSymbolSumSpec)

/-- ITS FALSE NEIGHBOUR: 'it returns false'. Refute it at one input. -/
def fnExactSymbolSumWrong : ChangeSpec := { name := "fnExactSymbolSum", fn := fun _ => fun
  | [d1, d2, d3] => { results := [.lit (.bool false)], args := [d1, d2, d3] }
  | _ => none }
def FnExactSymbolSumWrongFalsely : Prop := fnExactSymbolSumRow.holds Try.pinned (OpenSpec.ofChange fnExactSymbolSumWrong)

/- THE SECOND FORM. 'bulk': how many values and letters a reading holds, each counted each time it is reached (what is shared counts as often as it is met; a slice's spare places count too). A statement '..UptoSaid' is the law's where the arguments, and the package variables that the reading takes, are together of bulk at most 1048576: NARROWER than '..Said'. Prove '..Said' where nothing that the law and all that it calls make is longer than what came in: it says more and counts as full. Else prove '..UptoSaid'. A law counts once. -/
mutual
def uptoBulk {H : Type} : DataW H → Nat
  | .lit (.string bytes) => bytes.length + 1
  | .lit _ => 1
  | .nil => 1
  | .ptr d => uptoBulk d + 1
  | .slice elems spare => uptoBulkAll elems + uptoBulkAll spare + 1
  | .agg parts => uptoBulkAll parts + 1
  | .iface _ d => uptoBulk d + 1
  | .map entries => uptoBulkEntries entries + 1
  | .held _ => 1
def uptoBulkAll {H : Type} : List (DataW H) → Nat
  | [] => 0
  | d :: r => uptoBulk d + uptoBulkAll r
def uptoBulkEntries {H : Type} : List (Lit × DataW H) → Nat
  | [] => 0
  | x :: r => uptoBulkEntry x + uptoBulkEntries r
def uptoBulkEntry {H : Type} : Lit × DataW H → Nat
  | (.string bytes, d) => bytes.length + uptoBulk d + 1
  | (_, d) => uptoBulk d + 1
 end
def uptoSmall : (H : Type) → List (DataW H) → Bool := fun _ ds => decide (uptoBulkAll ds ≤ 1048576)
def OpenSpec.upto (s : _root_.Go.ChangeSpec) : _root_.Go.OpenSpec := { _root_.Go.OpenSpec.ofChange s with cond := some uptoSmall }

/-- 'laws.FnExactDigitsOfQuotient', WHERE WHAT IT READS IS OF BULK AT MOST 1048576: true; the input reads as it did. -/
def fnExactDigitsOfQuotientUptoRow : OpenClaim := { program := "ytgcajgmokcmcgaa", sum := "5065f7726828efac71ed3520e510b7c16dfed103f42b748ee584865c5bb27ad8", func := "loop.example/g01245/laws.FnExactDigitsOfQuotient", spec := "fnExactDigitsOfQuotient", plainKeys := false, apart := false, narrowed := true }
def FnExactDigitsOfQuotientUptoSaid : Prop := fnExactDigitsOfQuotientUptoRow.holds Try.pinned (OpenSpec.upto fnExactDigitsOfQuotientSpec)

/-- 'laws.FnExactContinuedFraction', WHERE WHAT IT READS IS OF BULK AT MOST 1048576: true; the input reads as it did. -/
def fnExactContinuedFractionUptoRow : OpenClaim := { program := "ytgcajgmokcmcgaa", sum := "5065f7726828efac71ed3520e510b7c16dfed103f42b748ee584865c5bb27ad8", func := "loop.example/g01245/laws.FnExactContinuedFraction", spec := "fnExactContinuedFraction", plainKeys := false, apart := false, narrowed := true }
def FnExactContinuedFractionUptoSaid : Prop := fnExactContinuedFractionUptoRow.holds Try.pinned (OpenSpec.upto fnExactContinuedFractionSpec)

/-- 'laws.FnExactConvergentsOf', WHERE WHAT IT READS IS OF BULK AT MOST 1048576: true; the input reads as it did. -/
def fnExactConvergentsOfUptoRow : OpenClaim := { program := "ytgcajgmokcmcgaa", sum := "5065f7726828efac71ed3520e510b7c16dfed103f42b748ee584865c5bb27ad8", func := "loop.example/g01245/laws.FnExactConvergentsOf", spec := "fnExactConvergentsOf", unfollowed := true, recurses := true, plainKeys := false, apart := false, narrowed := true }
def FnExactConvergentsOfUptoSaid : Prop := fnExactConvergentsOfUptoRow.holds Try.pinned (OpenSpec.upto fnExactConvergentsOfSpec)

/-- 'laws.FnExactBestApproximation', WHERE WHAT IT READS IS OF BULK AT MOST 1048576: true; the input reads as it did. -/
def fnExactBestApproximationUptoRow : OpenClaim := { program := "ytgcajgmokcmcgaa", sum := "5065f7726828efac71ed3520e510b7c16dfed103f42b748ee584865c5bb27ad8", func := "loop.example/g01245/laws.FnExactBestApproximation", spec := "fnExactBestApproximation", plainKeys := false, apart := false, narrowed := true }
def FnExactBestApproximationUptoSaid : Prop := fnExactBestApproximationUptoRow.holds Try.pinned (OpenSpec.upto fnExactBestApproximationSpec)

/-- 'laws.FnExactDegreesOfPartials', WHERE WHAT IT READS IS OF BULK AT MOST 1048576: true; the input reads as it did. -/
def fnExactDegreesOfPartialsUptoRow : OpenClaim := { program := "ytgcajgmokcmcgaa", sum := "5065f7726828efac71ed3520e510b7c16dfed103f42b748ee584865c5bb27ad8", func := "loop.example/g01245/laws.FnExactDegreesOfPartials", spec := "fnExactDegreesOfPartials", plainKeys := false, apart := false, narrowed := true }
def FnExactDegreesOfPartialsUptoSaid : Prop := fnExactDegreesOfPartialsUptoRow.holds Try.pinned (OpenSpec.upto fnExactDegreesOfPartialsSpec)

/-- 'laws.FnExactRootPart', WHERE WHAT IT READS IS OF BULK AT MOST 1048576: true; the input reads as it did. -/
def fnExactRootPartUptoRow : OpenClaim := { program := "ytgcajgmokcmcgaa", sum := "5065f7726828efac71ed3520e510b7c16dfed103f42b748ee584865c5bb27ad8", func := "loop.example/g01245/laws.FnExactRootPart", spec := "fnExactRootPart", plainKeys := false, apart := false, narrowed := true }
def FnExactRootPartUptoSaid : Prop := fnExactRootPartUptoRow.holds Try.pinned (OpenSpec.upto fnExactRootPartSpec)

/-- 'laws.FnExactDigitsOfRoot', WHERE WHAT IT READS IS OF BULK AT MOST 1048576: true; the input reads as it did. -/
def fnExactDigitsOfRootUptoRow : OpenClaim := { program := "ytgcajgmokcmcgaa", sum := "5065f7726828efac71ed3520e510b7c16dfed103f42b748ee584865c5bb27ad8", func := "loop.example/g01245/laws.FnExactDigitsOfRoot", spec := "fnExactDigitsOfRoot", plainKeys := false, apart := false, narrowed := true }
def FnExactDigitsOfRootUptoSaid : Prop := fnExactDigitsOfRootUptoRow.holds Try.pinned (OpenSpec.upto fnExactDigitsOfRootSpec)

/-- 'laws.FnExactIsSquarePoly', WHERE WHAT IT READS IS OF BULK AT MOST 1048576: true; the input reads as it did. -/
def fnExactIsSquarePolyUptoRow : OpenClaim := { program := "ytgcajgmokcmcgaa", sum := "5065f7726828efac71ed3520e510b7c16dfed103f42b748ee584865c5bb27ad8", func := "loop.example/g01245/laws.FnExactIsSquarePoly", spec := "fnExactIsSquarePoly", plainKeys := false, apart := false, narrowed := true }
def FnExactIsSquarePolyUptoSaid : Prop := fnExactIsSquarePolyUptoRow.holds Try.pinned (OpenSpec.upto fnExactIsSquarePolySpec)

/-- 'laws.FnExactExponentialUpTo', WHERE WHAT IT READS IS OF BULK AT MOST 1048576: true; the input reads as it did. -/
def fnExactExponentialUpToUptoRow : OpenClaim := { program := "ytgcajgmokcmcgaa", sum := "5065f7726828efac71ed3520e510b7c16dfed103f42b748ee584865c5bb27ad8", func := "loop.example/g01245/laws.FnExactExponentialUpTo", spec := "fnExactExponentialUpTo", unfollowed := true, recurses := true, plainKeys := false, apart := false, narrowed := true }
def FnExactExponentialUpToUptoSaid : Prop := fnExactExponentialUpToUptoRow.holds Try.pinned (OpenSpec.upto fnExactExponentialUpToSpec)

/-- 'laws.FnExactLogarithmUpTo', WHERE WHAT IT READS IS OF BULK AT MOST 1048576: true; the input reads as it did. -/
def fnExactLogarithmUpToUptoRow : OpenClaim := { program := "ytgcajgmokcmcgaa", sum := "5065f7726828efac71ed3520e510b7c16dfed103f42b748ee584865c5bb27ad8", func := "loop.example/g01245/laws.FnExactLogarithmUpTo", spec := "fnExactLogarithmUpTo", unfollowed := true, recurses := true, plainKeys := false, apart := false, narrowed := true }
def FnExactLogarithmUpToUptoSaid : Prop := fnExactLogarithmUpToUptoRow.holds Try.pinned (OpenSpec.upto fnExactLogarithmUpToSpec)

/-- 'laws.FnExactActionOf', WHERE WHAT IT READS IS OF BULK AT MOST 1048576: true; the input reads as it did. -/
def fnExactActionOfUptoRow : OpenClaim := { program := "ytgcajgmokcmcgaa", sum := "5065f7726828efac71ed3520e510b7c16dfed103f42b748ee584865c5bb27ad8", func := "loop.example/g01245/laws.FnExactActionOf", spec := "fnExactActionOf", unfollowed := true, recurses := true, plainKeys := false, apart := false, narrowed := true }
def FnExactActionOfUptoSaid : Prop := fnExactActionOfUptoRow.holds Try.pinned (OpenSpec.upto fnExactActionOfSpec)

/-- 'laws.FnExactBinomialOf', WHERE WHAT IT READS IS OF BULK AT MOST 1048576: true; the input reads as it did. -/
def fnExactBinomialOfUptoRow : OpenClaim := { program := "ytgcajgmokcmcgaa", sum := "5065f7726828efac71ed3520e510b7c16dfed103f42b748ee584865c5bb27ad8", func := "loop.example/g01245/laws.FnExactBinomialOf", spec := "fnExactBinomialOf", unfollowed := true, recurses := true, plainKeys := false, apart := false, narrowed := true }
def FnExactBinomialOfUptoSaid : Prop := fnExactBinomialOfUptoRow.holds Try.pinned (OpenSpec.upto fnExactBinomialOfSpec)

/-- 'laws.FnExactMooreMatrix', WHERE WHAT IT READS IS OF BULK AT MOST 1048576: true; the input reads as it did. -/
def fnExactMooreMatrixUptoRow : OpenClaim := { program := "ytgcajgmokcmcgaa", sum := "5065f7726828efac71ed3520e510b7c16dfed103f42b748ee584865c5bb27ad8", func := "loop.example/g01245/laws.FnExactMooreMatrix", spec := "fnExactMooreMatrix", unfollowed := true, recurses := true, plainKeys := false, apart := false, narrowed := true }
def FnExactMooreMatrixUptoSaid : Prop := fnExactMooreMatrixUptoRow.holds Try.pinned (OpenSpec.upto fnExactMooreMatrixSpec)

/-- 'laws.FnExactDrinfeldAction', WHERE WHAT IT READS IS OF BULK AT MOST 1048576: true; the input reads as it did. -/
def fnExactDrinfeldActionUptoRow : OpenClaim := { program := "ytgcajgmokcmcgaa", sum := "5065f7726828efac71ed3520e510b7c16dfed103f42b748ee584865c5bb27ad8", func := "loop.example/g01245/laws.FnExactDrinfeldAction", spec := "fnExactDrinfeldAction", unfollowed := true, recurses := true, plainKeys := false, apart := false, narrowed := true }
def FnExactDrinfeldActionUptoSaid : Prop := fnExactDrinfeldActionUptoRow.holds Try.pinned (OpenSpec.upto fnExactDrinfeldActionSpec)

/-- 'laws.FnExactSymbolSum', WHERE WHAT IT READS IS OF BULK AT MOST 1048576: true; the input reads as it did. -/
def fnExactSymbolSumUptoRow : OpenClaim := { program := "ytgcajgmokcmcgaa", sum := "5065f7726828efac71ed3520e510b7c16dfed103f42b748ee584865c5bb27ad8", func := "loop.example/g01245/laws.FnExactSymbolSum", spec := "fnExactSymbolSum", unfollowed := true, recurses := true, plainKeys := false, apart := false, narrowed := true }
def FnExactSymbolSumUptoSaid : Prop := fnExactSymbolSumUptoRow.holds Try.pinned (OpenSpec.upto fnExactSymbolSumSpec)

end Rows
end Go.Proofs.Ytgcajgmokcmcgaa
