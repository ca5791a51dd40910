/-
  No cell of these rows narrows 'for every input' (looked for: loops, veiled, ifaces, maps, wideKeys, modest, calm, conditions, laid).
  DERIVED. THE GIVEN ROWS OF THIS SEAT. 11 by the template 'for every input the law returns true; each argument reads behind the call as it read before'; 0 by the template 'total and deterministic' (their statements: YtelgefgphhebnaaTotals.lean).
  GIVEN WITH THE SEED: the statements are not yours to turn. If you find one false, say at which input.
  Laid BY PROGRAM, IN A SANDBOX (cutbox-rows.mjs): the forced cells as the released guide's own fill.sh prints them over the translation e9a7f7b932581824… (all of the seat's roots in one cut). By AI agents, Wed Nov 11 2026. No macro, syntax, notation, axiom, sorry.
-/
import Derived.Test.YtelgefgphhebnaaChecked
import GoSem.Claim
import GoSem.ClaimJoined
import GoSem.ClaimMapViews
import Derived.JoinedTies
import Derived.KernelRfl
namespace Go.Proofs.Ytelgefgphhebnaa
/- THE CELL 'sum', in the pinned program and in every row, IS THE sha256 OF THE DUMP (.gsa) THAT YtelgefgphhebnaaProg.lean LOADS. Nothing in Lean hashes anything: it is a label: what it is worth is what the hold of that sum in a sandbox is worth. -/
noncomputable def Try.pinned : Pinned := { name := "ytelgefgphhebnaa", sum := "e9a7f7b9325818244d7bc4f5e286c27a71629d89a35dfd3f800939c8e442b647", checked := Try.checked }
namespace Rows
def none {H : Type} : Left H := { results := [], args := [] }

/-- 'laws.FnExactMooreMatrix': WHATEVER THE INPUT: true; the input reads as it did. -/
def fnExactMooreMatrixSpec : ChangeSpec := { name := "fnExactMooreMatrix", fn := fun _ => fun
  | [d1, d2, d3] => { results := [.lit (.bool true)], args := [d1, d2, d3] }
  | _ => none }
def fnExactMooreMatrixRow : OpenClaim := { program := "ytelgefgphhebnaa", sum := "e9a7f7b9325818244d7bc4f5e286c27a71629d89a35dfd3f800939c8e442b647", func := "loop.example/g01245/laws.FnExactMooreMatrix", spec := "fnExactMooreMatrix", unfollowed := true, recurses := true, plainKeys := false, apart := false }
def FnExactMooreMatrixSaid : Prop := fnExactMooreMatrixRow.holds Try.pinned (OpenSpec.ofChange fnExactMooreMatrixSpec)

/-- ITS FALSE NEIGHBOUR: 'it returns false'. Refute it at one input. -/
def fnExactMooreMatrixWrong : ChangeSpec := { name := "fnExactMooreMatrix", fn := fun _ => fun
  | [d1, d2, d3] => { results := [.lit (.bool false)], args := [d1, d2, d3] }
  | _ => none }
def FnExactMooreMatrixWrongFalsely : Prop := fnExactMooreMatrixRow.holds Try.pinned (OpenSpec.ofChange fnExactMooreMatrixWrong)

/-- 'laws.FnExactSpanOf': WHATEVER THE INPUT: true; the input reads as it did. -/
def fnExactSpanOfSpec : ChangeSpec := { name := "fnExactSpanOf", fn := fun _ => fun
  | [d1, d2, d3] => { results := [.lit (.bool true)], args := [d1, d2, d3] }
  | _ => none }
def fnExactSpanOfRow : OpenClaim := { program := "ytelgefgphhebnaa", sum := "e9a7f7b9325818244d7bc4f5e286c27a71629d89a35dfd3f800939c8e442b647", func := "loop.example/g01245/laws.FnExactSpanOf", spec := "fnExactSpanOf", unfollowed := true, recurses := true, plainKeys := false, apart := false }
def FnExactSpanOfSaid : Prop := fnExactSpanOfRow.holds Try.pinned (OpenSpec.ofChange fnExactSpanOfSpec)

/-- ITS FALSE NEIGHBOUR: 'it returns false'. Refute it at one input. -/
def fnExactSpanOfWrong : ChangeSpec := { name := "fnExactSpanOf", fn := fun _ => fun
  | [d1, d2, d3] => { results := [.lit (.bool false)], args := [d1, d2, d3] }
  | _ => none }
def FnExactSpanOfWrongFalsely : Prop := fnExactSpanOfRow.holds Try.pinned (OpenSpec.ofChange fnExactSpanOfWrong)

/-- 'laws.FnExactRankOfWord': WHATEVER THE INPUT: true; the input reads as it did. -/
def fnExactRankOfWordSpec : ChangeSpec := { name := "fnExactRankOfWord", fn := fun _ => fun
  | [d1, d2, d3] => { results := [.lit (.bool true)], args := [d1, d2, d3] }
  | _ => none }
def fnExactRankOfWordRow : OpenClaim := { program := "ytelgefgphhebnaa", sum := "e9a7f7b9325818244d7bc4f5e286c27a71629d89a35dfd3f800939c8e442b647", func := "loop.example/g01245/laws.FnExactRankOfWord", spec := "fnExactRankOfWord", unfollowed := true, recurses := true, plainKeys := false, apart := false }
def FnExactRankOfWordSaid : Prop := fnExactRankOfWordRow.holds Try.pinned (OpenSpec.ofChange fnExactRankOfWordSpec)

/-- ITS FALSE NEIGHBOUR: 'it returns false'. Refute it at one input. -/
def fnExactRankOfWordWrong : ChangeSpec := { name := "fnExactRankOfWord", fn := fun _ => fun
  | [d1, d2, d3] => { results := [.lit (.bool false)], args := [d1, d2, d3] }
  | _ => none }
def FnExactRankOfWordWrongFalsely : Prop := fnExactRankOfWordRow.holds Try.pinned (OpenSpec.ofChange fnExactRankOfWordWrong)

/-- 'laws.FnExactRankDistance': WHATEVER THE INPUT: true; the input reads as it did. -/
def fnExactRankDistanceSpec : ChangeSpec := { name := "fnExactRankDistance", fn := fun _ => fun
  | [d1, d2, d3, d4] => { results := [.lit (.bool true)], args := [d1, d2, d3, d4] }
  | _ => none }
def fnExactRankDistanceRow : OpenClaim := { program := "ytelgefgphhebnaa", sum := "e9a7f7b9325818244d7bc4f5e286c27a71629d89a35dfd3f800939c8e442b647", func := "loop.example/g01245/laws.FnExactRankDistance", spec := "fnExactRankDistance", unfollowed := true, recurses := true, plainKeys := false, apart := false }
def FnExactRankDistanceSaid : Prop := fnExactRankDistanceRow.holds Try.pinned (OpenSpec.ofChange fnExactRankDistanceSpec)

/-- ITS FALSE NEIGHBOUR: 'it returns false'. Refute it at one input. -/
def fnExactRankDistanceWrong : ChangeSpec := { name := "fnExactRankDistance", fn := fun _ => fun
  | [d1, d2, d3, d4] => { results := [.lit (.bool false)], args := [d1, d2, d3, d4] }
  | _ => none }
def FnExactRankDistanceWrongFalsely : Prop := fnExactRankDistanceRow.holds Try.pinned (OpenSpec.ofChange fnExactRankDistanceWrong)

/-- 'laws.FnExactLeastRank': WHATEVER THE INPUT: true; the input reads as it did. -/
def fnExactLeastRankSpec : ChangeSpec := { name := "fnExactLeastRank", fn := fun _ => fun
  | [d1, d2, d3, d4] => { results := [.lit (.bool true)], args := [d1, d2, d3, d4] }
  | _ => none }
def fnExactLeastRankRow : OpenClaim := { program := "ytelgefgphhebnaa", sum := "e9a7f7b9325818244d7bc4f5e286c27a71629d89a35dfd3f800939c8e442b647", func := "loop.example/g01245/laws.FnExactLeastRank", spec := "fnExactLeastRank", unfollowed := true, recurses := true, plainKeys := false, apart := false }
def FnExactLeastRankSaid : Prop := fnExactLeastRankRow.holds Try.pinned (OpenSpec.ofChange fnExactLeastRankSpec)

/-- ITS FALSE NEIGHBOUR: 'it returns false'. Refute it at one input. -/
def fnExactLeastRankWrong : ChangeSpec := { name := "fnExactLeastRank", fn := fun _ => fun
  | [d1, d2, d3, d4] => { results := [.lit (.bool false)], args := [d1, d2, d3, d4] }
  | _ => none }
def FnExactLeastRankWrongFalsely : Prop := fnExactLeastRankRow.holds Try.pinned (OpenSpec.ofChange fnExactLeastRankWrong)

/-- 'laws.FnExactLeastSkew': WHATEVER THE INPUT: true; the input reads as it did. -/
def fnExactLeastSkewSpec : ChangeSpec := { name := "fnExactLeastSkew", fn := fun _ => fun
  | [d1, d2, d3] => { results := [.lit (.bool true)], args := [d1, d2, d3] }
  | _ => none }
def fnExactLeastSkewRow : OpenClaim := { program := "ytelgefgphhebnaa", sum := "e9a7f7b9325818244d7bc4f5e286c27a71629d89a35dfd3f800939c8e442b647", func := "loop.example/g01245/laws.FnExactLeastSkew", spec := "fnExactLeastSkew", unfollowed := true, recurses := true, plainKeys := false, apart := false }
def FnExactLeastSkewSaid : Prop := fnExactLeastSkewRow.holds Try.pinned (OpenSpec.ofChange fnExactLeastSkewSpec)

/-- ITS FALSE NEIGHBOUR: 'it returns false'. Refute it at one input. -/
def fnExactLeastSkewWrong : ChangeSpec := { name := "fnExactLeastSkew", fn := fun _ => fun
  | [d1, d2, d3] => { results := [.lit (.bool false)], args := [d1, d2, d3] }
  | _ => none }
def FnExactLeastSkewWrongFalsely : Prop := fnExactLeastSkewRow.holds Try.pinned (OpenSpec.ofChange fnExactLeastSkewWrong)

/-- 'laws.FnExactMooreDeterminant': WHATEVER THE INPUT: true; the input reads as it did. -/
def fnExactMooreDeterminantSpec : ChangeSpec := { name := "fnExactMooreDeterminant", fn := fun _ => fun
  | [d1, d2, d3] => { results := [.lit (.bool true)], args := [d1, d2, d3] }
  | _ => none }
def fnExactMooreDeterminantRow : OpenClaim := { program := "ytelgefgphhebnaa", sum := "e9a7f7b9325818244d7bc4f5e286c27a71629d89a35dfd3f800939c8e442b647", func := "loop.example/g01245/laws.FnExactMooreDeterminant", spec := "fnExactMooreDeterminant", unfollowed := true, recurses := true, plainKeys := false, apart := false }
def FnExactMooreDeterminantSaid : Prop := fnExactMooreDeterminantRow.holds Try.pinned (OpenSpec.ofChange fnExactMooreDeterminantSpec)

/-- ITS FALSE NEIGHBOUR: 'it returns false'. Refute it at one input. -/
def fnExactMooreDeterminantWrong : ChangeSpec := { name := "fnExactMooreDeterminant", fn := fun _ => fun
  | [d1, d2, d3] => { results := [.lit (.bool false)], args := [d1, d2, d3] }
  | _ => none }
def FnExactMooreDeterminantWrongFalsely : Prop := fnExactMooreDeterminantRow.holds Try.pinned (OpenSpec.ofChange fnExactMooreDeterminantWrong)

/-- 'laws.FnExactSquareOfSkew': WHATEVER THE INPUT: true; the input reads as it did. -/
def fnExactSquareOfSkewSpec : ChangeSpec := { name := "fnExactSquareOfSkew", fn := fun _ => fun
  | [d1, d2, d3] => { results := [.lit (.bool true)], args := [d1, d2, d3] }
  | _ => none }
def fnExactSquareOfSkewRow : OpenClaim := { program := "ytelgefgphhebnaa", sum := "e9a7f7b9325818244d7bc4f5e286c27a71629d89a35dfd3f800939c8e442b647", func := "loop.example/g01245/laws.FnExactSquareOfSkew", spec := "fnExactSquareOfSkew", unfollowed := true, recurses := true, plainKeys := false, apart := false }
def FnExactSquareOfSkewSaid : Prop := fnExactSquareOfSkewRow.holds Try.pinned (OpenSpec.ofChange fnExactSquareOfSkewSpec)

/-- ITS FALSE NEIGHBOUR: 'it returns false'. Refute it at one input. -/
def fnExactSquareOfSkewWrong : ChangeSpec := { name := "fnExactSquareOfSkew", fn := fun _ => fun
  | [d1, d2, d3] => { results := [.lit (.bool false)], args := [d1, d2, d3] }
  | _ => none }
def FnExactSquareOfSkewWrongFalsely : Prop := fnExactSquareOfSkewRow.holds Try.pinned (OpenSpec.ofChange fnExactSquareOfSkewWrong)

/-- 'laws.FnExactAddActions': WHATEVER THE INPUT: true; the input reads as it did. -/
def fnExactAddActionsSpec : ChangeSpec := { name := "fnExactAddActions", fn := fun _ => fun
  | [d1, d2, d3] => { results := [.lit (.bool true)], args := [d1, d2, d3] }
  | _ => none }
def fnExactAddActionsRow : OpenClaim := { program := "ytelgefgphhebnaa", sum := "e9a7f7b9325818244d7bc4f5e286c27a71629d89a35dfd3f800939c8e442b647", func := "loop.example/g01245/laws.FnExactAddActions", spec := "fnExactAddActions", unfollowed := true, recurses := true, plainKeys := false, apart := false }
def FnExactAddActionsSaid : Prop := fnExactAddActionsRow.holds Try.pinned (OpenSpec.ofChange fnExactAddActionsSpec)

/-- ITS FALSE NEIGHBOUR: 'it returns false'. Refute it at one input. -/
def fnExactAddActionsWrong : ChangeSpec := { name := "fnExactAddActions", fn := fun _ => fun
  | [d1, d2, d3] => { results := [.lit (.bool false)], args := [d1, d2, d3] }
  | _ => none }
def FnExactAddActionsWrongFalsely : Prop := fnExactAddActionsRow.holds Try.pinned (OpenSpec.ofChange fnExactAddActionsWrong)

/-- 'laws.FnExactComposeActions': WHATEVER THE INPUT: true; the input reads as it did. -/
def fnExactComposeActionsSpec : ChangeSpec := { name := "fnExactComposeActions", fn := fun _ => fun
  | [d1, d2, d3] => { results := [.lit (.bool true)], args := [d1, d2, d3] }
  | _ => none }
def fnExactComposeActionsRow : OpenClaim := { program := "ytelgefgphhebnaa", sum := "e9a7f7b9325818244d7bc4f5e286c27a71629d89a35dfd3f800939c8e442b647", func := "loop.example/g01245/laws.FnExactComposeActions", spec := "fnExactComposeActions", unfollowed := true, recurses := true, plainKeys := false, apart := false }
def FnExactComposeActionsSaid : Prop := fnExactComposeActionsRow.holds Try.pinned (OpenSpec.ofChange fnExactComposeActionsSpec)

/-- ITS FALSE NEIGHBOUR: 'it returns false'. Refute it at one input. -/
def fnExactComposeActionsWrong : ChangeSpec := { name := "fnExactComposeActions", fn := fun _ => fun
  | [d1, d2, d3] => { results := [.lit (.bool false)], args := [d1, d2, d3] }
  | _ => none }
def FnExactComposeActionsWrongFalsely : Prop := fnExactComposeActionsRow.holds Try.pinned (OpenSpec.ofChange fnExactComposeActionsWrong)

/-- 'laws.FnExactKernelOfSkew': WHATEVER THE INPUT: true; the input reads as it did. -/
def fnExactKernelOfSkewSpec : ChangeSpec := { name := "fnExactKernelOfSkew", fn := fun _ => fun
  | [d1, d2, d3] => { results := [.lit (.bool true)], args := [d1, d2, d3] }
  | _ => none }
def fnExactKernelOfSkewRow : OpenClaim := { program := "ytelgefgphhebnaa", sum := "e9a7f7b9325818244d7bc4f5e286c27a71629d89a35dfd3f800939c8e442b647", func := "loop.example/g01245/laws.FnExactKernelOfSkew", spec := "fnExactKernelOfSkew", inPlace := ["slices.overlaps[loop.example/g01245/impl.Poly]"], unfollowed := true, recurses := true, plainKeys := false, apart := false }
def FnExactKernelOfSkewSaid : Prop := fnExactKernelOfSkewRow.holds Try.pinned (OpenSpec.ofChange fnExactKernelOfSkewSpec)

/-- ITS FALSE NEIGHBOUR: 'it returns false'. Refute it at one input. -/
def fnExactKernelOfSkewWrong : ChangeSpec := { name := "fnExactKernelOfSkew", fn := fun _ => fun
  | [d1, d2, d3] => { results := [.lit (.bool false)], args := [d1, d2, d3] }
  | _ => none }
def FnExactKernelOfSkewWrongFalsely : Prop := fnExactKernelOfSkewRow.holds Try.pinned (OpenSpec.ofChange fnExactKernelOfSkewWrong)

/- THE SECOND FORM. 'bulk': how many values and letters a reading holds, each counted each time it is reached (what is shared counts as often as it is met; a slice's spare places count too). A statement '..UptoSaid' is the law's where the arguments, and the package variables that the reading takes, are together of bulk at most 1048576: NARROWER than '..Said'. Prove '..Said' where nothing that the law and all that it calls make is longer than what came in: it says more and counts as full. Else prove '..UptoSaid'. A law counts once. -/
mutual
def uptoBulk {H : Type} : DataW H → Nat
  | .lit (.string bytes) => bytes.length + 1
  | .lit _ => 1
  | .nil => 1
  | .ptr d => uptoBulk d + 1
  | .slice elems spare => uptoBulkAll elems + uptoBulkAll spare + 1
  | .agg parts => uptoBulkAll parts + 1
  | .iface _ d => uptoBulk d + 1
  | .map entries => uptoBulkEntries entries + 1
  | .held _ => 1
def uptoBulkAll {H : Type} : List (DataW H) → Nat
  | [] => 0
  | d :: r => uptoBulk d + uptoBulkAll r
def uptoBulkEntries {H : Type} : List (Lit × DataW H) → Nat
  | [] => 0
  | x :: r => uptoBulkEntry x + uptoBulkEntries r
def uptoBulkEntry {H : Type} : Lit × DataW H → Nat
  | (.string bytes, d) => bytes.length + uptoBulk d + 1
  | (_, d) => uptoBulk d + 1
 end
def uptoSmall : (H : Type) → List (DataW H) → Bool := fun _ ds => decide (uptoBulkAll ds ≤ 1048576)
def OpenSpec.upto (s : _root_.Go.ChangeSpec) : _root_.Go.OpenSpec := { _root_.Go.OpenSpec.ofChange s with cond := some uptoSmall }

/-- 'laws.FnExactMooreMatrix', WHERE WHAT IT READS IS OF BULK AT MOST 1048576: true; the input reads as it did. -/
def fnExactMooreMatrixUptoRow : OpenClaim := { program := "ytelgefgphhebnaa", sum := "e9a7f7b9325818244d7bc4f5e286c27a71629d89a35dfd3f800939c8e442b647", func := "loop.example/g01245/laws.FnExactMooreMatrix", spec := "fnExactMooreMatrix", unfollowed := true, recurses := true, plainKeys := false, apart := false, narrowed := true }
def FnExactMooreMatrixUptoSaid : Prop := fnExactMooreMatrixUptoRow.holds Try.pinned (OpenSpec.upto fnExactMooreMatrixSpec)

/-- 'laws.FnExactSpanOf', WHERE WHAT IT READS IS OF BULK AT MOST 1048576: true; the input reads as it did. -/
def fnExactSpanOfUptoRow : OpenClaim := { program := "ytelgefgphhebnaa", sum := "e9a7f7b9325818244d7bc4f5e286c27a71629d89a35dfd3f800939c8e442b647", func := "loop.example/g01245/laws.FnExactSpanOf", spec := "fnExactSpanOf", unfollowed := true, recurses := true, plainKeys := false, apart := false, narrowed := true }
def FnExactSpanOfUptoSaid : Prop := fnExactSpanOfUptoRow.holds Try.pinned (OpenSpec.upto fnExactSpanOfSpec)

/-- 'laws.FnExactRankOfWord', WHERE WHAT IT READS IS OF BULK AT MOST 1048576: true; the input reads as it did. -/
def fnExactRankOfWordUptoRow : OpenClaim := { program := "ytelgefgphhebnaa", sum := "e9a7f7b9325818244d7bc4f5e286c27a71629d89a35dfd3f800939c8e442b647", func := "loop.example/g01245/laws.FnExactRankOfWord", spec := "fnExactRankOfWord", unfollowed := true, recurses := true, plainKeys := false, apart := false, narrowed := true }
def FnExactRankOfWordUptoSaid : Prop := fnExactRankOfWordUptoRow.holds Try.pinned (OpenSpec.upto fnExactRankOfWordSpec)

/-- 'laws.FnExactRankDistance', WHERE WHAT IT READS IS OF BULK AT MOST 1048576: true; the input reads as it did. -/
def fnExactRankDistanceUptoRow : OpenClaim := { program := "ytelgefgphhebnaa", sum := "e9a7f7b9325818244d7bc4f5e286c27a71629d89a35dfd3f800939c8e442b647", func := "loop.example/g01245/laws.FnExactRankDistance", spec := "fnExactRankDistance", unfollowed := true, recurses := true, plainKeys := false, apart := false, narrowed := true }
def FnExactRankDistanceUptoSaid : Prop := fnExactRankDistanceUptoRow.holds Try.pinned (OpenSpec.upto fnExactRankDistanceSpec)

/-- 'laws.FnExactLeastRank', WHERE WHAT IT READS IS OF BULK AT MOST 1048576: true; the input reads as it did. -/
def fnExactLeastRankUptoRow : OpenClaim := { program := "ytelgefgphhebnaa", sum := "e9a7f7b9325818244d7bc4f5e286c27a71629d89a35dfd3f800939c8e442b647", func := "loop.example/g01245/laws.FnExactLeastRank", spec := "fnExactLeastRank", unfollowed := true, recurses := true, plainKeys := false, apart := false, narrowed := true }
def FnExactLeastRankUptoSaid : Prop := fnExactLeastRankUptoRow.holds Try.pinned (OpenSpec.upto fnExactLeastRankSpec)

/-- 'laws.FnExactLeastSkew', WHERE WHAT IT READS IS OF BULK AT MOST 1048576: true; the input reads as it did. -/
def fnExactLeastSkewUptoRow : OpenClaim := { program := "ytelgefgphhebnaa", sum := "e9a7f7b9325818244d7bc4f5e286c27a71629d89a35dfd3f800939c8e442b647", func := "loop.example/g01245/laws.FnExactLeastSkew", spec := "fnExactLeastSkew", unfollowed := true, recurses := true, plainKeys := false, apart := false, narrowed := true }
def FnExactLeastSkewUptoSaid : Prop := fnExactLeastSkewUptoRow.holds Try.pinned (OpenSpec.upto fnExactLeastSkewSpec)

/-- 'laws.FnExactMooreDeterminant', WHERE WHAT IT READS IS OF BULK AT MOST 1048576: true; the input reads as it did. -/
def fnExactMooreDeterminantUptoRow : OpenClaim := { program := "ytelgefgphhebnaa", sum := "e9a7f7b9325818244d7bc4f5e286c27a71629d89a35dfd3f800939c8e442b647", func := "loop.example/g01245/laws.FnExactMooreDeterminant", spec := "fnExactMooreDeterminant", unfollowed := true, recurses := true, plainKeys := false, apart := false, narrowed := true }
def FnExactMooreDeterminantUptoSaid : Prop := fnExactMooreDeterminantUptoRow.holds Try.pinned (OpenSpec.upto fnExactMooreDeterminantSpec)

/-- 'laws.FnExactSquareOfSkew', WHERE WHAT IT READS IS OF BULK AT MOST 1048576: true; the input reads as it did. -/
def fnExactSquareOfSkewUptoRow : OpenClaim := { program := "ytelgefgphhebnaa", sum := "e9a7f7b9325818244d7bc4f5e286c27a71629d89a35dfd3f800939c8e442b647", func := "loop.example/g01245/laws.FnExactSquareOfSkew", spec := "fnExactSquareOfSkew", unfollowed := true, recurses := true, plainKeys := false, apart := false, narrowed := true }
def FnExactSquareOfSkewUptoSaid : Prop := fnExactSquareOfSkewUptoRow.holds Try.pinned (OpenSpec.upto fnExactSquareOfSkewSpec)

/-- 'laws.FnExactAddActions', WHERE WHAT IT READS IS OF BULK AT MOST 1048576: true; the input reads as it did. -/
def fnExactAddActionsUptoRow : OpenClaim := { program := "ytelgefgphhebnaa", sum := "e9a7f7b9325818244d7bc4f5e286c27a71629d89a35dfd3f800939c8e442b647", func := "loop.example/g01245/laws.FnExactAddActions", spec := "fnExactAddActions", unfollowed := true, recurses := true, plainKeys := false, apart := false, narrowed := true }
def FnExactAddActionsUptoSaid : Prop := fnExactAddActionsUptoRow.holds Try.pinned (OpenSpec.upto fnExactAddActionsSpec)

/-- 'laws.FnExactComposeActions', WHERE WHAT IT READS IS OF BULK AT MOST 1048576: true; the input reads as it did. -/
def fnExactComposeActionsUptoRow : OpenClaim := { program := "ytelgefgphhebnaa", sum := "e9a7f7b9325818244d7bc4f5e286c27a71629d89a35dfd3f800939c8e442b647", func := "loop.example/g01245/laws.FnExactComposeActions", spec := "fnExactComposeActions", unfollowed := true, recurses := true, plainKeys := false, apart := false, narrowed := true }
def FnExactComposeActionsUptoSaid : Prop := fnExactComposeActionsUptoRow.holds Try.pinned (OpenSpec.upto fnExactComposeActionsSpec)

/-- 'laws.FnExactKernelOfSkew', WHERE WHAT IT READS IS OF BULK AT MOST 1048576: true; the input reads as it did. -/
def fnExactKernelOfSkewUptoRow : OpenClaim := { program := "ytelgefgphhebnaa", sum := "e9a7f7b9325818244d7bc4f5e286c27a71629d89a35dfd3f800939c8e442b647", func := "loop.example/g01245/laws.FnExactKernelOfSkew", spec := "fnExactKernelOfSkew", inPlace := ["slices.overlaps[loop.example/g01245/impl.Poly]"], unfollowed := true, recurses := true, plainKeys := false, apart := false, narrowed := true }
def FnExactKernelOfSkewUptoSaid : Prop := fnExactKernelOfSkewUptoRow.holds Try.pinned (OpenSpec.upto fnExactKernelOfSkewSpec)

end Rows
end Go.Proofs.Ytelgefgphhebnaa
