/-
  Walks: the model's product behind its checks.
-/
import Derived.Test.YtpeehpaghdddgaaW11
namespace Go.Proofs.Ytpeehpaghdddgaa
open Go.RowKit
set_option linter.unusedVariables false
end Go.Proofs.Ytpeehpaghdddgaa
