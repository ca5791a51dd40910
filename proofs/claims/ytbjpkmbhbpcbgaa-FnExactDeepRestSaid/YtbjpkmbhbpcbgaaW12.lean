/-
  Walks: the model's product behind its checks.
-/
import Derived.Test.YtbjpkmbhbpcbgaaW11
namespace Go.Proofs.Ytbjpkmbhbpcbgaa
open Go.RowKit
set_option linter.unusedVariables false
end Go.Proofs.Ytbjpkmbhbpcbgaa
