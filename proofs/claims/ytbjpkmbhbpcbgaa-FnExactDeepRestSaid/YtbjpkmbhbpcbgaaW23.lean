/-
  Walks: greatest common divisors behind their checks.
-/
import Derived.Test.YtbjpkmbhbpcbgaaW22
namespace Go.Proofs.Ytbjpkmbhbpcbgaa
open Go.RowKit
set_option linter.unusedVariables false
set_option linter.unusedSimpArgs false
attribute [local irreducible] deg invN dS qS stp stpr quoP resP oneP bzD bzU bzW bezV twoV
end Go.Proofs.Ytbjpkmbhbpcbgaa
