/- Contracts of layer 3: the program's functions on addresses. -/
import Derived.Test.YtmmpifcfhjdfnaaP03b
set_option linter.unusedSimpArgs false
set_option linter.unusedVariables false
namespace Go.Proofs.Ytmmpifcfhjdfnaa
open Go.ChangeShapes Go.WideShapes Go.ChangeAt Go.RowKit
end Go.Proofs.Ytmmpifcfhjdfnaa
