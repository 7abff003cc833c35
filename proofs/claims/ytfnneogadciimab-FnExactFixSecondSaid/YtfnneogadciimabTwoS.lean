
/- Two categories that the model reads. -/
import Derived.Test.YtfnneogadciimabShort
import Derived.Test.YtfnneogadciimabTwo2
set_option linter.unusedSimpArgs false
set_option linter.unusedVariables false
set_option linter.unusedSectionVars false
namespace Go.Proofs.Ytfnneogadciimab
open Go.RowKit

end Go.Proofs.Ytfnneogadciimab
