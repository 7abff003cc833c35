
/- Two categories that the model reads. -/
import Derived.Test.YtbfenibkbmkcaabShort
import Derived.Test.YtbfenibkbmkcaabTwo2
set_option linter.unusedSimpArgs false
set_option linter.unusedVariables false
set_option linter.unusedSectionVars false
namespace Go.Proofs.Ytbfenibkbmkcaab
open Go.RowKit

end Go.Proofs.Ytbfenibkbmkcaab
