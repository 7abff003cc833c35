
/- The law FnEqualizers on drawn codes. Written by wip/tools/drawlaw.py. -/
import Derived.Test.YtfnneogadciimabEql
set_option linter.unusedSimpArgs false
set_option linter.unusedVariables false
set_option linter.unusedSectionVars false
namespace Go.Proofs.Ytfnneogadciimab.lawFnEqualizers
open Go.ChangeShapes Go.WideShapes Go.ChangeAt Go.RowKit

end Go.Proofs.Ytfnneogadciimab.lawFnEqualizers
