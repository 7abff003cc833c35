
/- The error of two maps from one set. -/
import Derived.Test.YtakifeiemcldlaaCode
namespace Go.Proofs.Ytakifeiemcldlaa
open Go.RowKit

def codeTwo (n : Int) (f g : List Int) : Int := if codeM n f = 0 then (if MapP n g ∧ f.length = g.length then 0 else 1) else codeM n f

end Go.Proofs.Ytakifeiemcldlaa
