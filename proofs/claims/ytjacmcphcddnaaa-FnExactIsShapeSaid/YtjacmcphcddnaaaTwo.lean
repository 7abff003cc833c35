
/- The error of two maps from one set. -/
import Derived.Test.YtjacmcphcddnaaaCode
namespace Go.Proofs.Ytjacmcphcddnaaa
open Go.RowKit

def codeTwo (n : Int) (f g : List Int) : Int := if codeM n f = 0 then (if MapP n g ∧ f.length = g.length then 0 else 1) else codeM n f

end Go.Proofs.Ytjacmcphcddnaaa
