
/- The error of a map. -/
import Derived.Test.YtakifeiemcldlaaMap
namespace Go.Proofs.Ytakifeiemcldlaa
open Go.RowKit

theorem ret_i {a b : Int} (h : a = b) : Ending.returned (.int .i64 a) = .returned (.int .i64 b) := by rw [h]

def codeM (n : Int) (xs : List Int) : Int := if SizeP n then (if MapP n xs then 0 else 1) else 2

/-- The indices below k that a test takes. -/
def idxs (p : Nat → Bool) (k : Nat) : List Int := ((List.range k).filter p).map (fun (j : Nat) => (j : Int))
theorem idxs_yes {p : Nat → Bool} {k : Nat} (h : p k = true) : idxs p (k + 1) = idxs p k ++ [(k : Int)] := by
  simp [idxs, List.range_succ, h]
theorem idxs_no {p : Nat → Bool} {k : Nat} (h : p k = false) : idxs p (k + 1) = idxs p k := by
  simp [idxs, List.range_succ, h]
theorem idxs_len (p : Nat → Bool) (k : Nat) : (idxs p k).length ≤ k := by
  simpa [idxs] using List.length_filter_le p (List.range k)

end Go.Proofs.Ytakifeiemcldlaa
