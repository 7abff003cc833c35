
/- What a partition is: the program's own test and the model's. -/
import Derived.Test.YtakifeiemcldlaaPartBy
namespace Go.Proofs.Ytakifeiemcldlaa
open Go.RowKit

theorem clsOf_len (l : List Int) : (clsOf l).length = l.length := clsTo_len _ _
theorem clsOf_getD {l : List Int} {k : Nat} (hk : k < l.length) : (clsOf l).getD k 0 = ((seenOf (l.take k)).idxOf (l.getD k 0) : Int) := by
  unfold clsOf clsTo
  simp [List.getD_eq_getElem?_getD, hk]

theorem idxOf_upTo {c : Nat} {x : Int} (h0 : 0 ≤ x) (h1 : x < c) : ((upTo 0 c).idxOf x : Int) = x := by
  obtain ⟨m, rfl⟩ := Int.eq_ofNat_of_zero_le h0
  have hm : m < c := by omega
  have := idx_hit (l := upTo 0 c) (x := (m : Int)) (k := m) (by rw [upTo_length]; exact hm) (by rw [upTo_getD 0 c m hm]; simp) (fun j hj => by rw [upTo_getD 0 c j (by omega)]; omega)
  rw [this]

theorem not_mem_upTo {c : Nat} {x : Int} (h : x < 0 ∨ (c : Int) ≤ x) : x ∉ upTo 0 c := by
  intro hm
  simp only [upTo, List.mem_map, List.mem_range] at hm
  obtain ⟨j, hj, rfl⟩ := hm
  omega

theorem mem_upTo {c : Nat} {x : Int} (h0 : 0 ≤ x) (h1 : x < c) : x ∈ upTo 0 c := by
  simp only [upTo, List.mem_map, List.mem_range]
  exact ⟨x.toNat, by omega, by omega⟩

theorem upTo_succ (c : Nat) : upTo 0 (c + 1) = upTo 0 c ++ [(c : Int)] := by simp [upTo, List.range_succ]

def PartP (p : List Int) : Prop := p.length ≤ 256 ∧ p = clsOf p
instance (p : List Int) : Decidable (PartP p) := inferInstanceAs (Decidable (_ ∧ _))
def fIsPartition (p : List Int) : Bool := decide (PartP p)

end Go.Proofs.Ytakifeiemcldlaa
