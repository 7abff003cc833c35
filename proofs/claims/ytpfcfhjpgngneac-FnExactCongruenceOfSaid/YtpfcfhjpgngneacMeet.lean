
/- MeetPartitions: the program and its model. -/
import Derived.Deep.RegionHeld3
import Derived.Deep.AppendLies
import Derived.StillTailTactics
import Derived.Test.YtpfcfhjpgngneacIdx
set_option linter.unusedSimpArgs false
set_option linter.unusedVariables false
set_option linter.unusedSectionVars false
namespace Go.Proofs.Ytpfcfhjpgngneac
open Go.RowKit

def BothP (p q : List Int) : Prop := PartP p ∧ PartP q ∧ p.length = q.length
instance (p q : List Int) : Decidable (BothP p q) := inferInstanceAs (Decidable (_ ∧ _))
def meetL (p q : List Int) (k : Nat) : List Int := (List.range k).map fun (j : Nat) => p.getD j 0 * 256 + q.getD j 0
def fMeetPartitions (p q : List Int) : List Int × Int := if BothP p q then (clsOf (meetL p q p.length), 0) else ([], 1)

theorem meetL_len (p q : List Int) (k : Nat) : (meetL p q k).length = k := by simp [meetL]
theorem meetL_snoc (p q : List Int) (k : Nat) : meetL p q (k + 1) = meetL p q k ++ [p.getD k 0 * 256 + q.getD k 0] := by simp [meetL, List.range_succ]

theorem part_range {p : List Int} (h : PartP p) {k : Nat} (hk : k < p.length) : 0 ≤ p.getD k 0 ∧ p.getD k 0 ≤ 256 := by
  obtain ⟨h1, h2⟩ := h
  have h3 := clsOf_getD hk
  rw [← h2] at h3
  rw [h3]
  have h4 := idx_lt (s := seenOf (p.take k)) (x := p.getD k 0)
  have h5 := seenOf_len (p.take k)
  simp at h5
  omega

theorem getD_of_mem {l : List Int} {x : Int} (hx : x ∈ l) : ∃ j, j < l.length ∧ l.getD j 0 = x := by
  obtain ⟨j, hj, rfl⟩ := List.getElem_of_mem hx
  exact ⟨j, hj, by simp [List.getD_eq_getElem?_getD, hj]⟩

theorem meetL_wf {p q : List Int} (h : BothP p q) : ∀ x ∈ meetL p q p.length, (Lit.int .i64 x).wf = true := fun x hx => by
  simp only [meetL, List.mem_map, List.mem_range] at hx
  obtain ⟨j, hj, rfl⟩ := hx
  have h1 := part_range h.1 hj
  have h2 := part_range h.2.1 (k := j) (by rw [← h.2.2]; exact hj)
  exact WalkArith.wf_i64 (by omega)

theorem meet_fill {p q : List Int} {n k : Nat} (hk : k < n) :
    (meetL p q k ++ List.replicate (n - k) 0).set k (p.getD k 0 * 256 + q.getD k 0) = meetL p q (k + 1) ++ List.replicate (n - (k + 1)) 0 := by
  have hl : (meetL p q k).length = k := meetL_len _ _ _
  rw [List.set_append, if_neg (by omega), hl, Nat.sub_self, meetL_snoc]
  obtain ⟨m, hm⟩ : ∃ m, n - k = m + 1 := ⟨n - k - 1, by omega⟩
  have hm' : n - (k + 1) = m := by omega
  rw [hm, hm', List.replicate_succ]
  simp

end Go.Proofs.Ytpfcfhjpgngneac
