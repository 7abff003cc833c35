
/- The model's joining of pairs. -/
import Derived.Test.YtakifeiemcldlaaJoinM
namespace Go.Proofs.Ytakifeiemcldlaa
open Go.RowKit

theorem relab_fill {L : List Int} {a b : Int} {k : Nat} (hk : k < L.length) :
    ((relab L a b).take k ++ L.drop k).set k (if L.getD k 0 = b then a else L.getD k 0) = (relab L a b).take (k + 1) ++ L.drop (k + 1) := by
  have hl : ((relab L a b).take k).length = k := by simp [relab]; omega
  rw [List.set_append, if_neg (by omega), hl, Nat.sub_self, List.drop_eq_getElem_cons hk, List.set_cons_zero, take_snoc (by simpa [relab] using hk)]
  have : (relab L a b).getD k 0 = if L.getD k 0 = b then a else L.getD k 0 := getD_map hk
  rw [this]
  simp

theorem relab_keep {L : List Int} {a b : Int} {k : Nat} (hk : k < L.length) (h : L.getD k 0 ≠ b) :
    (relab L a b).take k ++ L.drop k = (relab L a b).take (k + 1) ++ L.drop (k + 1) := by
  rw [take_snoc (by simpa [relab] using hk)]
  have : (relab L a b).getD k 0 = L.getD k 0 := by
    have h1 : (relab L a b).getD k 0 = if L.getD k 0 = b then a else L.getD k 0 := getD_map hk
    rw [h1, if_neg h]
  rw [this, List.drop_eq_getElem_cons hk]
  simp [List.getD_eq_getElem?_getD, List.getElem?_eq_getElem hk]

theorem relab_self (L : List Int) (a : Int) : relab L a a = L := by
  unfold relab
  conv => rhs; rw [← List.map_id L]
  refine List.map_congr_left fun z _ => ?_
  split <;> simp_all

theorem mixed_getD {L M : List Int} {k : Nat} (hl : M.length = L.length) (hk : k < L.length) : (M.take k ++ L.drop k).getD k 0 = L.getD k 0 := by
  have h : (M.take k).length = k := by simp; omega
  simp only [List.getD_eq_getElem?_getD]
  rw [List.getElem?_append_right (by omega), h, Nat.sub_self, List.getElem?_drop]
  simp

theorem lead_base {w : World} {base g n cap : Nat} {xs : List Int} (h : Sl w base (.slice (some ⟨g, 0, none⟩) n cap) xs) : base ≤ g := (sl_lt h).1

end Go.Proofs.Ytakifeiemcldlaa
