
/- The program's joining of classes. -/
import Derived.Test.YtakifeiemcldlaaForest
namespace Go.Proofs.Ytakifeiemcldlaa
open Go.RowKit

/-- The leaders' table: it reads in some way that tells R. -/
def Lead (w : World) (base : Nat) (v : Value) (R : List Int) : Prop := ∃ l, Sl w base v l ∧ InvL l ∧ Rts l = R

theorem Lead.len {w : World} {base : Nat} {v : Value} {R : List Int} (h : Lead w base v R) : R.length ≤ 17592186044415 := by
  obtain ⟨l, hs, _, rfl⟩ := h
  rw [Rts_len]; exact hs.2

theorem lead_below {w w' : World} {base : Nat} {v : Value} {R : List Int} (hb : Below w.heap.size w w') (h : Lead w base v R) : Lead w' base v R := by
  obtain ⟨l, hs, r⟩ := h
  exact ⟨l, sl_below hb hs, r⟩

theorem lead_lt {w : World} {base : Nat} {v : Value} {R : List Int} (h : Lead w base v R) : ∀ k, v.ownBlock = some k → base ≤ k ∧ k < w.heap.size := by
  obtain ⟨l, hs, _⟩ := h
  exact hs.1.lt

theorem filled_set {n k : Nat} (hk : k < n) : (upTo 0 k ++ List.replicate (n - k) 0).set k (k : Int) = upTo 0 (k + 1) ++ List.replicate (n - (k + 1)) 0 := by
  have hl : (upTo 0 k).length = k := upTo_length _ _
  rw [List.set_append, if_neg (by omega), hl, Nat.sub_self, upTo_succ]
  obtain ⟨m, hm⟩ : ∃ m, n - k = m + 1 := ⟨n - k - 1, by omega⟩
  have hm' : n - (k + 1) = m := by omega
  rw [hm, hm', List.replicate_succ]
  simp

theorem lab_fill {R : List Int} {k : Nat} (hk : k < R.length) :
    (R.take k ++ List.replicate (R.length - k) 0).set k (R.getD k 0) = R.take (k + 1) ++ List.replicate (R.length - (k + 1)) 0 := set_fill hk

end Go.Proofs.Ytakifeiemcldlaa
