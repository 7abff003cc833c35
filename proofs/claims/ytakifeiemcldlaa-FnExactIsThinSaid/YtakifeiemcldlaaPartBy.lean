
/- The program's partition by labels: a map from each label to its number. -/
import Derived.Maps.OwnSet
import Derived.Test.YtakifeiemcldlaaIdx
namespace Go.Proofs.Ytakifeiemcldlaa
open Go.RowKit
open Go.Maps

theorem law64 : Keyed Try.prog 2 := int_keyed Try.underlying2
theorem zero64 (w : World) : (zeroValue 2).run Try.prog w = .ok (.int .i64 0) w := by kernel_rfl

/-- The map holds for each number of s its place in s. -/
def MapIs (D : DataW Unit) (s : List Int) : Prop :=
  Tidy D ∧ Maps.size D = s.length ∧ ∀ x : Int, Maps.has D (.int .i64 x) = decide (x ∈ s) ∧ (x ∈ s → ∀ z, D.atKey (.int .i64 x) z = .lit (.int .i64 (s.idxOf x)))

theorem mapIs_nil : MapIs (.map []) [] := ⟨tidy_empty, rfl, fun x => ⟨by simp [Maps.has], fun h => by simp at h⟩⟩

theorem keyLit (x : Int) : WideAt.IsKeyLit (.int .i64 x) := by simp [WideAt.IsKeyLit]

theorem mapIs_put {D : DataW Unit} {s : List Int} {x : Int} (h : MapIs D s) (hx : x ∉ s) : MapIs (D.put (.int .i64 x) (.lit (.int .i64 s.length))) (s ++ [x]) := by
  obtain ⟨h1, h2, h3⟩ := h
  refine ⟨h1.put (keyLit x) _, ?_, fun y => ?_⟩
  · rw [size_put h1, (h3 x).1]; simp [hx, h2]
  · by_cases hy : y = x
    · subst hy
      refine ⟨by rw [has_put_same h1.isMap (keyLit y)]; simp, fun _ z => ?_⟩
      rw [atKey_put_same h1.isMap (keyLit y)]
      rw [List.idxOf_append, if_neg hx]
      simp
    · have hne : Lit.int IntKind.i64 y ≠ Lit.int IntKind.i64 x := by simpa using hy
      refine ⟨by rw [has_put_other hne, (h3 y).1]; simp [hy], fun hm z => ?_⟩
      have hys : y ∈ s := by simpa [hy] using hm
      rw [atKey_put_other hne, (h3 y).2 hys, List.idxOf_append, if_pos hys]

theorem cls_fill {l : List Int} {k : Nat} (hk : k < l.length) :
    (clsTo l k ++ List.replicate (l.length - k) 0).set k ((seenOf (l.take k)).idxOf (l.getD k 0) : Int) = clsTo l (k + 1) ++ List.replicate (l.length - (k + 1)) 0 := by
  have hl : (clsTo l k).length = k := clsTo_len _ _
  rw [List.set_append, if_neg (by omega), hl, Nat.sub_self, clsTo_snoc]
  obtain ⟨m, hm⟩ : ∃ m, l.length - k = m + 1 := ⟨l.length - k - 1, by omega⟩
  have hm' : l.length - (k + 1) = m := by omega
  rw [hm, hm', List.replicate_succ]
  simp

theorem idx_lt {s : List Int} {x : Int} : s.idxOf x ≤ s.length := List.idxOf_le_length

end Go.Proofs.Ytakifeiemcldlaa
