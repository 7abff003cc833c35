
/- Two rows of the call's own: appending to one leaves the other. -/
import Derived.Maps.AppendAt
import Derived.Test.YtakifeiemcldlaaBase
namespace Go.Proofs.Ytakifeiemcldlaa
open Go.RowKit

/-- As 'wp_app64', and where the row lies behind it. -/
theorem wp_app64x {wr : World} {ops : Array Oper} {rest : List Oper} {o : Oper} {a : Act} {Q : Exit → Act → World → Prop}
    (hg : o.guard = none) (s x : Operand) (t : TypeId) (ho : o.op = .call { callee := .builtin .append, args := #[s, x], argTypes := #[t, t] }) (ht : Try.prog.underlying t = some (.slice 2))
    {base : Nat} {v : Value} {xs : List Int} (y : Int) (hs : Sl wr base v xs) (hv : a.eval s = v) (hx : a.eval x = .slice (some ⟨wr.heap.size, 0, none⟩) 1 1)
    (hn : xs.length + 1 ≤ 17592186044415) (hbase : base ≤ wr.heap.size)
    (hK : ∀ v' w', Sl w' base v' (xs ++ [y]) → wr.grownBy w' v.ownBlock → (∀ g, v'.ownBlock = some g → v.ownBlock = some g ∨ wr.heap.size ≤ g) → wpList Try.prog ops Q rest (a.put o.dst v') w') :
    wpList Try.prog ops Q (o :: rest) a (wr.alloc (.cells #[.int .i64 y] 2)) := by
  obtain ⟨i, hi, hz, hs1, hb⟩ := info_parts info64
  refine wpList_append_own_at (P := Try.prog) (wr.alloc (.cells #[.int .i64 y] 2)) hg s x t ho base 2 i (.int .i64 0) 1 8 ht hi hz hs1 hb rfl (by decide) v xs.length (xs.map (Value.int .i64)) hv (sl_alloc hs _).1 ⟨wr.heap.size, 0, none⟩ 1 1 [.int .i64 y] hx rfl (cell_one_new wr _ _) (by simp [Value.oneCell']) (by unfold maxLen; omega) (by omega) (by simp; omega) ?_
  intro v' w' hown hgrow _ hat
  refine hK v' w' ⟨by simpa using hown, by simpa using hn⟩ (grown_alloc hgrow) fun g hgv => ?_
  rcases hat with h | h
  · exact .inl (by rw [← h]; exact hgv)
  · refine .inr ?_
    rw [h] at hgv
    simp at hgv
    omega

theorem apart_grow {wr : World} {B : Nat} {u v v' : Value} {ys : List Int} (hu : Sl wr B u ys) (h : Apart u v) (hv : ∀ g, v'.ownBlock = some g → v.ownBlock = some g ∨ wr.heap.size ≤ g) : Apart u v' := fun g hg hv' => by
  rcases hv g hv' with h1 | h1
  · exact h g hg h1
  · have := (hu.1.lt g hg).2
    omega

end Go.Proofs.Ytakifeiemcldlaa
