
/- Lists of lists in memory. -/
import Derived.Test.YtakifeiemcldlaaIsPart
namespace Go.Proofs.Ytakifeiemcldlaa
open Go.RowKit

def Rd2 (w : World) (v : Value) (rows : List (List Int)) : Prop :=
  ∃ (a : Option Addr) (cap : Nat), v = .slice a rows.length cap ∧ rows.length ≤ 5000000000000 ∧
    ∀ j, j < rows.length → ∃ b off, a = some ⟨b, off, none⟩ ∧ b < w.heap.size ∧ ∀ i, i < rows.length → ∃ u, w.cell? ⟨b, off + i, none⟩ = some u ∧ Rd w u (rows.getD i [])

theorem rd2_below {w w' : World} {v : Value} {rows : List (List Int)} (hb : Below w.heap.size w w') (h : Rd2 w v rows) : Rd2 w' v rows := by
  obtain ⟨a, cap, hv, hl, hc⟩ := h
  refine ⟨a, cap, hv, hl, fun j hj => ?_⟩
  obtain ⟨b, off, ha, hbs, hcell⟩ := hc j hj
  refine ⟨b, off, ha, Nat.lt_of_lt_of_le hbs hb.size, fun i hi => ?_⟩
  obtain ⟨u, h1, h2⟩ := hcell i hi
  exact ⟨u, (hb.cell (p := ⟨b, off + i, none⟩) hbs).trans h1, rd_below hb h2⟩

/-- A list of lists of the call's own, from block base on; no row in the block of the list itself, no two rows in one block. -/
def Sl2 (w : World) (base : Nat) (v : Value) (rows : List (List Int)) : Prop :=
  ∃ us : List Value, us.length = rows.length ∧ rows.length ≤ 5000000000000 ∧ w.ownsRow base 22 1 v rows.length us ∧
    (∀ i, i < rows.length → Sl w base (us.getD i undef) (rows.getD i []) ∧ Apart (us.getD i undef) v) ∧
    ∀ i j, i < j → j < rows.length → Apart (us.getD i undef) (us.getD j undef)

theorem sl2_rd {w : World} {base : Nat} {v : Value} {rows : List (List Int)} (h : Sl2 w base v rows) : Rd2 w v rows := by
  obtain ⟨us, hul, hl, ⟨hlen, hor⟩, hr, _⟩ := h
  rcases hor with ⟨hv, hn⟩ | ⟨g, cap, cur, hv, hb, hg, hnc, hcm, hcs, ht⟩
  · exact ⟨none, 0, by rw [hv, hn], hl, fun j hj => by omega⟩
  · refine ⟨some ⟨g, 0, none⟩, cap, hv, hl, fun j hj => ⟨g, 0, rfl, (Array.getElem?_eq_some_iff.1 hg).1, fun i hi => ⟨us.getD i undef, ?_, (hr i hi).1.rd⟩⟩⟩
    have h1 : us[i]? = some (us.getD i undef) := by
      rw [List.getD_eq_getElem?_getD, List.getElem?_eq_getElem (by omega)]; rfl
    rw [← ht] at h1
    rw [cell_of_row w g (0 + i) cur _ (0, 0) hg]
    rw [List.getElem?_take] at h1
    split at h1
    · rw [Nat.zero_add, ← ht]; simpa using h1
    · cases h1

theorem infoS : (Try.prog.info? 22).map (fun i => (i.zero, i.size, i.bytes)) = some (some (.slice none 0 0), 1, 24) := by kernel_rfl

theorem sl2_empty (w : World) : Sl2 (w.alloc (.cells #[] 22)) w.heap.size (.slice (some ⟨w.heap.size, 0, none⟩) 0 0) [] :=
  ⟨[], rfl, by simp, World.ownsRow_made w #[] 0 (Nat.le_refl _) (Nat.zero_le _) rfl, fun i hi => by simp at hi, fun i j _ hj => by simp at hj⟩

theorem sl2_nil (w : World) (base : Nat) : Sl2 w base (.slice none 0 0) [] :=
  ⟨[], rfl, by simp, World.ownsRow_nil w base _ 1, fun i hi => by simp at hi, fun i j _ hj => by simp at hj⟩

theorem sl2_mono {w : World} {base base' : Nat} {v : Value} {rows : List (List Int)} (h : Sl2 w base v rows) (hb : base' ≤ base) : Sl2 w base' v rows := by
  obtain ⟨us, h1, h2, ⟨h3, h4⟩, h5, h6⟩ := h
  refine ⟨us, h1, h2, ⟨h3, ?_⟩, fun i hi => ⟨(h5 i hi).1.mono hb, (h5 i hi).2⟩, h6⟩
  rcases h4 with h | ⟨g, cap, cur, hv, hbb, rest⟩
  · exact .inl h
  · exact .inr ⟨g, cap, cur, hv, Nat.le_trans hb hbb, rest⟩

theorem sl2_below {w w' : World} {base : Nat} {v : Value} {rows : List (List Int)} (hb : Below w.heap.size w w') (h : Sl2 w base v rows) : Sl2 w' base v rows := by
  obtain ⟨us, h1, h2, ⟨h3, h4⟩, h5, h6⟩ := h
  refine ⟨us, h1, h2, ⟨h3, ?_⟩, fun i hi => ⟨sl_below hb (h5 i hi).1, (h5 i hi).2⟩, h6⟩
  rcases h4 with h | ⟨g, cap, cur, hv, hbb, hg, rest⟩
  · exact .inl h
  · exact .inr ⟨g, cap, cur, hv, hbb, by rw [hb.block g (Array.getElem?_eq_some_iff.1 hg).1]; exact hg, rest⟩

theorem getD_snoc_lt {α : Type} {l : List α} {x d : α} {i : Nat} (h : i < l.length) : (l ++ [x]).getD i d = l.getD i d := by
  simp [List.getD_eq_getElem?_getD, List.getElem?_append, h]
theorem getD_snoc_eq {α : Type} {l : List α} {x d : α} {i : Nat} (h : i = l.length) : (l ++ [x]).getD i d = x := by
  subst h; simp [List.getD_eq_getElem?_getD]

/-- A row in a new block, and the list grown by it. -/
theorem sl2_snoc {wr w3 : World} {base : Nat} {v : Value} {rows : List (List Int)} {us : List Value} {r : List Int} {gg cap : Nat} {u0 : Value} {A : World}
    (hul : us.length = rows.length) (hown : wr.ownsRow base 22 1 v rows.length us)
    (hrows : ∀ i, i < rows.length → Sl wr base (us.getD i undef) (rows.getD i []) ∧ Apart (us.getD i undef) v) (hpair : ∀ i j, i < j → j < rows.length → Apart (us.getD i undef) (us.getD j undef))
    (hA : Below wr.heap.size wr A) (hu0 : Sl A wr.heap.size u0 r) (hbase : base ≤ wr.heap.size) (hn : rows.length + 1 ≤ 5000000000000)
    (hown1 : w3.ownsRow base 22 1 (.slice (some ⟨gg, 0, none⟩) (rows.length + 1) cap) (rows.length + 1) (us ++ [u0])) (hgrow : A.grownBy w3 v.ownBlock)
    (hat : v.ownBlock = some gg ∨ A.heap.size ≤ gg) : Sl2 w3 base (.slice (some ⟨gg, 0, none⟩) (rows.length + 1) cap) (rows ++ [r]) := by
  have hvlt : ∀ g, v.ownBlock = some g → g < wr.heap.size := fun g hg => (hown.lt g hg).2
  have hap0 : Apart u0 v := fun g hg hv => by
    have := (hu0.1.lt g hg).1
    have := hvlt g hv
    omega
  have hlt : ∀ i, i < rows.length → ∀ g, (us.getD i undef).ownBlock = some g → g < wr.heap.size := fun i hi g hg => ((hrows i hi).1.1.lt g hg).2
  refine ⟨us ++ [u0], by simp [hul], by simpa using hn, by simpa using hown1, fun i hi => ?_, fun i j hij hj => ?_⟩
  · rcases Nat.lt_or_ge i rows.length with h | h
    · rw [getD_snoc_lt (by omega), getD_snoc_lt h]
      refine ⟨sl_kept (sl_below hA (hrows i h).1) hgrow (apart_ne (hrows i h).2), fun g hg hv => ?_⟩
      simp only [Value.ownBlock, Option.some.injEq] at hv
      subst hv
      rcases hat with h1 | h1
      · exact (hrows i h).2 _ hg h1
      · have := hlt i h _ hg
        have := hA.size
        omega
    · have hie : i = rows.length := by simp at hi; omega
      rw [getD_snoc_eq (by omega), getD_snoc_eq hie]
      refine ⟨(sl_kept hu0 hgrow (apart_ne hap0)).mono hbase, fun g hg hv => ?_⟩
      simp only [Value.ownBlock, Option.some.injEq] at hv
      subst hv
      rcases hat with h1 | h1
      · exact hap0 _ hg h1
      · have := (hu0.1.lt _ hg).2
        omega
  · rcases Nat.lt_or_ge j rows.length with h | h
    · rw [getD_snoc_lt (by omega), getD_snoc_lt (by omega)]
      exact hpair i j hij h
    · have hje : j = us.length := by simp at hj; omega
      rw [getD_snoc_lt (by omega), getD_snoc_eq hje]
      intro g hg hv
      have := hlt i (by omega) g hg
      have := (hu0.1.lt g hv).1
      omega

def RetRI (W : World) (rows : List (List Int)) (c : Int) (e : Ending) (w' : World) : Prop := ∃ v, e = .returned (.tuple #[v, .int .i64 c]) ∧ Sl2 w' W.heap.size v rows ∧ Below W.heap.size W w'

end Go.Proofs.Ytakifeiemcldlaa
