
/- Sorting, striking doubles, copying: the library's contracts (laid in this seat's Shelf text) in the words of this seat. -/
import Derived.Test.YtfnneogadciimabSortM
import Derived.Test.YtfnneogadciimabShelf
set_option linter.unusedSimpArgs false
set_option linter.unusedVariables false
set_option linter.unusedSectionVars false
namespace Go.Proofs.Ytfnneogadciimab
open Go.RowKit
open Go.Sort Go.Lib

theorem holds_of {w : World} {base g n cap : Nat} {zs : List Int} (h : Sl w base (.slice (some ⟨g, 0, none⟩) n cap) zs) : Holds (Value.int .i64) w g 0 zs.toArray := fun j hj => by
  have hj' : j < zs.length := by simpa using hj
  refine ⟨?_, sl_frozen h _⟩
  have h1 := sl_cell h hj'
  rw [Nat.zero_add, h1]
  simp [getElem!_def, List.getD_eq_getElem?_getD, List.getElem?_eq_getElem hj']

/-- The row written over by another list of its length; new blocks; draws. -/
theorem sl_put {w : World} {base g cap : Nat} {zs ys : List Int} (h : Sl w base (.slice (some ⟨g, 0, none⟩) zs.length cap) zs) (hl : ys.length = zs.length) (q : Nat) (os : Array Obj) :
    Sl (grow (putRow (Value.int .i64) (Sort.ahead w q) g 0 ys.toArray) os) base (.slice (some ⟨g, 0, none⟩) zs.length cap) ys ∧ w.grownBy (grow (putRow (Value.int .i64) (Sort.ahead w q) g 0 ys.toArray) os) (some g) := by
  obtain ⟨⟨hlen, hor⟩, hb⟩ := h
  rcases hor with ⟨hv, _⟩ | ⟨g', cap', cur, hv, hbb, hg, hnc, hcm, hcs, ht⟩
  · simp at hv
  · simp only [Value.slice.injEq, Option.some.injEq, Addr.mk.injEq, true_and, and_true] at hv
    obtain ⟨rfl, rfl⟩ := hv
    have hgl : g < w.heap.size := (Array.getElem?_eq_some_iff.1 hg).1
    have hheap : (grow (putRow (Value.int .i64) (Sort.ahead w q) g 0 ys.toArray) os).heap[g]? = some (.cells (putCells (Value.int .i64) 0 ys.toArray cur) 2 (0, 0)) := by
      rw [heap_grow_old _ _ (by simpa using hgl)]
      show (w.heap.modify g (onCells (putCells (Value.int .i64) 0 ys.toArray)))[g]? = _
      rw [Array.getElem?_modify, if_pos rfl, hg]
      rfl
    refine ⟨⟨⟨by simp [hl], .inr ⟨g, cap, putCells (Value.int .i64) 0 ys.toArray cur, by rw [hl], hbb, hheap, by omega, hcm, by simp [putCells, hcs], ?_⟩⟩, by omega⟩, ⟨rfl, rfl, rfl, by simp, fun k hk hne => ?_⟩⟩
    · apply List.ext_getElem?
      intro i
      rw [List.getElem?_take]
      by_cases hi : i < ys.length
      · rw [if_pos (by omega)]
        have hc : i < cur.size := by omega
        simp [putCells, hc, hi, getElem!_def]
      · rw [if_neg (by omega), List.getElem?_eq_none (by simp; omega)]
    · rw [heap_grow_old _ _ (by simpa using hk)]
      show (w.heap.modify g (onCells (putCells (Value.int .i64) 0 ys.toArray)))[k]? = _
      rw [Array.getElem?_modify, if_neg (fun e => hne (by rw [e]))]

theorem sl_prefix {w : World} {base g n cap : Nat} {xs ys : List Int} (h : Sl w base (.slice (some ⟨g, 0, none⟩) n cap) (xs ++ ys)) : Sl w base (.slice (some ⟨g, 0, none⟩) xs.length cap) xs := by
  obtain ⟨⟨hlen, hor⟩, hb⟩ := h
  simp at hb
  rcases hor with ⟨hv, _⟩ | ⟨g', cap', cur, hv, hbb, hg, hnc, hcm, hcs, ht⟩
  · simp at hv
  · simp only [Value.slice.injEq, Option.some.injEq, Addr.mk.injEq, true_and, and_true] at hv
    obtain ⟨rfl, _, rfl⟩ := hv
    simp at hnc
    refine ⟨⟨by simp, .inr ⟨g, cap, cur, rfl, hbb, hg, by omega, hcm, hcs, ?_⟩⟩, by omega⟩
    have h2 := congrArg (List.take xs.length) ht
    rw [List.take_take] at h2
    simp at h2
    simpa using h2

theorem sort_any (w : World) (base : Nat) (v : Value) (zs : List Int) (h : Sl w base v zs) :
    Calls Try.prog 99 #[v] w (fun e w' => e = .returned (.tuple #[]) ∧ Sl w' base v (zs.mergeSort fun x y => decide (x ≤ y)) ∧ w.grownBy w' v.ownBlock) := by
  have hl := h.2
  obtain ⟨a, cap, rfl, hf⟩ := sl_form h
  by_cases h0 : zs.length = 0
  · obtain rfl : zs = [] := List.eq_nil_of_length_eq_zero h0
    refine (Try.slices_Sort_int_none a cap w).mono ?_
    rintro e w' ⟨rfl, rfl⟩
    exact ⟨rfl, by simpa using h, grown_refl _ _⟩
  · obtain ⟨g, rfl⟩ := hf 0 (by omega)
    refine (Try.slices_Sort_int g 0 cap zs w (holds_of h) (sl_lt h).2 (by omega)).mono ?_
    rintro e w' ⟨rfl, q, os, rfl⟩
    have hs := sl_put h (ys := zs.mergeSort fun x y => decide (x ≤ y)) (by simp) q os
    exact ⟨rfl, hs.1, hs.2⟩

theorem compact_len (zs : List Int) : (compact zs).length ≤ zs.length := by
  unfold compact compactUpTo
  rw [List.length_map]
  exact Nat.le_trans (List.length_filter_le _ _) (by simp)

theorem compact_any (w : World) (base : Nat) (v : Value) (zs : List Int) (h : Sl w base v zs) :
    Calls Try.prog 100 #[v] w (fun e w' => ∃ v', e = .returned v' ∧ Sl w' base v' (compact zs) ∧ w.grownBy w' v.ownBlock) := by
  have hl := h.2
  have hcap : ∀ a n cap, v = .slice a n cap → zs.length ≤ cap := fun a n cap e => by
    subst e
    rcases h.1.2 with ⟨hv, hn⟩ | ⟨g', cap', cur, hv, _, _, hnc, _⟩
    · omega
    · simp only [Value.slice.injEq] at hv
      rw [hv.2.2]; exact hnc
  obtain ⟨a, cap, rfl, hf⟩ := sl_form h
  by_cases h0 : zs.length = 0
  · obtain rfl : zs = [] := List.eq_nil_of_length_eq_zero h0
    refine (Try.slices_Compact_int_empty a cap w).mono ?_
    rintro e w' ⟨rfl, rfl⟩
    exact ⟨_, rfl, h, grown_refl _ _⟩
  · obtain ⟨g, rfl⟩ := hf 0 (by omega)
    refine (Try.slices_Compact_int g 0 cap zs w (holds_of h) (by omega) (hcap _ _ _ rfl)).mono ?_
    rintro e w' ⟨rfl, q, rfl⟩
    have hcl := compact_len zs
    have hs := sl_put h (ys := compact zs ++ List.replicate (zs.length - (compact zs).length) 0) (by simp; omega) q #[]
    rw [grow_empty] at hs
    exact ⟨_, rfl, sl_prefix hs.1, hs.2⟩

theorem clone_any (w : World) (v : Value) (zs : List Int) (h : Rd w v zs) :
    Calls Try.prog 98 #[v] w (RetL w zs) := by
  obtain ⟨a, cap, rfl, hl, hc⟩ := h
  by_cases h0 : zs.length = 0
  · obtain rfl : zs = [] := List.eq_nil_of_length_eq_zero h0
    cases a with
    | none =>
      refine (Try.slices_Clone_int_nil 0 cap w).mono ?_
      rintro e w' ⟨rfl, rfl⟩
      exact ⟨_, rfl, Sl.nil _ _, Below.refl _ _⟩
    | some a =>
      refine (Try.slices_Clone_int_zero a cap w).mono ?_
      rintro e w' ⟨v', rfl, hown, _, hb⟩
      exact ⟨_, rfl, ⟨hown, by simp⟩, hb⟩
  · obtain ⟨b, off, rfl, hb, hcell⟩ := hc 0 (by omega)
    refine (Try.slices_Clone_int b off zs.length cap zs w (Nat.le_refl _) (by omega) hcell).mono ?_
    rintro e w' ⟨v', rfl, hown, _, hb⟩
    exact ⟨_, rfl, ⟨by simpa using hown, hl⟩, hb⟩

end Go.Proofs.Ytfnneogadciimab
