
/- A map is its quotient followed by its image: the lists. -/
import Derived.Test.YtfnneogadciimabJoin
import Derived.Test.YtfnneogadciimabFact
import Derived.Test.YtfnneogadciimabThM
set_option linter.unusedSimpArgs false
set_option linter.unusedVariables false
set_option linter.unusedSectionVars false
namespace Go.Proofs.Ytfnneogadciimab
open Go.RowKit

theorem mem_seen2 (l : List Int) (x : Int) : x ∈ seenOf l ↔ x ∈ l := by
  have h : ∀ (l s : List Int), x ∈ l.foldl (fun s x => if x ∈ s then s else s ++ [x]) s ↔ x ∈ s ∨ x ∈ l := by
    intro l
    induction l with
    | nil => intro s; simp
    | cons a l ih =>
      intro s
      rw [List.foldl_cons, ih, List.mem_cons]
      by_cases ha : a ∈ s
      · rw [if_pos ha]
        constructor
        · rintro (h | h)
          · exact .inl h
          · exact .inr (.inr h)
        · rintro (h | h | h)
          · exact .inl h
          · subst h; exact .inl ha
          · exact .inr h
      · rw [if_neg ha, List.mem_append, List.mem_singleton]
        constructor
        · rintro ((h | h) | h)
          · exact .inl h
          · exact .inr (.inl h)
          · exact .inr (.inr h)
        · rintro (h | h | h)
          · exact .inl (.inl h)
          · exact .inl (.inr h)
          · exact .inr h
  have := h l []
  simpa [seenOf] using this


theorem getD_idxOf {s : List Int} {x : Int} (h : x ∈ s) : s.getD (s.idxOf x) 0 = x := by
  have hl := List.idxOf_lt_length_iff.2 h
  rw [List.getD_eq_getElem?_getD, List.getElem?_eq_getElem hl]
  simp

theorem idxOf_eq {s : List Int} {x y : Int} (hx : x ∈ s) (hy : y ∈ s) (h : s.idxOf x = s.idxOf y) : x = y := by
  rw [← getD_idxOf hx, ← getD_idxOf hy, h]

theorem seen_idx {l : List Int} {k : Nat} (hk : k < l.length) : ∀ m, k < m → m ≤ l.length → (seenOf (l.take m)).idxOf (l.getD k 0) = (seenOf (l.take k)).idxOf (l.getD k 0) := by
  intro m
  induction m with
  | zero => intro h; omega
  | succ m ih =>
    intro h1 h2
    rw [take_snoc (by omega), seenOf_snoc]
    by_cases hm : l.getD m 0 ∈ seenOf (l.take m)
    · rw [if_pos hm]
      by_cases he : k = m
      · rw [he]
      · exact ih (by omega) (by omega)
    · rw [if_neg hm]
      by_cases he : k = m
      · subst he
        rw [List.idxOf_append, if_neg hm, List.idxOf_eq_length hm]
        simp
      · have hin : l.getD k 0 ∈ seenOf (l.take m) := by
          rw [mem_seen2, List.mem_take_iff_getElem]
          exact ⟨k, by omega, by simp [List.getD_eq_getElem?_getD, List.getElem?_eq_getElem hk]⟩
        rw [List.idxOf_append, if_pos hin]
        exact ih (by omega) (by omega)

theorem getD_mem {l : List Int} {k : Nat} (hk : k < l.length) : l.getD k 0 ∈ l := by
  rw [List.getD_eq_getElem?_getD, List.getElem?_eq_getElem hk]; exact List.getElem_mem hk

theorem ker_cls (l : List Int) : Ker l (clsOf l) := by
  refine ⟨(clsOf_len l).symm, fun i j hi hj => ?_⟩
  rw [clsOf_getD hi, clsOf_getD hj, ← seen_idx hi l.length hi (Nat.le_refl _), ← seen_idx hj l.length hj (Nat.le_refl _), List.take_length]
  constructor
  · intro h; rw [h]
  · intro h
    exact idxOf_eq ((mem_seen2 _ _).2 (getD_mem hi)) ((mem_seen2 _ _).2 (getD_mem hj)) (by omega)

theorem cls_part {f : List Int} (h : f.length ≤ 256) : PartP (clsOf f) := ⟨by rw [clsOf_len]; exact h, cls_ker (ker_cls f)⟩

theorem fact_all {n : Int} {f img : List Int} (h : codeM n f = 0) (hi : imgL n.toNat f = img) :
    codeM img.length (quoL img f) = 0 ∧ clsOf (quoL img f) = clsOf f ∧ fThenMaps img.length (quoL img f) n img = (f, 0) := by
  have hm := codeM_map h
  obtain ⟨hs, hl, ha⟩ := hm
  have hn : ((n.toNat : Nat) : Int) = n := by have := hs.1; omega
  have hmem : ∀ x, x ∈ img ↔ x ∈ f := fun x => by rw [← hi]; exact mem_imgL (by rw [hn]; exact ha) x
  have hlen : img.length ≤ n.toNat := by rw [← hi]; exact upTo_len_le n.toNat n.toNat f
  have hql : (quoL img f).length = f.length := by simp [quoL]
  have h256 := hs.2
  have hsz : SizeP (img.length : Int) := ⟨by omega, by omega⟩
  have hq : MapP (img.length : Int) (quoL img f) := by
    refine ⟨hsz, by rw [hql]; exact hl, fun x hx => ?_⟩
    simp only [quoL, List.mem_map] at hx
    obtain ⟨y, hy, rfl⟩ := hx
    have := List.idxOf_lt_length_iff.2 ((hmem y).2 hy)
    omega
  have hmi : MapP n img := ⟨hs, by omega, fun x hx => ha x ((hmem x).1 hx)⟩
  have hgq : ∀ i, i < f.length → (quoL img f).getD i 0 = (img.idxOf (f.getD i 0) : Int) := fun i hi => by
    simp [quoL, List.getD_eq_getElem?_getD, List.getElem?_eq_getElem hi]
  refine ⟨?_, ?_, ?_⟩
  · rw [codeM, if_pos hsz, if_pos hq]
  · refine (cls_ker (A := f) ⟨hql.symm, fun i j hi hj => ?_⟩).symm
    rw [hgq i hi, hgq j hj]
    constructor
    · intro h; rw [h]
    · intro h
      exact idxOf_eq ((hmem _).2 (getD_mem hi)) ((hmem _).2 (getD_mem hj)) (by omega)
  · rw [fThenMaps, if_pos ⟨hsz, hs⟩, if_pos ⟨hq, hmi, rfl⟩]
    congr 1
    refine list_eq_all (by simp [thenL, quoL]) fun j hj => ?_
    have hjf : j < f.length := by simpa [thenL, quoL] using hj
    have : (thenL (quoL img f) img).getD j 0 = img.getD (img.idxOf (f.getD j 0)) 0 := by
      simp [thenL, quoL, List.getD_eq_getElem?_getD, List.getElem?_eq_getElem hjf]
    rw [this, getD_idxOf ((hmem _).2 (getD_mem hjf))]
end Go.Proofs.Ytfnneogadciimab
