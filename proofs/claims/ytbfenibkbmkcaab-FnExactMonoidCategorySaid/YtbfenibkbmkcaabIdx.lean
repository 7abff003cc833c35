
/- The place of a number in a list; two lists of the model compared; classes by labels. | The program's partition by labels: a map from each label to its number. | What a partition is: the program's own test and the model's. | Lists of lists in memory. -/
import Derived.Test.YtbfenibkbmkcaabBase
import Derived.Test.YtbfenibkbmkcaabMap
import Derived.Maps.OwnSet
set_option linter.unusedSimpArgs false
set_option linter.unusedVariables false
set_option linter.unusedSectionVars false
namespace Go.Proofs.Ytbfenibkbmkcaab
open Go.RowKit

def idxI (l : List Int) (x : Int) : Int := if x ∈ l then (l.idxOf x : Int) else -1

theorem idx_hit {l : List Int} {x : Int} : ∀ {k : Nat}, k < l.length → l.getD k 0 = x → (∀ j, j < k → l.getD j 0 ≠ x) → l.idxOf x = k := by
  induction l with
  | nil => intro k hk; simp at hk
  | cons a l ih =>
    intro k hk hx hall
    cases k with
    | zero => simp at hx; simp [hx]
    | succ k =>
      have ha : a ≠ x := by simpa using hall 0 (by omega)
      have := ih (k := k) (by simpa using hk) (by simpa using hx) (fun j hj => by simpa using hall (j + 1) (by omega))
      have hb : (a == x) = false := by simpa using ha
      rw [List.idxOf_cons, hb, this]
      rfl

theorem mem_of_getD {l : List Int} {x : Int} {k : Nat} (hk : k < l.length) (hx : l.getD k 0 = x) : x ∈ l := by
  rw [← hx, List.getD_eq_getElem?_getD, List.getElem?_eq_getElem hk]; exact List.getElem_mem hk

theorem not_mem_of {l : List Int} {x : Int} (h : ∀ j, j < l.length → l.getD j 0 ≠ x) : x ∉ l := fun hm => by
  obtain ⟨j, hj, hx⟩ := List.getElem_of_mem hm
  exact h j hj (by simpa [List.getD_eq_getElem?_getD, List.getElem?_eq_getElem hj] using hx)

/-- The labels that stand first, in their order. -/
def seenOf (l : List Int) : List Int := l.foldl (fun s x => if x ∈ s then s else s ++ [x]) []

theorem seenOf_snoc (l : List Int) (x : Int) : seenOf (l ++ [x]) = if x ∈ seenOf l then seenOf l else seenOf l ++ [x] := by
  unfold seenOf; rw [List.foldl_append]; rfl

theorem seenFold_len (l : List Int) : ∀ s : List Int, (l.foldl (fun s x => if x ∈ s then s else s ++ [x]) s).length ≤ s.length + l.length := by
  induction l with
  | nil => intro s; simp
  | cons a l ih =>
    intro s
    have := ih (if a ∈ s then s else s ++ [a])
    simp only [List.foldl_cons, List.length_cons]
    split at this
    · rename_i h; rw [if_pos h]; omega
    · rename_i h; rw [if_neg h]; simp at this; omega

theorem seenOf_len (l : List Int) : (seenOf l).length ≤ l.length := by
  have := seenFold_len l []
  simpa [seenOf] using this

def clsTo (l : List Int) (k : Nat) : List Int := (List.range k).map fun (j : Nat) => ((seenOf (l.take j)).idxOf (l.getD j 0) : Int)
def clsOf (l : List Int) : List Int := clsTo l l.length
theorem clsTo_snoc (l : List Int) (k : Nat) : clsTo l (k + 1) = clsTo l k ++ [((seenOf (l.take k)).idxOf (l.getD k 0) : Int)] := by
  simp [clsTo, List.range_succ]
theorem clsTo_len (l : List Int) (k : Nat) : (clsTo l k).length = k := by simp [clsTo]

end Go.Proofs.Ytbfenibkbmkcaab

namespace Go.Proofs.Ytbfenibkbmkcaab
open Go.RowKit
open Go.Maps

theorem law64 : Keyed Try.prog 2 := int_keyed Try.underlying2
theorem zero64 (w : World) : (zeroValue 2).run Try.prog w = .ok (.int .i64 0) w := by kernel_rfl

/-- The map holds for each number of s its place in s. -/
def MapIs (D : DataW Unit) (s : List Int) : Prop :=
  Tidy D ∧ Maps.size D = s.length ∧ ∀ x : Int, Maps.has D (.int .i64 x) = decide (x ∈ s) ∧ (x ∈ s → ∀ z, D.atKey (.int .i64 x) z = .lit (.int .i64 (s.idxOf x)))

theorem mapIs_nil : MapIs (.map []) [] := ⟨tidy_empty, rfl, fun x => ⟨by simp [Maps.has], fun h => by simp at h⟩⟩

theorem keyLit (x : Int) : WideAt.IsKeyLit (.int .i64 x) := by simp [WideAt.IsKeyLit]

theorem mapIs_put {D : DataW Unit} {s : List Int} {x : Int} (h : MapIs D s) (hx : x ∉ s) : MapIs (D.put (.int .i64 x) (.lit (.int .i64 s.length))) (s ++ [x]) := by
  obtain ⟨h1, h2, h3⟩ := h
  refine ⟨h1.put (keyLit x) _, ?_, fun y => ?_⟩
  · rw [size_put h1, (h3 x).1]; simp [hx, h2]
  · by_cases hy : y = x
    · subst hy
      refine ⟨by rw [has_put_same h1.isMap (keyLit y)]; simp, fun _ z => ?_⟩
      rw [atKey_put_same h1.isMap (keyLit y)]
      rw [List.idxOf_append, if_neg hx]
      simp
    · have hne : Lit.int IntKind.i64 y ≠ Lit.int IntKind.i64 x := by simpa using hy
      refine ⟨by rw [has_put_other hne, (h3 y).1]; simp [hy], fun hm z => ?_⟩
      have hys : y ∈ s := by simpa [hy] using hm
      rw [atKey_put_other hne, (h3 y).2 hys, List.idxOf_append, if_pos hys]

theorem cls_fill {l : List Int} {k : Nat} (hk : k < l.length) :
    (clsTo l k ++ List.replicate (l.length - k) 0).set k ((seenOf (l.take k)).idxOf (l.getD k 0) : Int) = clsTo l (k + 1) ++ List.replicate (l.length - (k + 1)) 0 := by
  have hl : (clsTo l k).length = k := clsTo_len _ _
  rw [List.set_append, if_neg (by omega), hl, Nat.sub_self, clsTo_snoc]
  obtain ⟨m, hm⟩ : ∃ m, l.length - k = m + 1 := ⟨l.length - k - 1, by omega⟩
  have hm' : l.length - (k + 1) = m := by omega
  rw [hm, hm', List.replicate_succ]
  simp

theorem idx_lt {s : List Int} {x : Int} : s.idxOf x ≤ s.length := List.idxOf_le_length

end Go.Proofs.Ytbfenibkbmkcaab

namespace Go.Proofs.Ytbfenibkbmkcaab
open Go.RowKit

theorem clsOf_len (l : List Int) : (clsOf l).length = l.length := clsTo_len _ _
theorem clsOf_getD {l : List Int} {k : Nat} (hk : k < l.length) : (clsOf l).getD k 0 = ((seenOf (l.take k)).idxOf (l.getD k 0) : Int) := by
  unfold clsOf clsTo
  simp [List.getD_eq_getElem?_getD, hk]

theorem idxOf_upTo {c : Nat} {x : Int} (h0 : 0 ≤ x) (h1 : x < c) : ((upTo 0 c).idxOf x : Int) = x := by
  obtain ⟨m, rfl⟩ := Int.eq_ofNat_of_zero_le h0
  have hm : m < c := by omega
  have := idx_hit (l := upTo 0 c) (x := (m : Int)) (k := m) (by rw [upTo_length]; exact hm) (by rw [upTo_getD 0 c m hm]; simp) (fun j hj => by rw [upTo_getD 0 c j (by omega)]; omega)
  rw [this]

theorem not_mem_upTo {c : Nat} {x : Int} (h : x < 0 ∨ (c : Int) ≤ x) : x ∉ upTo 0 c := by
  intro hm
  simp only [upTo, List.mem_map, List.mem_range] at hm
  obtain ⟨j, hj, rfl⟩ := hm
  omega

theorem mem_upTo {c : Nat} {x : Int} (h0 : 0 ≤ x) (h1 : x < c) : x ∈ upTo 0 c := by
  simp only [upTo, List.mem_map, List.mem_range]
  exact ⟨x.toNat, by omega, by omega⟩

theorem upTo_succ (c : Nat) : upTo 0 (c + 1) = upTo 0 c ++ [(c : Int)] := by simp [upTo, List.range_succ]

def PartP (p : List Int) : Prop := p.length ≤ 256 ∧ p = clsOf p
instance (p : List Int) : Decidable (PartP p) := inferInstanceAs (Decidable (_ ∧ _))
def fIsPartition (p : List Int) : Bool := decide (PartP p)

end Go.Proofs.Ytbfenibkbmkcaab

namespace Go.Proofs.Ytbfenibkbmkcaab
open Go.RowKit

def Rd2 (w : World) (v : Value) (rows : List (List Int)) : Prop :=
  ∃ (a : Option Addr) (cap : Nat), v = .slice a rows.length cap ∧ rows.length ≤ 5000000000000 ∧
    ∀ j, j < rows.length → ∃ b off, a = some ⟨b, off, none⟩ ∧ b < w.heap.size ∧ ∀ i, i < rows.length → ∃ u, w.cell? ⟨b, off + i, none⟩ = some u ∧ Rd w u (rows.getD i [])

theorem rd2_below {w w' : World} {v : Value} {rows : List (List Int)} (hb : Below w.heap.size w w') (h : Rd2 w v rows) : Rd2 w' v rows := by
  obtain ⟨a, cap, hv, hl, hc⟩ := h
  refine ⟨a, cap, hv, hl, fun j hj => ?_⟩
  obtain ⟨b, off, ha, hbs, hcell⟩ := hc j hj
  refine ⟨b, off, ha, Nat.lt_of_lt_of_le hbs hb.size, fun i hi => ?_⟩
  obtain ⟨u, h1, h2⟩ := hcell i hi
  exact ⟨u, (hb.cell (p := ⟨b, off + i, none⟩) hbs).trans h1, rd_below hb h2⟩

/-- A list of lists of the call's own, from block base on; no row in the block of the list itself, no two rows in one block. -/
def Sl2 (w : World) (base : Nat) (v : Value) (rows : List (List Int)) : Prop :=
  ∃ us : List Value, us.length = rows.length ∧ rows.length ≤ 5000000000000 ∧ w.ownsRow base 22 1 v rows.length us ∧
    (∀ i, i < rows.length → Sl w base (us.getD i undef) (rows.getD i []) ∧ Apart (us.getD i undef) v) ∧
    ∀ i j, i < j → j < rows.length → Apart (us.getD i undef) (us.getD j undef)

theorem sl2_rd {w : World} {base : Nat} {v : Value} {rows : List (List Int)} (h : Sl2 w base v rows) : Rd2 w v rows := by
  obtain ⟨us, hul, hl, ⟨hlen, hor⟩, hr, _⟩ := h
  rcases hor with ⟨hv, hn⟩ | ⟨g, cap, cur, hv, hb, hg, hnc, hcm, hcs, ht⟩
  · exact ⟨none, 0, by rw [hv, hn], hl, fun j hj => by omega⟩
  · refine ⟨some ⟨g, 0, none⟩, cap, hv, hl, fun j hj => ⟨g, 0, rfl, (Array.getElem?_eq_some_iff.1 hg).1, fun i hi => ⟨us.getD i undef, ?_, (hr i hi).1.rd⟩⟩⟩
    have h1 : us[i]? = some (us.getD i undef) := by
      rw [List.getD_eq_getElem?_getD, List.getElem?_eq_getElem (by omega)]; rfl
    rw [← ht] at h1
    rw [cell_of_row w g (0 + i) cur _ (0, 0) hg]
    rw [List.getElem?_take] at h1
    split at h1
    · rw [Nat.zero_add, ← ht]; simpa using h1
    · cases h1

theorem infoS : (Try.prog.info? 22).map (fun i => (i.zero, i.size, i.bytes)) = some (some (.slice none 0 0), 1, 24) := by kernel_rfl

theorem sl2_empty (w : World) : Sl2 (w.alloc (.cells #[] 22)) w.heap.size (.slice (some ⟨w.heap.size, 0, none⟩) 0 0) [] :=
  ⟨[], rfl, by simp, World.ownsRow_made w #[] 0 (Nat.le_refl _) (Nat.zero_le _) rfl, fun i hi => by simp at hi, fun i j _ hj => by simp at hj⟩

theorem sl2_nil (w : World) (base : Nat) : Sl2 w base (.slice none 0 0) [] :=
  ⟨[], rfl, by simp, World.ownsRow_nil w base _ 1, fun i hi => by simp at hi, fun i j _ hj => by simp at hj⟩

theorem sl2_mono {w : World} {base base' : Nat} {v : Value} {rows : List (List Int)} (h : Sl2 w base v rows) (hb : base' ≤ base) : Sl2 w base' v rows := by
  obtain ⟨us, h1, h2, ⟨h3, h4⟩, h5, h6⟩ := h
  refine ⟨us, h1, h2, ⟨h3, ?_⟩, fun i hi => ⟨(h5 i hi).1.mono hb, (h5 i hi).2⟩, h6⟩
  rcases h4 with h | ⟨g, cap, cur, hv, hbb, rest⟩
  · exact .inl h
  · exact .inr ⟨g, cap, cur, hv, Nat.le_trans hb hbb, rest⟩

theorem sl2_below {w w' : World} {base : Nat} {v : Value} {rows : List (List Int)} (hb : Below w.heap.size w w') (h : Sl2 w base v rows) : Sl2 w' base v rows := by
  obtain ⟨us, h1, h2, ⟨h3, h4⟩, h5, h6⟩ := h
  refine ⟨us, h1, h2, ⟨h3, ?_⟩, fun i hi => ⟨sl_below hb (h5 i hi).1, (h5 i hi).2⟩, h6⟩
  rcases h4 with h | ⟨g, cap, cur, hv, hbb, hg, rest⟩
  · exact .inl h
  · exact .inr ⟨g, cap, cur, hv, hbb, by rw [hb.block g (Array.getElem?_eq_some_iff.1 hg).1]; exact hg, rest⟩

theorem getD_snoc_lt {α : Type} {l : List α} {x d : α} {i : Nat} (h : i < l.length) : (l ++ [x]).getD i d = l.getD i d := by
  simp [List.getD_eq_getElem?_getD, List.getElem?_append, h]
theorem getD_snoc_eq {α : Type} {l : List α} {x d : α} {i : Nat} (h : i = l.length) : (l ++ [x]).getD i d = x := by
  subst h; simp [List.getD_eq_getElem?_getD]

/-- A row in a new block, and the list grown by it. -/
theorem sl2_snoc {wr w3 : World} {base : Nat} {v : Value} {rows : List (List Int)} {us : List Value} {r : List Int} {gg cap : Nat} {u0 : Value} {A : World}
    (hul : us.length = rows.length) (hown : wr.ownsRow base 22 1 v rows.length us)
    (hrows : ∀ i, i < rows.length → Sl wr base (us.getD i undef) (rows.getD i []) ∧ Apart (us.getD i undef) v) (hpair : ∀ i j, i < j → j < rows.length → Apart (us.getD i undef) (us.getD j undef))
    (hA : Below wr.heap.size wr A) (hu0 : Sl A wr.heap.size u0 r) (hbase : base ≤ wr.heap.size) (hn : rows.length + 1 ≤ 5000000000000)
    (hown1 : w3.ownsRow base 22 1 (.slice (some ⟨gg, 0, none⟩) (rows.length + 1) cap) (rows.length + 1) (us ++ [u0])) (hgrow : A.grownBy w3 v.ownBlock)
    (hat : v.ownBlock = some gg ∨ A.heap.size ≤ gg) : Sl2 w3 base (.slice (some ⟨gg, 0, none⟩) (rows.length + 1) cap) (rows ++ [r]) := by
  have hvlt : ∀ g, v.ownBlock = some g → g < wr.heap.size := fun g hg => (hown.lt g hg).2
  have hap0 : Apart u0 v := fun g hg hv => by
    have := (hu0.1.lt g hg).1
    have := hvlt g hv
    omega
  have hlt : ∀ i, i < rows.length → ∀ g, (us.getD i undef).ownBlock = some g → g < wr.heap.size := fun i hi g hg => ((hrows i hi).1.1.lt g hg).2
  refine ⟨us ++ [u0], by simp [hul], by simpa using hn, by simpa using hown1, fun i hi => ?_, fun i j hij hj => ?_⟩
  · rcases Nat.lt_or_ge i rows.length with h | h
    · rw [getD_snoc_lt (by omega), getD_snoc_lt h]
      refine ⟨sl_kept (sl_below hA (hrows i h).1) hgrow (apart_ne (hrows i h).2), fun g hg hv => ?_⟩
      simp only [Value.ownBlock, Option.some.injEq] at hv
      subst hv
      rcases hat with h1 | h1
      · exact (hrows i h).2 _ hg h1
      · have := hlt i h _ hg
        have := hA.size
        omega
    · have hie : i = rows.length := by simp at hi; omega
      rw [getD_snoc_eq (by omega), getD_snoc_eq hie]
      refine ⟨(sl_kept hu0 hgrow (apart_ne hap0)).mono hbase, fun g hg hv => ?_⟩
      simp only [Value.ownBlock, Option.some.injEq] at hv
      subst hv
      rcases hat with h1 | h1
      · exact hap0 _ hg h1
      · have := (hu0.1.lt _ hg).2
        omega
  · rcases Nat.lt_or_ge j rows.length with h | h
    · rw [getD_snoc_lt (by omega), getD_snoc_lt (by omega)]
      exact hpair i j hij h
    · have hje : j = us.length := by simp at hj; omega
      rw [getD_snoc_lt (by omega), getD_snoc_eq hje]
      intro g hg hv
      have := hlt i (by omega) g hg
      have := (hu0.1.lt g hv).1
      omega

def RetRI (W : World) (rows : List (List Int)) (c : Int) (e : Ending) (w' : World) : Prop := ∃ v, e = .returned (.tuple #[v, .int .i64 c]) ∧ Sl2 w' W.heap.size v rows ∧ Below W.heap.size W w'

end Go.Proofs.Ytbfenibkbmkcaab
