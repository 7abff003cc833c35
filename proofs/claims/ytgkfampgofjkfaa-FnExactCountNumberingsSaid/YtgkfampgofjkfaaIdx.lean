
/- The place of a number in a list; two lists of the model compared; classes by labels. | The program's partition by labels: a map from each label to its number. | What a partition is: the program's own test and the model's. | Lists of lists in memory. -/
import Derived.Test.YtgkfampgofjkfaaBase
import Derived.Test.YtgkfampgofjkfaaMap
import Derived.Maps.OwnSet
set_option linter.unusedSimpArgs false
set_option linter.unusedVariables false
set_option linter.unusedSectionVars false
namespace Go.Proofs.Ytgkfampgofjkfaa
open Go.RowKit

def idxI (l : List Int) (x : Int) : Int := if x ∈ l then (l.idxOf x : Int) else -1

theorem idx_hit {l : List Int} {x : Int} : ∀ {k : Nat}, k < l.length → l.getD k 0 = x → (∀ j, j < k → l.getD j 0 ≠ x) → l.idxOf x = k := by
  induction l with
  | nil => intro k hk; simp at hk
  | cons a l ih =>
    intro k hk hx hall
    cases k with
    | zero => simp at hx; simp [hx]
    | succ k =>
      have ha : a ≠ x := by simpa using hall 0 (by omega)
      have := ih (k := k) (by simpa using hk) (by simpa using hx) (fun j hj => by simpa using hall (j + 1) (by omega))
      have hb : (a == x) = false := by simpa using ha
      rw [List.idxOf_cons, hb, this]
      rfl

theorem mem_of_getD {l : List Int} {x : Int} {k : Nat} (hk : k < l.length) (hx : l.getD k 0 = x) : x ∈ l := by
  rw [← hx, List.getD_eq_getElem?_getD, List.getElem?_eq_getElem hk]; exact List.getElem_mem hk

theorem not_mem_of {l : List Int} {x : Int} (h : ∀ j, j < l.length → l.getD j 0 ≠ x) : x ∉ l := fun hm => by
  obtain ⟨j, hj, hx⟩ := List.getElem_of_mem hm
  exact h j hj (by simpa [List.getD_eq_getElem?_getD, List.getElem?_eq_getElem hj] using hx)

set_option maxHeartbeats 400000 in
theorem specIndex_any (w : World) (v : Value) (l : List Int) (x : Int) (h : Rd w v l) :
    Calls Try.prog 84 #[v, .int .i64 x] w (RetI w (idxI l x)) := by
  obtain ⟨a, cap, rfl, hl, hc⟩ := h
  have HC := Lib.hid hc; clear hc
  go_enter Try.func84, Try.ntmps84
  go_wp2
  go_loopw [5] (fun i wr => ∃ k : Nat, k ≤ l.length ∧ i = .int .i64 k ∧ Hid (∀ j, j < k → l.getD j 0 ≠ x) ∧ Below w.heap.size w wr) (fun i _ => l.length - (intOf i).toNat)
  case atStart => exact ⟨0, Nat.zero_le _, rfl, fun j hj => absurd hj (by omega), Below.refl _ _⟩
  case round =>
    obtain ⟨k, hk, rfl, hall, hbel⟩ := hrel
    by_cases hlt : k < l.length
    · obtain ⟨bb, off, rfl, hbs, hcell⟩ := HC.out k hlt
      have c1 : wr.cell? ⟨bb, off + k, none⟩ = some (.int .i64 (l.getD k 0)) := (hbel.cell (p := ⟨bb, off + k, none⟩) hbs).trans (hcell k hlt)
      clear hcell
      obtain ⟨y, hy⟩ : ∃ y, y = l.getD k 0 := ⟨_, rfl⟩
      rw [← hy] at c1
      have HY := Lib.hid hy; clear hy
      by_cases hxy : y = x
      · have hf : idxI l x = k := by
          have h1 : l.getD k 0 = x := by rw [← HY.out]; exact hxy
          rw [idxI, if_pos (mem_of_getD hlt h1), idx_hit hlt h1 hall.out]
        have HF := Lib.hid hf; clear hf
        have ht : (y == x) = true := by simpa using hxy
        clear hxy
        go_wp2
        go_ret
        exact ⟨ret_i HF.out.symm, hbel⟩
      · have ht : (y == x) = false := by simpa using hxy
        have HN := Lib.hid hxy; clear hxy
        go_wp2
        go_roundw
        case rel =>
          refine ⟨k + 1, by omega, by go_num, fun j hj => ?_, hbel⟩
          by_cases hjk : j = k
          · subst hjk; rw [← HY.out]; exact HN.out
          · exact hall.out j (by omega)
        case measure => simp [intOf]; omega
    · obtain rfl : k = l.length := by omega
      have hf : idxI l x = -1 := by rw [idxI, if_neg (not_mem_of hall.out)]
      have HF := Lib.hid hf; clear hf
      go_wp2
      go_ret
      exact ⟨ret_i HF.out.symm, hbel⟩

/-- The labels that stand first, in their order. -/
def seenOf (l : List Int) : List Int := l.foldl (fun s x => if x ∈ s then s else s ++ [x]) []

theorem seenOf_snoc (l : List Int) (x : Int) : seenOf (l ++ [x]) = if x ∈ seenOf l then seenOf l else seenOf l ++ [x] := by
  unfold seenOf; rw [List.foldl_append]; rfl

theorem seenFold_len (l : List Int) : ∀ s : List Int, (l.foldl (fun s x => if x ∈ s then s else s ++ [x]) s).length ≤ s.length + l.length := by
  induction l with
  | nil => intro s; simp
  | cons a l ih =>
    intro s
    have := ih (if a ∈ s then s else s ++ [a])
    simp only [List.foldl_cons, List.length_cons]
    split at this
    · rename_i h; rw [if_pos h]; omega
    · rename_i h; rw [if_neg h]; simp at this; omega

theorem seenOf_len (l : List Int) : (seenOf l).length ≤ l.length := by
  have := seenFold_len l []
  simpa [seenOf] using this

def clsTo (l : List Int) (k : Nat) : List Int := (List.range k).map fun (j : Nat) => ((seenOf (l.take j)).idxOf (l.getD j 0) : Int)
def clsOf (l : List Int) : List Int := clsTo l l.length
theorem clsTo_snoc (l : List Int) (k : Nat) : clsTo l (k + 1) = clsTo l k ++ [((seenOf (l.take k)).idxOf (l.getD k 0) : Int)] := by
  simp [clsTo, List.range_succ]
theorem clsTo_len (l : List Int) (k : Nat) : (clsTo l k).length = k := by simp [clsTo]

set_option maxHeartbeats 400000 in
theorem specSame_any (w : World) (v1 v2 : Value) (xs ys : List Int) (h1 : Rd w v1 xs) (h2 : Rd w v2 ys) :
    Calls Try.prog 101 #[v1, v2] w (RetB w (decide (xs = ys))) := by
  obtain ⟨a, cap, rfl, hl, hc⟩ := h1
  obtain ⟨a2, cap2, rfl, hl2, hc2⟩ := h2
  by_cases hne : xs.length = ys.length
  · have hcmp : ((ys.length : Int) != (ys.length : Int)) = false := by simp
    rw [hne] at hl
    have HNE := Lib.hid hne; clear hne
    have HC := Lib.hid hc; clear hc
    have HC2 := Lib.hid hc2; clear hc2
    rw [HNE.out]
    go_enter Try.func101, Try.ntmps101
    go_wp2
    go_loopw [5] (fun i wr => ∃ k : Nat, k ≤ ys.length ∧ i = .int .i64 k ∧ Hid (∀ j, j < k → xs.getD j 0 = ys.getD j 0) ∧ Below w.heap.size w wr) (fun i _ => ys.length - (intOf i).toNat)
    case atStart => exact ⟨0, Nat.zero_le _, rfl, fun j hj => absurd hj (by omega), Below.refl _ _⟩
    case round =>
      obtain ⟨k, hk, rfl, hall, hbel⟩ := hrel
      by_cases hlt : k < ys.length
      · obtain ⟨b, off, rfl, hb, hcell⟩ := HC.out k (by rw [HNE.out]; exact hlt)
        obtain ⟨b2, off2, rfl, hb2, hcell2⟩ := HC2.out k hlt
        have c1 : wr.cell? ⟨b, off + k, none⟩ = some (.int .i64 (xs.getD k 0)) := (hbel.cell (p := ⟨b, off + k, none⟩) hb).trans (hcell k (by rw [HNE.out]; exact hlt))
        have c2 : wr.cell? ⟨b2, off2 + k, none⟩ = some (.int .i64 (ys.getD k 0)) := (hbel.cell (p := ⟨b2, off2 + k, none⟩) hb2).trans (hcell2 k hlt)
        clear hcell hcell2 hb hb2
        obtain ⟨x, hx⟩ : ∃ x, x = xs.getD k 0 := ⟨_, rfl⟩
        obtain ⟨y, hy⟩ : ∃ y, y = ys.getD k 0 := ⟨_, rfl⟩
        rw [← hx] at c1
        rw [← hy] at c2
        have HX := Lib.hid hx; clear hx
        have HY := Lib.hid hy; clear hy
        by_cases hxy : x = y
        · subst hxy
          go_wp2
          go_quiet (fail)
          go_wp2
          go_roundw
          case rel =>
            refine ⟨k + 1, by omega, by go_num, fun j hj => ?_, below_quiet hbel⟩
            by_cases hjk : j = k
            · rw [hjk, ← HX.out, ← HY.out]
            · exact hall.out j (by omega)
          case measure => simp [intOf]; omega
        · have hb1 : (x != y) = true := by simpa using hxy
          have hfin : decide (xs = ys) = false := by
            rw [decide_eq_false_iff_not]
            exact list_ne_at (k := k) (by rw [HNE.out]; exact hlt) (by rw [← HX.out, ← HY.out]; exact hxy)
          have HF := Lib.hid hfin; clear hfin hxy
          go_wp2
          go_quiet (fail)
          go_wp2
          go_ret
          rw [HF.out]
          exact ⟨rfl, below_quiet hbel⟩
      · have hfin : decide (xs = ys) = true := by
          rw [decide_eq_true_iff]
          exact list_eq_all HNE.out (fun j hj => hall.out j (by have := HNE.out; omega))
        have HF := Lib.hid hfin; clear hfin
        go_wp2
        go_ret
        rw [HF.out]
        exact ⟨rfl, hbel⟩
  · have hfin : decide (xs = ys) = false := by
      rw [decide_eq_false_iff_not]
      exact fun e => hne (by rw [e])
    have hb1 : ((xs.length : Int) != (ys.length : Int)) = true := by
      rw [bne_iff_ne]; omega
    have HF := Lib.hid hfin; clear hfin hne hc hc2
    go_enter Try.func101, Try.ntmps101
    go_wp2
    go_ret
    rw [HF.out]
    exact ⟨rfl, Below.refl _ _⟩


set_option maxHeartbeats 1000000 in
set_option maxRecDepth 100000 in
theorem specClasses_any (w : World) (v : Value) (l : List Int) (h : Rd w v l) :
    Calls Try.prog 53 #[v] w (RetL w (clsOf l)) := by
  obtain ⟨a, cap, rfl, hl, hc⟩ := h
  have HC := Lib.hid hc; clear hc
  go_enter Try.func53, Try.ntmps53
  go_wp2
  have E1 := Lib.hid (sl_alloc (sl_empty w) (.cells #[] 2))
  have E2 := Lib.hid ((sl_empty (w.alloc (.cells #[] 2))).mono (base' := w.heap.size) (by simp))
  have hbe : Below w.heap.size w ((w.alloc (.cells #[] 2)).alloc (.cells #[] 2)) := ((Below.refl _ _).alloc (Nat.le_refl _) _).alloc (by simp) _
  go_loopw [3, 4, 5] (fun x y i wr => ∃ k : Nat, k ≤ l.length ∧ i = .int .i64 k ∧ Sl wr w.heap.size x (clsTo l k) ∧ Sl wr w.heap.size y (seenOf (l.take k)) ∧ Apart x y ∧ Below w.heap.size w wr) (fun _ _ i _ => l.length - (intOf i).toNat)
  case atStart => exact ⟨0, Nat.zero_le _, rfl, by simpa [clsTo] using E1.out, by simpa [seenOf] using E2.out, fun g hg => by simp [Value.ownBlock] at hg ⊢; omega, hbe⟩
  case round =>
    obtain ⟨k, hk, rfl, hx, hy, hap, hbel⟩ := hrel
    by_cases hlt : k < l.length
    · obtain ⟨bb, off, rfl, hbs, hcell⟩ := HC.out k hlt
      have c1 : wr.cell? ⟨bb, off + k, none⟩ = some (.int .i64 (l.getD k 0)) := (hbel.cell (p := ⟨bb, off + k, none⟩) hbs).trans (hcell k hlt)
      have ht := take_snoc hlt
      have hcs := clsTo_snoc l k
      have hln := seenOf_len (l.take k)
      have hln2 : (seenOf (l.take k)).length ≤ k := by simp at hln; omega
      have hlc : (clsTo l k).length ≤ k := by simp [clsTo_len]
      clear hln
      obtain ⟨z, hz⟩ : ∃ z, z = l.getD k 0 := ⟨_, rfl⟩
      rw [← hz] at c1 hcs ht
      have hsn := seenOf_snoc (l.take k) z
      rw [← ht] at hsn
      by_cases hm : z ∈ seenOf (l.take k)
      · rw [if_pos hm] at hsn
        have hix : idxI (seenOf (l.take k)) z = ((seenOf (l.take k)).idxOf z : Int) := by rw [idxI, if_pos hm]
        obtain ⟨q, hq⟩ : ∃ q : Nat, (seenOf (l.take k)).idxOf z = q := ⟨_, rfl⟩
        rw [hq] at hix hcs
        have HIX := Lib.hid hix; have HCS := Lib.hid hcs; have HSN := Lib.hid hsn; clear hix hcs hsn hm hz ht hq hcell
        go_wp2_with fail
        refine (specIndex_any _ _ _ z hy.rd).mono ?_
        rintro e w1 ⟨rfl, hb1⟩
        rw [HIX.out]
        replace hx := sl_below hb1 hx
        replace hy := sl_below hb1 hy
        replace hbel := hbel.trans (hb1.mono hbel.size)
        go_wp2_with (at_builtin; refine wp_app64x rfl _ _ _ rfl Try.underlying22 (q : Int) hx rfl rfl (by omega) hbel.size ?_; intro v1 w2 hs1 hg1 hgv)
        go_roundw
        case rel => exact ⟨k + 1, by omega, by go_num, by rw [HCS.out]; exact hs1, by rw [HSN.out]; exact sl_kept hy hg1 (apart_ne hap.symm), (apart_grow hy hap.symm hgv).symm, below_grown hbel hx (Nat.le_refl _) hg1⟩
        case measure => simp [intOf]; omega
      · rw [if_neg hm] at hsn
        have hix : idxI (seenOf (l.take k)) z = -1 := by rw [idxI, if_neg hm]
        have hq : (seenOf (l.take k)).idxOf z = (seenOf (l.take k)).length := List.idxOf_eq_length hm
        rw [hq] at hcs
        obtain ⟨a2, cap2, rfl, _⟩ := sl_form hy
        obtain ⟨s, hsd⟩ : ∃ s, s = seenOf (l.take k) := ⟨_, rfl⟩
        rw [← hsd] at hix hcs hsn hln2 hy
        rw [← hsd] at hap
        rw [← hsd]
        have HIX := Lib.hid hix; have HCS := Lib.hid hcs; have HSN := Lib.hid hsn; clear hix hcs hsn hm hz ht hq hcell hsd
        go_wp2_with fail
        refine (specIndex_any _ _ _ z hy.rd).mono ?_
        rintro e w1 ⟨rfl, hb1⟩
        rw [HIX.out]
        replace hx := sl_below hb1 hx
        replace hy := sl_below hb1 hy
        have c2 := (hb1.cell (p := ⟨bb, off + k, none⟩) (Nat.lt_of_lt_of_le hbs hbel.size)).trans c1
        replace hbel := hbel.trans (hb1.mono hbel.size)
        go_wp2_with (first
          | (at_builtin; refine wp_app64x rfl _ _ _ rfl Try.underlying22 z hy rfl rfl (by omega) hbel.size ?_; intro v1 w2 hs1 hg1 hgv)
          | (at_builtin; refine wp_app64x rfl _ _ _ rfl Try.underlying22 (s.length : Int) (sl_kept hx hg1 (apart_ne hap)) rfl rfl (by omega) (Nat.le_trans hbel.size hg1.size) ?_; intro v2 w3 hs2 hg2 hgv2))
        have hap1 := apart_grow hx hap hgv
        go_roundw
        case rel => exact ⟨k + 1, by omega, by go_num, by rw [HCS.out]; exact hs2, by rw [HSN.out]; exact sl_kept hs1 hg2 (apart_ne hap1.symm), (apart_grow hs1 hap1.symm hgv2).symm, below_grown (below_grown hbel hy (Nat.le_refl _) hg1) (sl_kept hx hg1 (apart_ne hap)) (Nat.le_refl _) hg2⟩
        case measure => simp [intOf]; omega
    · obtain rfl : k = l.length := by omega
      go_wp2
      go_ret
      exact ⟨_, rfl, hx, hbel⟩

end Go.Proofs.Ytgkfampgofjkfaa

namespace Go.Proofs.Ytgkfampgofjkfaa
open Go.RowKit
open Go.Maps

theorem law64 : Keyed Try.prog 2 := int_keyed Try.underlying2
theorem zero64 (w : World) : (zeroValue 2).run Try.prog w = .ok (.int .i64 0) w := by kernel_rfl

/-- The map holds for each number of s its place in s. -/
def MapIs (D : DataW Unit) (s : List Int) : Prop :=
  Tidy D ∧ Maps.size D = s.length ∧ ∀ x : Int, Maps.has D (.int .i64 x) = decide (x ∈ s) ∧ (x ∈ s → ∀ z, D.atKey (.int .i64 x) z = .lit (.int .i64 (s.idxOf x)))

theorem mapIs_nil : MapIs (.map []) [] := ⟨tidy_empty, rfl, fun x => ⟨by simp [Maps.has], fun h => by simp at h⟩⟩

theorem keyLit (x : Int) : WideAt.IsKeyLit (.int .i64 x) := by simp [WideAt.IsKeyLit]

theorem mapIs_put {D : DataW Unit} {s : List Int} {x : Int} (h : MapIs D s) (hx : x ∉ s) : MapIs (D.put (.int .i64 x) (.lit (.int .i64 s.length))) (s ++ [x]) := by
  obtain ⟨h1, h2, h3⟩ := h
  refine ⟨h1.put (keyLit x) _, ?_, fun y => ?_⟩
  · rw [size_put h1, (h3 x).1]; simp [hx, h2]
  · by_cases hy : y = x
    · subst hy
      refine ⟨by rw [has_put_same h1.isMap (keyLit y)]; simp, fun _ z => ?_⟩
      rw [atKey_put_same h1.isMap (keyLit y)]
      rw [List.idxOf_append, if_neg hx]
      simp
    · have hne : Lit.int IntKind.i64 y ≠ Lit.int IntKind.i64 x := by simpa using hy
      refine ⟨by rw [has_put_other hne, (h3 y).1]; simp [hy], fun hm z => ?_⟩
      have hys : y ∈ s := by simpa [hy] using hm
      rw [atKey_put_other hne, (h3 y).2 hys, List.idxOf_append, if_pos hys]

theorem cls_fill {l : List Int} {k : Nat} (hk : k < l.length) :
    (clsTo l k ++ List.replicate (l.length - k) 0).set k ((seenOf (l.take k)).idxOf (l.getD k 0) : Int) = clsTo l (k + 1) ++ List.replicate (l.length - (k + 1)) 0 := by
  have hl : (clsTo l k).length = k := clsTo_len _ _
  rw [List.set_append, if_neg (by omega), hl, Nat.sub_self, clsTo_snoc]
  obtain ⟨m, hm⟩ : ∃ m, l.length - k = m + 1 := ⟨l.length - k - 1, by omega⟩
  have hm' : l.length - (k + 1) = m := by omega
  rw [hm, hm', List.replicate_succ]
  simp

theorem idx_lt {s : List Int} {x : Int} : s.idxOf x ≤ s.length := List.idxOf_le_length

set_option maxHeartbeats 1000000 in
set_option maxRecDepth 100000 in
theorem partBy_any (w : World) (v : Value) (l : List Int) (h : Rd w v l) (hw : ∀ x ∈ l, (Lit.int .i64 x).wf = true) :
    Calls Try.prog 73 #[v] w (RetL w (clsOf l)) := by
  obtain ⟨a, cap, rfl, hl, hc⟩ := h
  have HC := Lib.hid hc; clear hc
  have HW := Lib.hid hw; clear hw
  have hmm := @run_makeMap Try.prog
  go_enter Try.func73, Try.ntmps73
  go_wp2_with (at_make; refine wp_make64 rfl _ _ _ rfl Try.underlying66 .i64 .i64 _ _ l.length rfl rfl rfl rfl hl ?_; intro w1 hs1 hb1 hz1)
  have hbm : Below w.heap.size w (w.alloc (.map #[] 0)) := (Below.refl _ _).alloc (Nat.le_refl _) _
  have M1 : Hid (w1.ownsMap Try.prog 2 (plainElem (H := Unit) Try.prog 2) w.heap.size 0 (.map [])) := by
    obtain ⟨es, clock, hb, r⟩ := World.ownsMap_made w Try.prog 2 (plainElem (H := Unit) Try.prog 2)
    exact ⟨es, clock, (hb1.block _ (by simp)).trans hb, r⟩
  have S1 := Lib.hid (hs1.mono (base' := w.heap.size) (by simp))
  have hbe := hbm.trans (hb1.mono (by simp))
  clear hs1 hb1 hbm
  simp only [World.size_alloc] at S1
  go_loopw [15] (fun i wr => ∃ k : Nat, k ≤ l.length ∧ i = .int .i64 k ∧ ∃ D, wr.ownsMap Try.prog 2 (plainElem (H := Unit) Try.prog 2) w.heap.size k D ∧ MapIs D (seenOf (l.take k)) ∧ Sl wr w.heap.size (.slice (some ⟨w.heap.size + 1, 0, none⟩) l.length l.length) (clsTo l k ++ List.replicate (l.length - k) 0) ∧ Below w.heap.size w wr) (fun i _ => l.length - (intOf i).toNat)
  case atStart => exact ⟨0, Nat.zero_le _, rfl, _, M1.out, by simpa [seenOf] using mapIs_nil, by simpa [clsTo] using S1.out, hbe⟩
  case round =>
    obtain ⟨k, hk, rfl, D, hown, hD, hs, hbel⟩ := hrel
    by_cases hlt : k < l.length
    · obtain ⟨bb, off, rfl, hbs, hcell⟩ := HC.out k hlt
      have c1 : wr.cell? ⟨bb, off + k, none⟩ = some (.int .i64 (l.getD k 0)) := (hbel.cell (p := ⟨bb, off + k, none⟩) hbs).trans (hcell k hlt)
      have hkey : keyOf Try.prog 2 (.int .i64 (l.getD k 0)) = some (.int .i64 (l.getD k 0)) := keyOf_int_mk Try.underlying2 (HW.out _ (mem_getD hlt))
      have hsn := seenOf_snoc (l.take k) (l.getD k 0)
      rw [← take_snoc hlt] at hsn
      have hfill := cls_fill hlt
      have hln := seenOf_len (l.take k)
      have hln2 : (seenOf (l.take k)).length ≤ k := by simp at hln; omega
      have hil := idx_lt (s := seenOf (l.take k)) (x := l.getD k 0)
      clear hln hcell
      obtain ⟨x, hx⟩ : ∃ x, x = l.getD k 0 := ⟨_, rfl⟩
      rw [← hx] at c1 hkey hsn hfill hil
      obtain ⟨s, hsd⟩ : ∃ s, s = seenOf (l.take k) := ⟨_, rfl⟩
      rw [← hsd] at hsn hfill hln2 hD hil
      have HK := Lib.hid hkey; clear hkey
      clear hsd hx
      by_cases hm : x ∈ s
      · rw [if_pos hm] at hsn
        have hhas : Maps.has D (.int .i64 x) = true := by rw [(hD.2.2 x).1]; simpa using hm
        have hat := Lib.hid ((hD.2.2 x).2 hm)
        obtain ⟨q, hq⟩ : ∃ q : Nat, s.idxOf x = q := ⟨_, rfl⟩
        rw [hq] at hat hfill hil
        have HF := Lib.hid hfill; have HSN := Lib.hid hsn; have HD := Lib.hid hD; clear hfill hsn hm hq hD
        have hset := sl_set hs k (q : Int)
        have c3 := sl_cell hs (j := k) (by simp [clsTo_len]; omega)
        have c4 := sl_frozen hs k
        rw [HF.out] at hset
        have HSET := Lib.hid hset; clear hset
        generalize (clsTo l k ++ List.replicate (l.length - k) 0).getD k 0 = z at c3
        clear hs
        go_wp2_with (at_lookup; (refine wpList_lookup_own_ok_int _ rfl _ _ 108 rfl 2 2 .i64 law64 Try.underlying108 Try.underlying2 (zero64 _) w.heap.size k _ rfl hown _ _ rfl HK.out ?_; intro c hc hwc; rw [hat.out] at hc; (obtain rfl : (q : Int) = c := by simpa using hc); clear hc hwc))
        go_roundw
        case rel => exact ⟨k + 1, by omega, by go_num, D, (hown.kept HSET.out.2 (by simp)).mono (by omega), by rw [HSN.out]; exact HD.out, HSET.out.1, hbel.setCell (by simp) _⟩
        case measure => simp [intOf]; omega
      · rw [if_neg hm] at hsn
        have hhas : Maps.has D (.int .i64 x) = false := by rw [(hD.2.2 x).1]; simpa using hm
        have hat := Lib.hid (atKey_of_not_has hhas (.lit (.int .i64 0)))
        have hsz : Maps.size D = s.length := hD.2.1
        have hq : s.idxOf x = s.length := List.idxOf_eq_length hm
        rw [hq] at hfill
        have hwf : (Lit.int IntKind.i64 (s.length : Int)).wf = true := WalkArith.wf_i64 (by omega)
        have HWF := Lib.hid hwf; clear hwf
        have HF := Lib.hid hfill; have HSN := Lib.hid hsn; have HD := Lib.hid (mapIs_put hD hm); clear hfill hsn hm hq hD
        go_wp2_with (first
          | (at_lookup; (refine wpList_lookup_own_ok_int _ rfl _ _ 108 rfl 2 2 .i64 law64 Try.underlying108 Try.underlying2 (zero64 _) w.heap.size k _ rfl hown _ _ rfl HK.out ?_; intro c hc hwc; rw [hat.out] at hc; (obtain rfl : (0 : Int) = c := by simpa using hc); clear hc hwc))
          | (at_len; refine wpList_len_own _ rfl _ _ rfl 2 2 Try.underlying108 _ w.heap.size k _ rfl hown ?_)
          | (at_mapUpdate; (refine wpList_mapUpdate_own _ rfl _ _ _ 108 rfl 2 2 law64 Try.underlying108 _ w.heap.size k _ rfl hown (by unfold maxLen; omega) _ _ _ rfl rfl HK.out _ [] (plainElem_int Try.underlying2 HWF.out) ?_; intro w2 hown2 hgrow2; have hs2 := sl_kept hs hgrow2 (by simp [Value.ownBlock]); have hset := sl_set hs2 k (s.length : Int); have c3 := sl_cell hs2 (j := k) (by simp [clsTo_len]; omega); have c4 := sl_frozen hs2 k; rw [HF.out] at hset; have HSET := Lib.hid hset; clear hset; generalize (clsTo l k ++ List.replicate (l.length - k) 0).getD k 0 = z at c3; clear hs2)))
        go_roundw
        case rel => exact ⟨k + 1, by omega, by go_num, _, (hown2.kept HSET.out.2 (by simp)), by rw [HSN.out]; exact HD.out, HSET.out.1, (hbel.grown hgrow2 hbel.size (by simp)).setCell (by simp) _⟩
        case measure => simp [intOf]; omega
    · obtain rfl : k = l.length := by omega
      have HS2 := Lib.hid hs; clear hs
      go_wp2
      go_ret
      exact ⟨_, rfl, by simpa [clsOf] using HS2.out, hbel⟩

end Go.Proofs.Ytgkfampgofjkfaa

namespace Go.Proofs.Ytgkfampgofjkfaa
open Go.RowKit

theorem clsOf_len (l : List Int) : (clsOf l).length = l.length := clsTo_len _ _
theorem clsOf_getD {l : List Int} {k : Nat} (hk : k < l.length) : (clsOf l).getD k 0 = ((seenOf (l.take k)).idxOf (l.getD k 0) : Int) := by
  unfold clsOf clsTo
  simp [List.getD_eq_getElem?_getD, hk]

theorem idxOf_upTo {c : Nat} {x : Int} (h0 : 0 ≤ x) (h1 : x < c) : ((upTo 0 c).idxOf x : Int) = x := by
  obtain ⟨m, rfl⟩ := Int.eq_ofNat_of_zero_le h0
  have hm : m < c := by omega
  have := idx_hit (l := upTo 0 c) (x := (m : Int)) (k := m) (by rw [upTo_length]; exact hm) (by rw [upTo_getD 0 c m hm]; simp) (fun j hj => by rw [upTo_getD 0 c j (by omega)]; omega)
  rw [this]

theorem not_mem_upTo {c : Nat} {x : Int} (h : x < 0 ∨ (c : Int) ≤ x) : x ∉ upTo 0 c := by
  intro hm
  simp only [upTo, List.mem_map, List.mem_range] at hm
  obtain ⟨j, hj, rfl⟩ := hm
  omega

theorem mem_upTo {c : Nat} {x : Int} (h0 : 0 ≤ x) (h1 : x < c) : x ∈ upTo 0 c := by
  simp only [upTo, List.mem_map, List.mem_range]
  exact ⟨x.toNat, by omega, by omega⟩

theorem upTo_succ (c : Nat) : upTo 0 (c + 1) = upTo 0 c ++ [(c : Int)] := by simp [upTo, List.range_succ]

set_option maxHeartbeats 1000000 in
set_option maxRecDepth 100000 in
theorem isProper_any (w : World) (v : Value) (p : List Int) (h : Rd w v p) :
    Calls Try.prog 65 #[v] w (RetB w (decide (p = clsOf p))) := by
  obtain ⟨a, cap, rfl, hl, hc⟩ := h
  have HC := Lib.hid hc; clear hc
  go_enter Try.func65, Try.ntmps65
  go_wp2
  go_loopw [3, 8] (fun c i wr => ∃ k m : Nat, k ≤ p.length ∧ i = .int .i64 k ∧ c = .int .i64 m ∧ m ≤ k ∧ Hid (seenOf (p.take k) = upTo 0 m) ∧ Hid (∀ j, j < k → p.getD j 0 = (clsOf p).getD j 0) ∧ Below w.heap.size w wr) (fun _ i _ => p.length - (intOf i).toNat)
  case atStart => exact ⟨0, 0, Nat.zero_le _, rfl, rfl, Nat.le_refl _, by simp [Hid, seenOf, upTo], fun j hj => absurd hj (by omega), Below.refl _ _⟩
  case round =>
    obtain ⟨k, m, hk, rfl, rfl, hmk, hseen, hall, hbel⟩ := hrel
    by_cases hlt : k < p.length
    · obtain ⟨bb, off, rfl, hbs, hcell⟩ := HC.out k hlt
      have c1 : wr.cell? ⟨bb, off + k, none⟩ = some (.int .i64 (p.getD k 0)) := (hbel.cell (p := ⟨bb, off + k, none⟩) hbs).trans (hcell k hlt)
      have hg := clsOf_getD hlt
      have hsn := seenOf_snoc (p.take k) (p.getD k 0)
      rw [← take_snoc hlt] at hsn
      rw [hseen.out] at hg hsn
      clear hcell
      obtain ⟨x, hx⟩ : ∃ x, x = p.getD k 0 := ⟨_, rfl⟩
      rw [← hx] at c1 hg hsn
      have HX := Lib.hid hx; clear hx
      by_cases hbad : x < 0 ∨ (m : Int) < x
      · have hf : decide (p = clsOf p) = false := by
          rw [decide_eq_false_iff_not]
          refine list_ne_at (k := k) hlt ?_
          rw [hg, ← HX.out, List.idxOf_eq_length (not_mem_upTo (by omega)), upTo_length]
          omega
        have HF := Lib.hid hf; clear hf hg hsn
        by_cases h0 : x < 0
        · clear hbad
          go_wp2
          go_ret
          rw [HF.out]
          exact ⟨rfl, hbel⟩
        · have h1 : (m : Int) < x := by omega
          clear hbad
          go_wp2
          go_ret
          rw [HF.out]
          exact ⟨rfl, hbel⟩
      · have h0 : 0 ≤ x := by omega
        have h1 : x ≤ m := by omega
        clear hbad
        by_cases hxm : x = m
        · subst hxm
          rw [List.idxOf_eq_length (not_mem_upTo (by omega)), upTo_length] at hg
          rw [if_neg (not_mem_upTo (by omega)), ← upTo_succ] at hsn
          have HG := Lib.hid hg; have HSN := Lib.hid hsn; clear hg hsn
          have ht : ((m : Int) == (m : Int)) = true := by simp
          go_wp2
          go_roundw
          case rel =>
            refine ⟨k + 1, m + 1, by omega, by go_num, by go_num, by omega, HSN, fun j hj => ?_, hbel⟩
            by_cases hjk : j = k
            · rw [hjk, HG.out, ← HX.out]
            · exact hall.out j (by omega)
          case measure => simp [intOf]; omega
        · have hlt2 : x < (m : Int) := by omega
          rw [idxOf_upTo h0 hlt2] at hg
          rw [if_pos (mem_upTo h0 hlt2)] at hsn
          have HG := Lib.hid hg; have HSN := Lib.hid hsn; clear hg hsn
          have ht : (x == (m : Int)) = false := by simpa using hxm
          clear hxm
          go_wp2
          go_roundw
          case rel =>
            refine ⟨k + 1, m, by omega, by go_num, rfl, by omega, HSN, fun j hj => ?_, hbel⟩
            by_cases hjk : j = k
            · rw [hjk, HG.out, ← HX.out]
            · exact hall.out j (by omega)
          case measure => simp [intOf]; omega
    · obtain rfl : k = p.length := by omega
      have hf : decide (p = clsOf p) = true := by
        rw [decide_eq_true_iff]
        exact list_eq_all (clsOf_len p).symm (fun j hj => hall.out j hj)
      have HF := Lib.hid hf; clear hf
      go_wp2
      go_ret
      rw [HF.out]
      exact ⟨rfl, hbel⟩

def PartP (p : List Int) : Prop := p.length ≤ 256 ∧ p = clsOf p
instance (p : List Int) : Decidable (PartP p) := inferInstanceAs (Decidable (_ ∧ _))
def fIsPartition (p : List Int) : Bool := decide (PartP p)

set_option maxHeartbeats 400000 in
set_option maxRecDepth 100000 in
theorem spec_IsPartition (w : World) (v : Value) (p : List Int) (h : Rd w v p) :
    Calls Try.prog 83 #[v] w (RetB w (fIsPartition p)) := by
  have R := h
  obtain ⟨a, cap, rfl, hl, _⟩ := h
  by_cases h2 : p.length ≤ 256
  · have he : fIsPartition p = decide (p = clsOf p) := by simp [fIsPartition, PartP, h2]
    rw [he]
    go_enter Try.func83, Try.ntmps83
    go_wp2_with fail
    refine (specClasses_any _ _ _ R).mono ?_; rintro e w1 ⟨y, rfl, hs, hb1⟩
    go_wp2_with fail
    refine (specSame_any _ _ _ _ _ (rd_below hb1 R) hs.rd).mono ?_; rintro e w2 ⟨rfl, hb2⟩
    go_wp2
    go_ret
    exact ⟨rfl, hb1.trans (hb2.mono hb1.size)⟩
  · have he : fIsPartition p = false := by simp [fIsPartition, PartP, h2]
    rw [he]
    go_enter Try.func83, Try.ntmps83
    go_wp2
    go_ret
    exact ⟨rfl, Below.refl _ _⟩

set_option maxHeartbeats 400000 in
set_option maxRecDepth 100000 in
theorem impl_IsPartition (w : World) (v : Value) (p : List Int) (h : Rd w v p) :
    Calls Try.prog 31 #[v] w (RetB w (fIsPartition p)) := by
  have R := h
  obtain ⟨a, cap, rfl, hl, _⟩ := h
  by_cases h2 : p.length ≤ 256
  · have he : fIsPartition p = decide (p = clsOf p) := by simp [fIsPartition, PartP, h2]
    rw [he]
    go_enter Try.func31, Try.ntmps31
    go_wp2_with fail
    refine (isProper_any _ _ _ R).mono ?_; rintro e w1 ⟨rfl, hb1⟩
    go_wp2
    go_ret
    exact ⟨rfl, hb1⟩
  · have he : fIsPartition p = false := by simp [fIsPartition, PartP, h2]
    rw [he]
    go_enter Try.func31, Try.ntmps31
    go_wp2
    go_ret
    exact ⟨rfl, Below.refl _ _⟩

end Go.Proofs.Ytgkfampgofjkfaa

namespace Go.Proofs.Ytgkfampgofjkfaa
open Go.RowKit

def Rd2 (w : World) (v : Value) (rows : List (List Int)) : Prop :=
  ∃ (a : Option Addr) (cap : Nat), v = .slice a rows.length cap ∧ rows.length ≤ 5000000000000 ∧
    ∀ j, j < rows.length → ∃ b off, a = some ⟨b, off, none⟩ ∧ b < w.heap.size ∧ ∀ i, i < rows.length → ∃ u, w.cell? ⟨b, off + i, none⟩ = some u ∧ Rd w u (rows.getD i [])

theorem rd2_below {w w' : World} {v : Value} {rows : List (List Int)} (hb : Below w.heap.size w w') (h : Rd2 w v rows) : Rd2 w' v rows := by
  obtain ⟨a, cap, hv, hl, hc⟩ := h
  refine ⟨a, cap, hv, hl, fun j hj => ?_⟩
  obtain ⟨b, off, ha, hbs, hcell⟩ := hc j hj
  refine ⟨b, off, ha, Nat.lt_of_lt_of_le hbs hb.size, fun i hi => ?_⟩
  obtain ⟨u, h1, h2⟩ := hcell i hi
  exact ⟨u, (hb.cell (p := ⟨b, off + i, none⟩) hbs).trans h1, rd_below hb h2⟩

/-- A list of lists of the call's own, from block base on; no row in the block of the list itself, no two rows in one block. -/
def Sl2 (w : World) (base : Nat) (v : Value) (rows : List (List Int)) : Prop :=
  ∃ us : List Value, us.length = rows.length ∧ rows.length ≤ 5000000000000 ∧ w.ownsRow base 22 1 v rows.length us ∧
    (∀ i, i < rows.length → Sl w base (us.getD i undef) (rows.getD i []) ∧ Apart (us.getD i undef) v) ∧
    ∀ i j, i < j → j < rows.length → Apart (us.getD i undef) (us.getD j undef)

theorem sl2_rd {w : World} {base : Nat} {v : Value} {rows : List (List Int)} (h : Sl2 w base v rows) : Rd2 w v rows := by
  obtain ⟨us, hul, hl, ⟨hlen, hor⟩, hr, _⟩ := h
  rcases hor with ⟨hv, hn⟩ | ⟨g, cap, cur, hv, hb, hg, hnc, hcm, hcs, ht⟩
  · exact ⟨none, 0, by rw [hv, hn], hl, fun j hj => by omega⟩
  · refine ⟨some ⟨g, 0, none⟩, cap, hv, hl, fun j hj => ⟨g, 0, rfl, (Array.getElem?_eq_some_iff.1 hg).1, fun i hi => ⟨us.getD i undef, ?_, (hr i hi).1.rd⟩⟩⟩
    have h1 : us[i]? = some (us.getD i undef) := by
      rw [List.getD_eq_getElem?_getD, List.getElem?_eq_getElem (by omega)]; rfl
    rw [← ht] at h1
    rw [cell_of_row w g (0 + i) cur _ (0, 0) hg]
    rw [List.getElem?_take] at h1
    split at h1
    · rw [Nat.zero_add, ← ht]; simpa using h1
    · cases h1

theorem infoS : (Try.prog.info? 22).map (fun i => (i.zero, i.size, i.bytes)) = some (some (.slice none 0 0), 1, 24) := by kernel_rfl

theorem sl2_empty (w : World) : Sl2 (w.alloc (.cells #[] 22)) w.heap.size (.slice (some ⟨w.heap.size, 0, none⟩) 0 0) [] :=
  ⟨[], rfl, by simp, World.ownsRow_made w #[] 0 (Nat.le_refl _) (Nat.zero_le _) rfl, fun i hi => by simp at hi, fun i j _ hj => by simp at hj⟩

theorem sl2_nil (w : World) (base : Nat) : Sl2 w base (.slice none 0 0) [] :=
  ⟨[], rfl, by simp, World.ownsRow_nil w base _ 1, fun i hi => by simp at hi, fun i j _ hj => by simp at hj⟩

theorem sl2_mono {w : World} {base base' : Nat} {v : Value} {rows : List (List Int)} (h : Sl2 w base v rows) (hb : base' ≤ base) : Sl2 w base' v rows := by
  obtain ⟨us, h1, h2, ⟨h3, h4⟩, h5, h6⟩ := h
  refine ⟨us, h1, h2, ⟨h3, ?_⟩, fun i hi => ⟨(h5 i hi).1.mono hb, (h5 i hi).2⟩, h6⟩
  rcases h4 with h | ⟨g, cap, cur, hv, hbb, rest⟩
  · exact .inl h
  · exact .inr ⟨g, cap, cur, hv, Nat.le_trans hb hbb, rest⟩

theorem sl2_below {w w' : World} {base : Nat} {v : Value} {rows : List (List Int)} (hb : Below w.heap.size w w') (h : Sl2 w base v rows) : Sl2 w' base v rows := by
  obtain ⟨us, h1, h2, ⟨h3, h4⟩, h5, h6⟩ := h
  refine ⟨us, h1, h2, ⟨h3, ?_⟩, fun i hi => ⟨sl_below hb (h5 i hi).1, (h5 i hi).2⟩, h6⟩
  rcases h4 with h | ⟨g, cap, cur, hv, hbb, hg, rest⟩
  · exact .inl h
  · exact .inr ⟨g, cap, cur, hv, hbb, by rw [hb.block g (Array.getElem?_eq_some_iff.1 hg).1]; exact hg, rest⟩

theorem getD_snoc_lt {α : Type} {l : List α} {x d : α} {i : Nat} (h : i < l.length) : (l ++ [x]).getD i d = l.getD i d := by
  simp [List.getD_eq_getElem?_getD, List.getElem?_append, h]
theorem getD_snoc_eq {α : Type} {l : List α} {x d : α} {i : Nat} (h : i = l.length) : (l ++ [x]).getD i d = x := by
  subst h; simp [List.getD_eq_getElem?_getD]

/-- A row in a new block, and the list grown by it. -/
theorem sl2_snoc {wr w3 : World} {base : Nat} {v : Value} {rows : List (List Int)} {us : List Value} {r : List Int} {gg cap : Nat} {u0 : Value} {A : World}
    (hul : us.length = rows.length) (hown : wr.ownsRow base 22 1 v rows.length us)
    (hrows : ∀ i, i < rows.length → Sl wr base (us.getD i undef) (rows.getD i []) ∧ Apart (us.getD i undef) v) (hpair : ∀ i j, i < j → j < rows.length → Apart (us.getD i undef) (us.getD j undef))
    (hA : Below wr.heap.size wr A) (hu0 : Sl A wr.heap.size u0 r) (hbase : base ≤ wr.heap.size) (hn : rows.length + 1 ≤ 5000000000000)
    (hown1 : w3.ownsRow base 22 1 (.slice (some ⟨gg, 0, none⟩) (rows.length + 1) cap) (rows.length + 1) (us ++ [u0])) (hgrow : A.grownBy w3 v.ownBlock)
    (hat : v.ownBlock = some gg ∨ A.heap.size ≤ gg) : Sl2 w3 base (.slice (some ⟨gg, 0, none⟩) (rows.length + 1) cap) (rows ++ [r]) := by
  have hvlt : ∀ g, v.ownBlock = some g → g < wr.heap.size := fun g hg => (hown.lt g hg).2
  have hap0 : Apart u0 v := fun g hg hv => by
    have := (hu0.1.lt g hg).1
    have := hvlt g hv
    omega
  have hlt : ∀ i, i < rows.length → ∀ g, (us.getD i undef).ownBlock = some g → g < wr.heap.size := fun i hi g hg => ((hrows i hi).1.1.lt g hg).2
  refine ⟨us ++ [u0], by simp [hul], by simpa using hn, by simpa using hown1, fun i hi => ?_, fun i j hij hj => ?_⟩
  · rcases Nat.lt_or_ge i rows.length with h | h
    · rw [getD_snoc_lt (by omega), getD_snoc_lt h]
      refine ⟨sl_kept (sl_below hA (hrows i h).1) hgrow (apart_ne (hrows i h).2), fun g hg hv => ?_⟩
      simp only [Value.ownBlock, Option.some.injEq] at hv
      subst hv
      rcases hat with h1 | h1
      · exact (hrows i h).2 _ hg h1
      · have := hlt i h _ hg
        have := hA.size
        omega
    · have hie : i = rows.length := by simp at hi; omega
      rw [getD_snoc_eq (by omega), getD_snoc_eq hie]
      refine ⟨(sl_kept hu0 hgrow (apart_ne hap0)).mono hbase, fun g hg hv => ?_⟩
      simp only [Value.ownBlock, Option.some.injEq] at hv
      subst hv
      rcases hat with h1 | h1
      · exact hap0 _ hg h1
      · have := (hu0.1.lt _ hg).2
        omega
  · rcases Nat.lt_or_ge j rows.length with h | h
    · rw [getD_snoc_lt (by omega), getD_snoc_lt (by omega)]
      exact hpair i j hij h
    · have hje : j = us.length := by simp at hj; omega
      rw [getD_snoc_lt (by omega), getD_snoc_eq hje]
      intro g hg hv
      have := hlt i (by omega) g hg
      have := (hu0.1.lt g hv).1
      omega

def RetRI (W : World) (rows : List (List Int)) (c : Int) (e : Ending) (w' : World) : Prop := ∃ v, e = .returned (.tuple #[v, .int .i64 c]) ∧ Sl2 w' W.heap.size v rows ∧ Below W.heap.size W w'

end Go.Proofs.Ytgkfampgofjkfaa
