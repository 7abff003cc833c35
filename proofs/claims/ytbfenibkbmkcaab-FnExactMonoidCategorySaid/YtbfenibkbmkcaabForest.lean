
/- Elements that lead to smaller ones of their class: the least one of a class, and what joining does to it. | The program's joining of classes. -/
import Derived.Test.YtbfenibkbmkcaabIdx
set_option linter.unusedSimpArgs false
set_option linter.unusedVariables false
set_option linter.unusedSectionVars false
namespace Go.Proofs.Ytbfenibkbmkcaab
open Go.RowKit

def up (l : List Int) (x : Nat) : Nat := (l.getD x 0).toNat
def InvL (l : List Int) : Prop := ∀ x, x < l.length → 0 ≤ l.getD x 0 ∧ l.getD x 0 ≤ x
def rootF (l : List Int) : Nat → Nat → Nat
  | 0, x => x
  | f + 1, x => if up l x = x then x else rootF l f (up l x)
def rt (l : List Int) (x : Nat) : Nat := rootF l x x

theorem getD_out {l : List Int} {x : Nat} (h : l.length ≤ x) : l.getD x 0 = 0 := by
  rw [List.getD_eq_getElem?_getD, List.getElem?_eq_none h]; rfl

theorem up_le {l : List Int} (h : InvL l) (x : Nat) : up l x ≤ x := by
  unfold up
  by_cases hx : x < l.length
  · have := h x hx; omega
  · rw [getD_out (by omega)]; omega

theorem up_int {l : List Int} (h : InvL l) {x : Nat} (hx : x < l.length) : l.getD x 0 = (up l x : Int) := by
  unfold up
  have := h x hx
  omega

theorem rootF_fuel {l : List Int} (h : InvL l) : ∀ x f, x ≤ f → rootF l f x = rt l x := by
  intro x
  induction x using Nat.strongRecOn with
  | _ x ih =>
    intro f hf
    cases f with
    | zero =>
      obtain rfl : x = 0 := by omega
      rfl
    | succ f =>
      have hu := up_le h x
      unfold rt
      cases x with
      | zero =>
        have : up l 0 = 0 := by omega
        simp [rootF, this]
      | succ m =>
        simp only [rootF]
        by_cases he : up l (m + 1) = m + 1
        · rw [if_pos he, if_pos he]
        · rw [if_neg he, if_neg he, ih _ (by omega) f (by omega), ih _ (by omega) m (by omega)]

theorem rt_eq {l : List Int} (h : InvL l) (x : Nat) : rt l x = if up l x = x then x else rt l (up l x) := by
  have hu := up_le h x
  have h1 : rt l x = rootF l (x + 1) x := (rootF_fuel h x (x + 1) (by omega)).symm
  rw [h1]
  simp only [rootF]
  by_cases he : up l x = x
  · rw [if_pos he, if_pos he]
  · rw [if_neg he, if_neg he, rootF_fuel h _ x hu]

theorem rt_root {l : List Int} (h : InvL l) : ∀ x, up l (rt l x) = rt l x ∧ rt l x ≤ x := by
  intro x
  induction x using Nat.strongRecOn with
  | _ x ih =>
    have hu := up_le h x
    rw [rt_eq h x]
    by_cases he : up l x = x
    · rw [if_pos he]; exact ⟨he, Nat.le_refl _⟩
    · rw [if_neg he]
      have := ih (up l x) (by omega)
      exact ⟨this.1, by omega⟩

theorem rt_self {l : List Int} (h : InvL l) {x : Nat} (he : up l x = x) : rt l x = x := by rw [rt_eq h x, if_pos he]

theorem getD_set (l : List Int) (x : Nat) (z : Int) (y : Nat) (hx : x < l.length) : (l.set x z).getD y 0 = if y = x then z else l.getD y 0 := by
  simp only [List.getD_eq_getElem?_getD, List.getElem?_set]
  by_cases h : x = y
  · subst h; simp [hx]
  · rw [if_neg h, if_neg (fun e => h e.symm)]

theorem up_set (l : List Int) (x z y : Nat) (hx : x < l.length) : up (l.set x (z : Int)) y = if y = x then z else up l y := by
  unfold up
  rw [getD_set l x z y hx]
  split <;> simp

theorem inv_set {l : List Int} (h : InvL l) {x z : Nat} (hx : x < l.length) (hz : z ≤ x) : InvL (l.set x (z : Int)) := by
  intro y hy
  rw [getD_set l x z y hx]
  simp only [List.length_set] at hy
  split
  · subst_vars; omega
  · exact h y hy

theorem rt_halve {l : List Int} (h : InvL l) {x : Nat} (hx : x < l.length) : ∀ i, rt (l.set x (up l (up l x) : Nat)) i = rt l i := by
  have hux := up_le h x
  have huy := up_le h (up l x)
  have h' : InvL (l.set x ((up l (up l x) : Nat) : Int)) := inv_set h hx (by omega)
  intro i
  induction i using Nat.strongRecOn with
  | _ i ih =>
    have hui := up_le h i
    rw [rt_eq h' i, rt_eq h i, up_set l x _ i hx]
    by_cases hi : i = x
    · subst hi
      rw [if_pos rfl]
      by_cases hy : up l i = i
      · simp [hy]
      · rw [if_neg hy, if_neg (by omega), ih _ (by omega), rt_eq h (up l i)]
        by_cases hz : up l (up l i) = up l i
        · rw [if_pos hz, hz, rt_self h hz]
        · rw [if_neg hz]
    · rw [if_neg hi]
      by_cases hy : up l i = i
      · rw [if_pos hy, if_pos hy]
      · rw [if_neg hy, if_neg hy, ih _ (by omega)]

theorem rt_link {l : List Int} (h : InvL l) {m n : Nat} (hm : m < l.length) (hn : n ≤ m) (rm : up l m = m) (rn : up l n = n) :
    ∀ i, rt (l.set m (n : Int)) i = if rt l i = m then n else rt l i := by
  have h' : InvL (l.set m (n : Int)) := inv_set h hm hn
  intro i
  induction i using Nat.strongRecOn with
  | _ i ih =>
    have hui := up_le h i
    rw [rt_eq h' i, up_set l m n i hm]
    by_cases hi : i = m
    · subst hi
      rw [if_pos rfl, rt_self h rm, if_pos rfl]
      by_cases he : n = i
      · rw [if_pos he, he]
      · rw [if_neg he, rt_eq h' n, up_set l i n n hm, if_neg he, if_pos rn]
    · rw [if_neg hi]
      by_cases hy : up l i = i
      · rw [if_pos hy, rt_self h hy, if_neg hi]
      · rw [if_neg hy, ih _ (by omega), rt_eq h i, if_neg hy]

def Rts (l : List Int) : List Int := (List.range l.length).map fun (i : Nat) => (rt l i : Int)
theorem Rts_len (l : List Int) : (Rts l).length = l.length := by simp [Rts]
theorem Rts_getD {l : List Int} {i : Nat} (hi : i < l.length) : (Rts l).getD i 0 = (rt l i : Int) := by
  simp [Rts, List.getD_eq_getElem?_getD, hi]

/-- What joining two elements does to the least ones. -/
def mergeR (R : List Int) (a b : Int) : List Int := R.map fun z => if z = max a b then min a b else z

theorem Rts_link {l : List Int} (h : InvL l) {m n : Nat} (hm : m < l.length) (hn : n ≤ m) (rm : up l m = m) (rn : up l n = n) :
    Rts (l.set m (n : Int)) = mergeR (Rts l) n m := by
  unfold Rts mergeR
  rw [List.length_set, List.map_map]
  refine List.map_congr_left fun i _ => ?_
  simp only [Function.comp]
  rw [rt_link h hm hn rm rn]
  have h1 : max (n : Int) (m : Int) = m := by omega
  have h2 : min (n : Int) (m : Int) = n := by omega
  rw [h1, h2]
  by_cases he : rt l i = m
  · rw [if_pos he, if_pos (by omega)]
  · rw [if_neg he, if_neg (by omega)]

theorem Rts_same {l l' : List Int} (hl : l'.length = l.length) (h : ∀ i, rt l' i = rt l i) : Rts l' = Rts l := by
  unfold Rts; rw [hl]; exact List.map_congr_left fun i _ => by rw [h i]

theorem inv_upTo (n : Nat) : InvL (upTo 0 n) := by
  intro x hx
  rw [upTo_length] at hx
  rw [upTo_getD 0 n x hx]
  omega

theorem Rts_upTo (n : Nat) : Rts (upTo 0 n) = upTo 0 n := by
  unfold Rts
  rw [upTo_length]
  conv => rhs; unfold upTo
  refine List.map_congr_left fun i hi => ?_
  have hi' : i < n := by simpa using hi
  rw [rt_self (inv_upTo n) (by unfold up; rw [upTo_getD 0 n i hi']; omega)]
  omega

end Go.Proofs.Ytbfenibkbmkcaab

namespace Go.Proofs.Ytbfenibkbmkcaab
open Go.RowKit

/-- The leaders' table: it reads in some way that tells R. -/
def Lead (w : World) (base : Nat) (v : Value) (R : List Int) : Prop := ∃ l, Sl w base v l ∧ InvL l ∧ Rts l = R

theorem Lead.len {w : World} {base : Nat} {v : Value} {R : List Int} (h : Lead w base v R) : R.length ≤ 17592186044415 := by
  obtain ⟨l, hs, _, rfl⟩ := h
  rw [Rts_len]; exact hs.2

theorem lead_below {w w' : World} {base : Nat} {v : Value} {R : List Int} (hb : Below w.heap.size w w') (h : Lead w base v R) : Lead w' base v R := by
  obtain ⟨l, hs, r⟩ := h
  exact ⟨l, sl_below hb hs, r⟩

theorem lead_lt {w : World} {base : Nat} {v : Value} {R : List Int} (h : Lead w base v R) : ∀ k, v.ownBlock = some k → base ≤ k ∧ k < w.heap.size := by
  obtain ⟨l, hs, _⟩ := h
  exact hs.1.lt

theorem filled_set {n k : Nat} (hk : k < n) : (upTo 0 k ++ List.replicate (n - k) 0).set k (k : Int) = upTo 0 (k + 1) ++ List.replicate (n - (k + 1)) 0 := by
  have hl : (upTo 0 k).length = k := upTo_length _ _
  rw [List.set_append, if_neg (by omega), hl, Nat.sub_self, upTo_succ]
  obtain ⟨m, hm⟩ : ∃ m, n - k = m + 1 := ⟨n - k - 1, by omega⟩
  have hm' : n - (k + 1) = m := by omega
  rw [hm, hm', List.replicate_succ]
  simp

theorem lab_fill {R : List Int} {k : Nat} (hk : k < R.length) :
    (R.take k ++ List.replicate (R.length - k) 0).set k (R.getD k 0) = R.take (k + 1) ++ List.replicate (R.length - (k + 1)) 0 := set_fill hk

end Go.Proofs.Ytbfenibkbmkcaab
