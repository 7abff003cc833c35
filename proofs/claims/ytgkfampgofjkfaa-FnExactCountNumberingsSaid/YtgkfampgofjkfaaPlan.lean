
/- Plans of categories: the numbering of entries, rows, and what is built, for each kind of label. -/
import Derived.Test.YtgkfampgofjkfaaShort
import Derived.Test.YtgkfampgofjkfaaClo
set_option linter.unusedSimpArgs false
set_option linter.unusedVariables false
set_option linter.unusedSectionVars false
namespace Go.Proofs.Ytgkfampgofjkfaa
open Go.RowKit


section
variable {α : Type} [Inhabited α]
theorem atE_mem {es : List (Ent α)} {k : Nat} (h : k < es.length) : atE es (k : Int) ∈ es := by
 simp only [atE, Int.toNat_natCast, List.getD_eq_getElem?_getD, List.getElem?_eq_getElem h, Option.getD_some]; exact List.getElem_mem h
theorem atE_eq {es : List (Ent α)} {k : Nat} (h : k < es.length) : atE es (k : Int) = es[k] := by
 simp [atE, List.getD_eq_getElem?_getD, List.getElem?_eq_getElem h]
theorem takeE_succ {es : List (Ent α)} {k : Nat} (h : k < es.length) : es.take k ++ [((atE es (k : Int)).1, (atE es (k : Int)).2.1, (atE es (k : Int)).2.2)] = es.take (k + 1) := by
 rw [List.take_succ_eq_append_getElem h, ← atE_eq h]
theorem takeE_not {es : List (Ent α)} (hn : es.Nodup) {k : Nat} (h : k < es.length) : ((atE es (k : Int)).1, (atE es (k : Int)).2.1, (atE es (k : Int)).2.2) ∉ es.take k := by
 intro hm
 have he : ((atE es (k : Int)).1, (atE es (k : Int)).2.1, (atE es (k : Int)).2.2) = es[k] := by rw [← atE_eq h]
 rw [he] at hm
 obtain ⟨j, hj, he2⟩ := List.getElem_of_mem hm
 simp only [List.length_take] at hj
 rw [List.getElem_take] at he2
 exact List.pairwise_iff_getElem.1 hn j k (by omega) h (by omega) he2
variable [DecidableEq α]
/-- What stands in the row of f at g. -/
noncomputable def cellE (es : List (Ent α)) (th : α → α → α) (f g : Ent α) : Int := if f.2.1 = g.1 then posE es (f.1, g.2.1, th f.2.2 g.2.2) else -1
noncomputable def rowE (es : List (Ent α)) (th : α → α → α) (f : Ent α) : List Int := tabTo (fun j => cellE es th f (atE es (j : Int))) es.length
theorem rowE_eta (es fs : List (Ent α)) (th : α → α → α) (k : Int) : rowE es th ((atE fs k).1, (atE fs k).2.1, (atE fs k).2.2) = rowE es th (atE fs k) := rfl
noncomputable def buildE (n : Int) (es : List (Ent α)) (u : Nat → α) (th : α → α → α) : Cat :=
 ⟨n, tabTo (fun i => (atE es (i : Int)).1) es.length, tabTo (fun i => (atE es (i : Int)).2.1) es.length, tabTo (fun x => posE es ((x : Int), (x : Int), u x)) n.toNat, rowsTo (fun i => rowE es th (atE es (i : Int))) es.length⟩
noncomputable def madeE (n : Int) (es : List (Ent α)) (u : Nat → α) (th : α → α → α) : Cat := if n ≤ 8 ∧ es.length ≤ 40 then buildE n es u th else cat0
noncomputable def madeEc (n : Int) (es : List (Ent α)) : Int := if n ≤ 8 ∧ es.length ≤ 40 then 0 else 3
theorem madeE_t {n : Int} {es : List (Ent α)} {u : Nat → α} {th : α → α → α} (h : n ≤ 8) (h' : es.length ≤ 40) : madeE n es u th = buildE n es u th ∧ madeEc n es = 0 := ⟨if_pos ⟨h, h'⟩, if_pos ⟨h, h'⟩⟩
theorem madeE_f {n : Int} {es : List (Ent α)} {u : Nat → α} {th : α → α → α} (h : ¬ (n ≤ 8 ∧ es.length ≤ 40)) : madeE n es u th = cat0 ∧ madeEc n es = 3 := ⟨if_neg h, if_neg h⟩
end
theorem takeE_len {α : Type} {es : List (Ent α)} {k : Nat} (h : k < es.length) : (k : Int) = (es.take k).length := by simp; omega
theorem fillTo_set' {φ : Nat → Int} {n k : Nat} {v : Int} (h : k < n) (hv : φ k = v) : (fillTo φ n k).set ((k : Int)).toNat v = fillTo φ n (k + 1) := by subst hv; exact fillTo_set φ h

end Go.Proofs.Ytgkfampgofjkfaa
