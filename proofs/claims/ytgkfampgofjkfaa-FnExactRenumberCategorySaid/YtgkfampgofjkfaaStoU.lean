
/- A number is put into a row of rows. -/
import Derived.Test.YtgkfampgofjkfaaEnts
set_option linter.unusedSimpArgs false
set_option linter.unusedVariables false
set_option linter.unusedSectionVars false
namespace Go.Proofs.Ytgkfampgofjkfaa
open Go.RowKit
section
variable {w0 : World} {is : List Itm} {Q : Exit → Act → World → Prop} {o : Oper} {N : Frm} {e : Env} {v : Value} {K : Act → World → Prop}
/-- A number is put into a row of rows of the call's own. -/
theorem go_storeU {t : TypeId} {x y : Operand} {n : Nat} {us : List Value} {rows : List (List Int)} {i j z : Int} (hd : o.dst = none) (hop : o.op = .store t x y) (hx : evo e x = some (eltP (us.getD i.toNat undef) j)) (hy : evo e y = some (.int .i64 z))
    (hs : (Try.prog.info? t).map (·.size) = some 1) (hi : is[n]? = some (own2U v us rows)) (i0 : 0 ≤ i) (i1 : i < rows.length) (j0 : 0 ≤ j) (j1 : j < (row2 rows i).length)
    (hk : GK w0 (is.set n (own2U v us (rows.set i.toNat ((row2 rows i).set j.toNat z)))) N K e) : GO w0 is N o e Q K := by
  intro w ac M F
  obtain ⟨S, hS, hp, hset⟩ := mem_set M hi
  have hp' : Own2U v us rows w S := hp
  obtain ⟨h1, h2, h3, h4, h5, h6⟩ := hp'
  have hlt : i.toNat < rows.length := by omega
  have hrow := h4 i.toNat hlt
  have hj : j.toNat < (rows.getD i.toNat []).length := by have : (row2 rows i).length = (rows.getD i.toNat []).length := rfl; omega
  obtain ⟨a, cap, hu, hf⟩ := sl_form hrow.1
  obtain ⟨g, rfl⟩ := hf j.toNat hj
  have hsl := hrow.1
  rw [hu] at hsl
  have hcell := sl_cell hsl hj
  have hfz := sl_frozen hsl j.toNat
  have hst := sl_set hsl j.toNat z
  have hgS : S g := hrow.2.2 g (by rw [hu]; rfl)
  have hne : ∀ u : Value, (∀ q, u.ownBlock = some q → q ≠ g) → u.ownBlock = none ∨ u.ownBlock ≠ some g := fun u hq => by
    cases hb : u.ownBlock with
    | none => exact .inl rfl
    | some q => exact .inr fun e => hq q hb (by simpa using e)
  refine go_skip (w' := w.setCell ⟨g, j.toNat, none⟩ (.int .i64 z)) hd F ?_ fun ac F => hk _ ac (hset _ _ ⟨hst.2.os, hst.2.tape, hst.2.output, hst.2.size, fun q hq hs => hst.2.block q hq fun e => hs (by rw [Option.some.inj e]; exact hgS)⟩ ⟨by simpa using h1, by simpa using h2, ?_, fun m hm => ?_, fun m m' hm hm' => h5 m m' hm (by simpa using hm'), fun q hq => .inl (h6 q hq)⟩) F
  · intro ρ F; have hx := F _ _ hx; have hy := F _ _ hy
    have he : eltP (us.getD i.toNat undef) j = .pointer (some ⟨g, j.toNat, none⟩) := by rw [hu]; simp [eltP]
    rw [he] at hx
    simp [execOp, hop, hx, hy, run_store1 hs (u := .int .i64 z) rfl rfl hcell hfz]
  · have := own_agree h3 (w' := w.setCell ⟨g, j.toNat, none⟩ (.int .i64 z)) fun q hq hv => hst.2.block q hq fun e => by
      have hqg : q = g := by have := Option.some.inj e; omega
      exact hrow.2.1 g (by rw [hu]; rfl) (by rw [hv, hqg])
    simpa using this
  · simp only [List.length_set] at hm
    rw [getD_set2 rows i.toNat _ [] m (by omega)]
    by_cases hmi : m = i.toNat
    · subst hmi
      rw [if_pos rfl, hu]
      exact ⟨hst.1, by rw [← hu]; exact hrow.2.1, fun q hq => .inl (hrow.2.2 q (by rw [hu]; exact hq))⟩
    · rw [if_neg hmi]
      refine ⟨sl_kept (h4 m hm).1 hst.2 (hne _ fun q hq e => ?_), (h4 m hm).2.1, fun q hq => .inl ((h4 m hm).2.2 q hq)⟩
      rcases Nat.lt_or_ge m i.toNat with h | h
      · exact h5 m i.toNat h hlt q hq (by rw [hu, e]; rfl)
      · exact h5 i.toNat m (by omega) hm g (by rw [hu]; rfl) (by rw [hq, e])
end
end Go.Proofs.Ytgkfampgofjkfaa

