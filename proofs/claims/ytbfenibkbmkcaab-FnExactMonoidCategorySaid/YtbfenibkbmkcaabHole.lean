
/- Rows with one row taken out and put back; two categories in a list. -/
import Derived.Test.YtbfenibkbmkcaabTwoS
set_option linter.unusedSimpArgs false
set_option linter.unusedVariables false
set_option linter.unusedSectionVars false
namespace Go.Proofs.Ytbfenibkbmkcaab
open Go.RowKit
/-- Rows, but for the row i. -/
def Own2H (v : Value) (us : List Value) (rows : List (List Int)) (i : Nat) (w : World) (S : Nat → Prop) : Prop :=
  us.length = rows.length ∧ rows.length ≤ 5000000000000 ∧ w.ownsRow 0 22 1 v rows.length us ∧
    (∀ j, j < rows.length → j ≠ i → Sl w 0 (us.getD j undef) (rows.getD j []) ∧ Apart (us.getD j undef) v ∧ ∀ q, (us.getD j undef).ownBlock = some q → S q) ∧
    (∀ j k, j < k → k < rows.length → j ≠ i → k ≠ i → Apart (us.getD j undef) (us.getD k undef)) ∧ ∀ q, v.ownBlock = some q → S q
theorem own2H_loc (v : Value) (us : List Value) (rows : List (List Int)) (i : Nat) : Loc (Own2H v us rows i) where
  keep hs ha h := by
    obtain ⟨h1, h2, h3, h4, h5, h6⟩ := h
    exact ⟨h1, h2, own_agree h3 fun q hq e => ha q hq (h6 q e), fun j hj hji => ⟨⟨own_agree (h4 j hj hji).1.1 fun q hq e => ha q hq ((h4 j hj hji).2.2 q e), (h4 j hj hji).1.2⟩, (h4 j hj hji).2.1, fun q hq => hs q ((h4 j hj hji).1.1.lt q hq).2 ((h4 j hj hji).2.2 q hq)⟩, h5, fun q hq => hs q (h3.lt q hq).2 (h6 q hq)⟩
def own2HI (v : Value) (us : List Value) (rows : List (List Int)) (i : Nat) : Itm := ⟨_, own2H_loc v us rows i⟩
theorem star_hole {is : List Itm} {w : World} {S : Nat → Prop} {n : Nat} {v : Value} {us : List Value} {rows : List (List Int)} {i : Nat} (h : Star is w S) (hi : is[n]? = some (own2U v us rows)) (hlt : i < rows.length) :
    Star (is.set n (own2HI v us rows i) ++ [own1I (us.getD i undef) (rows.getD i [])]) w S := by
  have hn : n < is.length := (List.getElem?_eq_some_iff.1 hi).1
  obtain ⟨S1, S2, k1, k2, kd, hp, h2⟩ := star_pick is hi h
  obtain ⟨h1, h2', h3, h4, h5, h6⟩ := (hp : Own2U v us rows w S1)
  have hr := h4 i hlt
  refine star_app _ _ (S1 := fun k => S k ∧ (us.getD i undef).ownBlock ≠ some k) (S2 := fun k => (us.getD i undef).ownBlock = some k) (fun k h => h.1) (fun k h => k1 k (hr.2.2 k h)) (fun k h h' => h.2 h') ?_ ?_
  · refine star_unpick _ (by simpa using hn) ⟨fun k => S1 k ∧ (us.getD i undef).ownBlock ≠ some k, S2, fun k h => ⟨k1 k h.1, h.2⟩, fun k h => ⟨k2 k h, fun e => kd k (hr.2.2 k e) h⟩, fun k h h' => kd k h.1 h', ?_, by simpa using h2⟩
    refine ⟨h1, h2', h3, fun j hj hji => ⟨(h4 j hj).1, (h4 j hj).2.1, fun q hq => ⟨(h4 j hj).2.2 q hq, fun e => ?_⟩⟩, fun j k hjk hk _ _ => h5 j k hjk hk, fun q hq => ⟨h6 q hq, fun e => hr.2.1 q e hq⟩⟩
    rcases Nat.lt_or_ge j i with h | h
    · exact h5 j i h hlt q hq e
    · exact h5 i j (by omega) hj q e hq
  · exact ⟨_, fun _ => False, fun k h => h, fun k h => h.elim, fun k _ h => h, (⟨hr.1, fun q hq => hq⟩ : Own1 _ _ _ _), trivial⟩
theorem own2H_store {w : World} {S1 S2 : Nat → Prop} {g n cap k : Nat} {us : List Value} {rows : List (List Int)} {r : List Int} {u : Value} (h : Own2H (.slice (some ⟨g, 0, none⟩) n cap) us rows k w S1) (hk : k < rows.length)
    (hu : Own1 u r w S2) (hd : ∀ q, S1 q → ¬ S2 q) : Own2U (.slice (some ⟨g, 0, none⟩) n cap) (us.set k u) (rows.set k r) (w.setCell ⟨g, k, none⟩ u) (fun q => S1 q ∨ S2 q) ∧ FrS S1 w (w.setCell ⟨g, k, none⟩ u) := by
  obtain ⟨h1, h2, h3, h4, h5, h6⟩ := h
  have hgS : S1 g := h6 g rfl
  have hn : n = rows.length := by
    rcases h3.2 with ⟨hv, _⟩ | ⟨g', cap', cur, hv, _⟩
    · simp at hv
    · simp only [Value.slice.injEq] at hv
      exact hv.2.1
  subst hn
  have hst := h3.stored k u
  have hgr := hst.2
  have hne : ∀ v : Value, (∀ q, v.ownBlock = some q → q ≠ g) → v.ownBlock = none ∨ v.ownBlock ≠ some g := fun v hv => by
    cases hb0 : v.ownBlock with
    | none => exact .inl rfl
    | some q => exact .inr fun e => hv q hb0 (by simpa using e)
  have hu0 : Sl (w.setCell ⟨g, k, none⟩ u) 0 u r := sl_kept hu.1 hgr (hne u fun q hq e => hd g hgS (by rw [← e]; exact hu.2 q hq))
  refine ⟨⟨by simp [h1], by simpa using h2, by simpa using hst.1, fun i hi => ?_, fun i j hij hj => ?_, fun q hq => .inl (h6 q hq)⟩, ⟨hgr.os, hgr.tape, hgr.output, hgr.size, fun q hq hs => hgr.block q hq fun e => hs (by rw [Option.some.inj e]; exact hgS)⟩⟩
  · simp only [List.length_set] at hi
    rw [getD_set2 us k u undef i (by omega), getD_set2 rows k r [] i (by omega)]
    by_cases hik : i = k
    · rw [if_pos hik, if_pos hik]
      exact ⟨hu0, fun q hq hv => by
        simp only [Value.ownBlock, Option.some.injEq] at hv
        exact hd g hgS (by rw [hv]; exact hu.2 q hq), fun q hq => .inr (hu.2 q hq)⟩
    · rw [if_neg hik, if_neg hik]
      exact ⟨sl_kept (h4 i hi hik).1 hgr (hne _ fun q hq e => (h4 i hi hik).2.1 q hq (by simp [Value.ownBlock, e])), (h4 i hi hik).2.1, fun q hq => .inl ((h4 i hi hik).2.2 q hq)⟩
  · simp only [List.length_set] at hj
    rw [getD_set2 us k u undef i (by omega), getD_set2 us k u undef j (by omega)]
    by_cases hik : i = k
    · rw [if_pos hik, if_neg (by omega)]
      exact fun q hq hq2 => hd q ((h4 j hj (by omega)).2.2 q hq2) (hu.2 q hq)
    · rw [if_neg hik]
      by_cases hjk : j = k
      · rw [if_pos hjk]
        exact fun q hq hq2 => hd q ((h4 i (by omega) hik).2.2 q hq) (hu.2 q hq2)
      · rw [if_neg hjk]
        exact h5 i j hij hj hik hjk
section
variable {w0 : World} {is : List Itm} {ops : Array Oper} {Q : Exit → Act → World → Prop} {o : Oper} {rest : List Oper} {N : Nat} {e : Env} {v : Value} {d : Nat} {K : Act → World → Prop}
theorem mem_hole {w : World} {n : Nat} {us : List Value} {rows : List (List Int)} {i : Int} (M : Mem w0 w is) (hi : is[n]? = some (own2U v us rows)) (h0 : 0 ≤ i) (h1 : i < rows.length) : Mem w0 w (is.set n (own2HI v us rows i.toNat) ++ [own1I (us.getD i.toNat undef) (row2 rows i)]) :=
  ⟨M.1, star_hole M.2 hi (by omega)⟩
theorem go_shift {is' : List Itm} (h : ∀ w, Mem w0 w is → Mem w0 w is') (hk : GO w0 is' N o e Q K) : GO w0 is N o e Q K := fun w a M F => hk w a (h w M) F
theorem go_appendHole {s x : Operand} {t : TypeId} {n m : Nat} {us : List Value} {rows : List (List Int)} {u : Value} {y i : Int} (hd : o.dst = some d) (hN : Nat.blt d N = true) (hop : o.op = .call { callee := .builtin .append, args := #[s, x], argTypes := #[t, t] }) (ht : Try.prog.underlying t = some (.slice 2))
    (hs : evo e s = some (us.getD i.toNat undef)) (hx : evo e x = some u) (hi : is[n]? = some (own2U v us rows)) (hj : is[m]? = some (own1I u [y])) (hnm : n ≠ m) (h0 : 0 ≤ i) (h1 : i < rows.length) (hn : (row2 rows i).length + 1 ≤ 17592186044415)
    (hk : ∀ a cap, GK w0 (is.set n (own2HI v us rows i.toNat) ++ [own1I (.slice a (row2 rows i ++ [y]).length cap) (row2 rows i ++ [y])]) N K ((d, .slice a (row2 rows i ++ [y]).length cap) :: e)) : GO w0 is N o e Q K := by
  have hm : m < is.length := (List.getElem?_eq_some_iff.1 hj).1
  refine go_shift (fun w M => mem_hole (i := i) M hi h0 h1) (go_append (n := is.length) (m := m) (xs := row2 rows i) (y := y) hd hN hop ht hs hx ?_ ?_ hn fun a cap => ?_)
  · rw [List.getElem?_append_right (by simp)]; simp
  · rw [List.getElem?_append_left (by simpa using hm), List.getElem?_set_ne hnm]; exact hj
  · have := hk a cap
    have he : (is.set n (own2HI v us rows i.toNat) ++ [own1I (us.getD i.toNat undef) (row2 rows i)]).set is.length (own1I (.slice a (row2 rows i ++ [y]).length cap) (row2 rows i ++ [y])) = is.set n (own2HI v us rows i.toNat) ++ [own1I (.slice a (row2 rows i ++ [y]).length cap) (row2 rows i ++ [y])] := by
      rw [List.set_append_right _ _ (by simp)]; simp
    rw [he]; exact this
theorem lenA_H {n k : Nat} {us : List Value} {rows : List (List Int)} (h : is[n]? = some (own2HI v us rows k)) {w : World} (M : Mem w0 w is) : LenA v rows.length := by
  obtain ⟨S, _, hb⟩ := mem_get M h
  rcases (hb : Own2H v us rows k w S).2.2.1.2 with ⟨hv, hn⟩ | ⟨g, cap, cur, hv, _⟩
  · exact ⟨none, 0, by rw [hn]; exact hv, fun h => by omega⟩
  · exact ⟨_, cap, hv, fun _ => ⟨g, 0, rfl⟩⟩
theorem go_storeH {t : TypeId} {x y : Operand} {n m m' k : Nat} {us : List Value} {rows : List (List Int)} {r : List Int} {u : Value} {i : Int} (hd : o.dst = none) (hop : o.op = .store t x y) (hx : evo e x = some (eltP v i)) (hy : evo e y = some u)
    (hs : (Try.prog.info? t).map (·.size) = some 1) (hi : is[n]? = some (own2HI v us rows k)) (hj : (is.eraseIdx n)[m']? = some (own1I u r)) (hE : (is.set m trivI).eraseIdx n = (is.eraseIdx n).set m' trivI) (hik : k = i.toNat) (h0 : 0 ≤ i) (h1 : i < rows.length)
    (hk : GK w0 ((is.set m trivI).set n (own2U v (us.set i.toNat u) (rows.set i.toNat r))) N K e) : GO w0 is N o e Q K := by
  subst hik
  intro w ac M F
  obtain ⟨S1, S2, k1, k2, kd, hp, hq, hset⟩ := star_two M.2 hi hj hE
  have hp' : Own2H v us rows i.toNat w S1 := hp
  have hq' : Own1 u r w S2 := hq
  obtain ⟨ua, uc, rfl⟩ := rd_form hq'.rd
  have hform := hp'.2.2.1.2
  rcases hform with ⟨_, hn⟩ | ⟨g, cap, cur, rfl, _, hg, hnc, hcm, hcs, htk⟩
  · omega
  · obtain ⟨hnew, hfr⟩ := own2H_store hp' (by omega) hq' kd
    have hlt : i.toNat < cur.size := by rw [hcs]; omega
    have hcell : w.cell? ⟨g, i.toNat, none⟩ = some cur[i.toNat] := by rw [cell_of_row w g _ cur _ (0, 0) hg]; simp [hlt]
    have hfz : w.frozen? ⟨g, i.toNat, none⟩ = false := frozen_of_row w g _ _ _ hg
    refine go_skip (w' := w.setCell ⟨g, i.toNat, none⟩ (.slice ua r.length uc)) hd F ?_ fun ac F => hk _ ac ⟨below_frS M.1 hfr (Nat.le_refl _) k1, hset _ _ hfr hnew⟩ F
    intro ρ F; have hx := F _ _ hx; have hy := F _ _ hy
    have he : eltP (.slice (some ⟨g, 0, none⟩) rows.length cap) i = .pointer (some ⟨g, i.toNat, none⟩) := by simp [eltP]
    simp [execOp, hop, hx, hy, he, run_store1 hs (u := .slice ua r.length uc) rfl rfl hcell hfz]
/-! ### Two categories in a list -/
theorem infoC : (Try.prog.info? 25).map (fun i => (i.zero, i.size, i.bytes)) = some (some (.agg #[.int .i64 0, .slice none 0 0, .slice none 0 0, .slice none 0 0, .slice none 0 0]), 5, 104) := by kernel_rfl
theorem fill10 (f : Nat → Value) (a1 a2 a3 a4 a5 b1 b2 b3 b4 b5 : Value) : ((((((((((Array.map f (Array.range 10)).setIfInBounds 0 a1).setIfInBounds 1 a2).setIfInBounds 2 a3).setIfInBounds 3 a4).setIfInBounds 4 a5).setIfInBounds 5 b1).setIfInBounds 6 b2).setIfInBounds 7 b3).setIfInBounds 8 b4).setIfInBounds 9 b5 = #[a1, a2, a3, a4, a5, b1, b2, b3, b4, b5] := by
  apply Array.ext'
  simp only [Array.toList_setIfInBounds, Array.toList_map, Array.toList_range]
  rfl
theorem go_sliceC2 {t : TypeId} {x y : Operand} {a1 a2 a3 a4 a5 b1 b2 b3 b4 b5 : Value} (hd : o.dst = some d) (hN : Nat.blt d N = true) (hop : o.op = .buildSlice t 2 #[(0, x), (1, y)]) (hx : evo e x = some (.agg #[a1, a2, a3, a4, a5])) (hy : evo e y = some (.agg #[b1, b2, b3, b4, b5])) (ht : Try.prog.underlying t = some (.slice 25))
    (hk : ∀ B : Nat, GK w0 (is ++ [bxI B 25 [a1, a2, a3, a4, a5, b1, b2, b3, b4, b5]]) N K ((d, .slice (some ⟨B, 0, none⟩) 2 2) :: e)) : GO w0 is N o e Q K := by
  intro w ac M F
  refine go_val (v := .slice (some ⟨w.heap.size, 0, none⟩) 2 2) (w' := w.alloc (.cells #[a1, a2, a3, a4, a5, b1, b2, b3, b4, b5] 25)) hd hN F ?_ fun ac F => hk _ _ ac (mem_new M (below_alloc w _) ⟨heap_alloc_new w _, Nat.le_refl _⟩) F
  intro ρ F; have hx := F _ _ hx; have hy := F _ _ hy
  obtain ⟨i, hi, hz, hs, hb⟩ := info_parts infoC
  simp [execOp, hop, hx, hy, Instr.buildSlice, run_underlying ht, sizeOf, typeInfo, hi, hs, Instr.fill, newRow, zeroValue, hz, Value.cells, Sem.run_bind]
  rw [fill10]
theorem qt_lenC {x : Operand} {t : TypeId} {B : Nat} (hop : o.op = .call { callee := .builtin .len, args := #[x], argTypes := #[t] }) (hx : evo e x = some (.slice (some ⟨B, 0, none⟩) 2 2)) (ht : Try.prog.underlying t = some (.slice (Try.prog.elem t))) : QV w0 is o e (.int .i64 2) :=
  qt_len (n := 2) hop hx ht (fun w M => ⟨_, _, rfl⟩)
theorem qt_indexC {x y : Operand} {t : TypeId} {B : Nat} {i : Int} (p : Nat) (hop : o.op = .indexAddr t x y) (hx : evo e x = some (.slice (some ⟨B, 0, none⟩) 2 2)) (hy : evo e y = some (.int .i64 i)) (ht : Try.prog.underlying t = some (.slice 25)) (hi : i = (p : Int)) (hp : p < 2) : QV w0 is o e (.pointer (some ⟨B, p * 5, none⟩)) :=
  fun w ac M F => by
    subst hi
    have hx := F _ _ hx; have hy := F _ _ hy
    obtain ⟨ii, hi, hz, hs, hb⟩ := info_parts infoC
    have h2 : ((p : Int) < 2) := by omega
    have hel : Try.prog.elem t = 25 := by simp [Program.elem, ht]
    simp [execOp, hop, hx, hy, run_indexAt_slice _ _ _ _ _ _ _ (by rw [hel]; exact ht), hel, h2, sizeOf, typeInfo, hi, hs, Sem.run_bind, Sem.run_pure, Result.andThen_ok, run_program, Addr.add]
    intro h; exact h.symm
theorem qt_loadRP {x : Operand} {t tb : TypeId} {B j z : Nat} {cs : List Value} {td : TypeDesc} (hb : BxV w0 B tb (.agg cs.toArray)) (hop : o.op = .load t x) (hx : evo e x = some (.pointer (some ⟨B, j, none⟩))) (ht : Try.prog.underlying t = some td) (hd : td.isRow = true)
    (hs : (Try.prog.info? t).map (·.size) = some z) (hl : j + z ≤ cs.length) : QV w0 is o e (.agg ((cs.drop j).take z).toArray) :=
  fun w ac M F => by
    have hx := F _ _ hx
    have hbx := mem_bxR M hb
    have hc : w.rangeAt B j ((cs.drop j).take z) := fun i u hu => by
      refine bx_cell hbx (j + i) ?_
      rw [List.getElem?_take] at hu
      split at hu
      · rw [List.getElem?_drop] at hu; exact hu
      · cases hu
    have hlen : ((cs.drop j).take z).length = z := by simp; omega
    simp only [execOp, hop, hx, Sem.run_bind, run_loadAt_mid w B j t _ td hc ht hd (by rw [hs, hlen]), Result.andThen_ok]
    rfl
end
end Go.Proofs.Ytbfenibkbmkcaab
