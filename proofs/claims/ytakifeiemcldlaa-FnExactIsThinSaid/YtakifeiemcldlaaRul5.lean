
/- The rules of a walk in blocks of its own: lists and rows that are made whole and filled. -/
import Derived.Test.YtakifeiemcldlaaRul4
namespace Go.Proofs.Ytakifeiemcldlaa
open Go.RowKit
theorem triv_loc : Loc (fun (_ : World) (_ : Nat → Prop) => True) where
  keep _ _ _ := trivial
/-- Nothing: the place of a thing that has become a part of another. -/
def trivI : Itm := ⟨_, triv_loc⟩
theorem star_unpick : ∀ (is : List Itm) {n : Nat} {i : Itm} {w : World} {S : Nat → Prop}, n < is.length → Star (i :: is.eraseIdx n) w S → Star (is.set n i) w S
  | [], n, i, _, _, h, _ => by simp at h
  | j :: is, 0, i, w, S, h, hs => hs
  | j :: is, n + 1, i, w, S, h, hs => by
    obtain ⟨S1, S2, k1, k2, hd, h1, T1, T2, t1, t2, td, a1, a2⟩ := hs
    refine ⟨T1, fun k => S1 k ∨ T2 k, fun k h => k2 k (t1 k h), fun k h => h.elim (k1 k) fun h => k2 k (t2 k h), fun k a b => b.elim (fun b => hd k b (t1 k a)) (td k a), a1, ?_⟩
    exact star_unpick is (by simpa using h) ⟨S1, T2, fun k h => .inl h, fun k h => .inr h, fun k a b => hd k a (t2 k b), h1, a2⟩
theorem star_two {is : List Itm} {n m m' : Nat} {i j : Itm} {w : World} {S : Nat → Prop} (h : Star is w S) (hi : is[n]? = some i) (hj : (is.eraseIdx n)[m']? = some j) (hE : (is.set m trivI).eraseIdx n = (is.eraseIdx n).set m' trivI) :
    ∃ S1 S2 : Nat → Prop, (∀ k, S1 k → S k) ∧ (∀ k, S2 k → S k) ∧ (∀ k, S1 k → ¬ S2 k) ∧ i.p w S1 ∧ j.p w S2 ∧
      ∀ (w' : World) (i' : Itm), FrS S1 w w' → i'.p w' (fun k => S1 k ∨ S2 k) → Star ((is.set m trivI).set n i') w' S := by
  obtain ⟨S1, R, a1, a2, a3, a4, a5⟩ := star_pick is hi h
  obtain ⟨S2, R', b1, b2, b3, b4, b5⟩ := star_pick _ hj a5
  have hn : n < is.length := (List.getElem?_eq_some_iff.1 hi).1
  have hm : m' < (is.eraseIdx n).length := (List.getElem?_eq_some_iff.1 hj).1
  refine ⟨S1, S2, a1, fun k h => a2 k (b1 k h), fun k h h' => a3 k h (b1 k h'), a4, b4, fun w' i' hf hi' => ?_⟩
  refine star_unpick _ (by simpa using hn) ?_
  rw [hE]
  refine ⟨fun k => S1 k ∨ S2 k, fun k => R' k ∧ k < w.heap.size, fun k h => h.elim (a1 k) fun h => a2 k (b1 k h), fun k h => a2 k (b2 k h.1), fun k h h' => h.elim (fun h => a3 k h (b2 k h'.1)) (fun h => b3 k h h'.1), hi', ?_⟩
  refine star_unpick _ hm ⟨fun _ => False, fun k => R' k ∧ k < w.heap.size, fun k h => h.elim, fun k h => h, fun k h => h.elim, trivial, ?_⟩
  exact star_keep _ (fun k hk h => ⟨h, hk⟩) (fun k hk h => hf.block k hk fun e => a3 k e (b2 k h)) b5

theorem own2U_store {w : World} {S1 S2 : Nat → Prop} {g n cap k : Nat} {us : List Value} {rows : List (List Int)} {r : List Int} {u : Value} (h : Own2U (.slice (some ⟨g, 0, none⟩) n cap) us rows w S1) (hk : k < rows.length)
    (hu : Own1 u r w S2) (hd : ∀ q, S1 q → ¬ S2 q) : Own2U (.slice (some ⟨g, 0, none⟩) n cap) (us.set k u) (rows.set k r) (w.setCell ⟨g, k, none⟩ u) (fun q => S1 q ∨ S2 q) ∧ FrS S1 w (w.setCell ⟨g, k, none⟩ u) := by
  obtain ⟨h1, h2, h3, h4, h5, h6⟩ := h
  have hgS : S1 g := h6 g rfl
  have hn : n = rows.length := by
    rcases h3.2 with ⟨hv, _⟩ | ⟨g', cap', cur, hv, _⟩
    · simp at hv
    · simp only [Value.slice.injEq] at hv
      exact hv.2.1
  subst hn
  have hst := h3.stored k u
  have hgr := hst.2
  have hne : ∀ v : Value, (∀ q, v.ownBlock = some q → q ≠ g) → v.ownBlock = none ∨ v.ownBlock ≠ some g := fun v hv => by
    cases hb0 : v.ownBlock with
    | none => exact .inl rfl
    | some q => exact .inr fun e => hv q hb0 (by simpa using e)
  have hu0 : Sl (w.setCell ⟨g, k, none⟩ u) 0 u r := sl_kept hu.1 hgr (hne u fun q hq e => hd g hgS (by rw [← e]; exact hu.2 q hq))
  refine ⟨⟨by simp [h1], by simpa using h2, by simpa using hst.1, fun i hi => ?_, fun i j hij hj => ?_, fun q hq => .inl (h6 q hq)⟩, ⟨hgr.os, hgr.tape, hgr.output, hgr.size, fun q hq hs => hgr.block q hq fun e => hs (by rw [Option.some.inj e]; exact hgS)⟩⟩
  · simp only [List.length_set] at hi
    rw [getD_set2 us k u undef i (by omega), getD_set2 rows k r [] i (by omega)]
    by_cases hik : i = k
    · rw [if_pos hik, if_pos hik]
      exact ⟨hu0, fun q hq hv => by
        simp only [Value.ownBlock, Option.some.injEq] at hv
        exact hd g hgS (by rw [hv]; exact hu.2 q hq), fun q hq => .inr (hu.2 q hq)⟩
    · rw [if_neg hik, if_neg hik]
      exact ⟨sl_kept (h4 i hi).1 hgr (hne _ fun q hq e => (h4 i hi).2.1 q hq (by simp [Value.ownBlock, e])), (h4 i hi).2.1, fun q hq => .inl ((h4 i hi).2.2 q hq)⟩
  · simp only [List.length_set] at hj
    rw [getD_set2 us k u undef i (by omega), getD_set2 us k u undef j (by omega)]
    by_cases hik : i = k
    · rw [if_pos hik, if_neg (by omega)]
      exact fun q hq hq2 => hd q ((h4 j hj).2.2 q hq2) (hu.2 q hq)
    · rw [if_neg hik]
      by_cases hjk : j = k
      · rw [if_pos hjk]
        exact fun q hq hq2 => hd q ((h4 i (by omega)).2.2 q hq) (hu.2 q hq2)
      · rw [if_neg hjk]
        exact h5 i j hij hj

theorem all_next0 {p : Nat → Prop} {k : Nat} (h : ∀ j, j < k → p j) (hk : p k) : ∀ j, j < k + 1 → p j := fun j hj => by
  rcases Nat.lt_or_ge j k with h1 | h1
  · exact h j h1
  · rw [show j = k from by omega]; exact hk
section
variable {w0 : World} {is : List Itm} {ops : Array Oper} {Q : Exit → Act → World → Prop} {o : Oper} {rest : List Oper} {N : Nat} {e : Env} {v : Value} {d : Nat} {K : Act → World → Prop}
theorem run_store1 {t : TypeId} {a : Addr} {w : World} {u old : Value} (hs : (Try.prog.info? t).map (·.size) = some 1) (h1 : u.oneCell' = true) (h2 : u.cells = #[u]) (hc : w.cell? a = some old) (hf : w.frozen? a = false) :
    (Instr.storeAt t (.pointer (some a)) u).run Try.prog w = .ok () (w.setCell a u) := by
  obtain ⟨inf, hi2, hz⟩ := Option.map_eq_some_iff.1 hs
  have hadd : a.add 0 = a := by simp [Addr.add]
  simp [Instr.storeAt, Instr.sureAddr, storeVar, sizeOf, typeInfo, hi2, hz, h2, storeCells, hadd, run_store _ _ _ _ _ h1, hc, hf]
theorem go_make1 {x y : Operand} {t : TypeId} {n : Nat} (hd : o.dst = some d) (hN : Nat.blt d N = true) (hop : o.op = .makeSlice t x y) (ht : Try.prog.underlying t = some (.slice 2)) (hx : evo e x = some (.int .i64 (n : Int))) (hy : evo e y = some (.int .i64 (n : Int))) (hn : n ≤ 17592186044415)
    (hk : ∀ B : Nat, GK w0 (is ++ [own1I (.slice (some ⟨B, 0, none⟩) n n) (List.replicate n 0)]) N K ((d, .slice (some ⟨B, 0, none⟩) n n) :: e)) : GO w0 is N o e Q K := by
  intro w ac M F
  obtain ⟨i, hi, hz, hs, hb⟩ := info_parts info64
  obtain ⟨w', hr, hown, hgrow⟩ := run_make_full (P := Try.prog) w w.heap.size t 2 i (.int .i64 0) 1 ht hi hz hs .i64 .i64 n (by rw [hb]; omega) (by unfold maxLen; omega) (Nat.le_refl _)
  have hs' : Sl w' w.heap.size (.slice (some ⟨w.heap.size, 0, none⟩) n n) (List.replicate n 0) := by
    refine ⟨?_, by simpa using hn⟩
    simp only [Value.cells, Nat.mul_one] at hown
    rw [madeOne] at hown
    simpa using hown
  refine go_val (v := .slice (some ⟨w.heap.size, 0, none⟩) n n) (w' := w') hd hN F ?_ fun ac F => hk w.heap.size w' ac (mem_new M ((Below.refl _ _).grown hgrow (Nat.le_refl _) (by simp)) (own1_of hs')) F
  intro ρ F; have hx := F _ _ hx; have hy := F _ _ hy
  simp only [execOp, hop, hx, hy, Sem.run_bind, hr, Result.andThen_ok]
  rfl
theorem go_make2 {x y : Operand} {t : TypeId} {n : Nat} (hd : o.dst = some d) (hN : Nat.blt d N = true) (hop : o.op = .makeSlice t x y) (ht : Try.prog.underlying t = some (.slice 22)) (hx : evo e x = some (.int .i64 (n : Int))) (hy : evo e y = some (.int .i64 (n : Int))) (hn : n ≤ 5000000000000)
    (hk : ∀ B : Nat, GK w0 (is ++ [own2U (.slice (some ⟨B, 0, none⟩) n n) (List.replicate n (.slice none 0 0)) (List.replicate n [])]) N K ((d, .slice (some ⟨B, 0, none⟩) n n) :: e)) : GO w0 is N o e Q K := by
  intro w ac M F
  obtain ⟨i, hi, hz, hs, hb⟩ := info_parts infoS
  obtain ⟨w', hr, hown, hgrow⟩ := run_make_full (P := Try.prog) w w.heap.size t 22 i (.slice none 0 0) 1 ht hi hz hs .i64 .i64 n (by rw [hb]; omega) (by unfold maxLen; omega) (Nat.le_refl _)
  have hone : (madeCells #[Value.slice none 0 0] n).toList = List.replicate n (.slice none 0 0) := by rw [toList_madeCells_one]
  have hown' : w'.ownsRow w.heap.size 22 1 (.slice (some ⟨w.heap.size, 0, none⟩) n n) n (List.replicate n (.slice none 0 0)) := by
    simp only [Value.cells, Nat.mul_one] at hown
    rw [hone] at hown
    exact hown
  have hU : Own2U (.slice (some ⟨w.heap.size, 0, none⟩) n n) (List.replicate n (.slice none 0 0)) (List.replicate n []) w' (fun k => w.heap.size ≤ k) := by
    refine ⟨by simp, by simpa using hn, by simpa using own_base hown', fun j hj => ?_, fun j k hjk hk => ?_, fun q hq => by simp [Value.ownBlock] at hq; omega⟩
    · have hj' : j < n := by simpa using hj
      have e1 : (List.replicate n (Value.slice none 0 0)).getD j undef = .slice none 0 0 := by simp [List.getD_eq_getElem?_getD, hj']
      have e2 : (List.replicate n ([] : List Int)).getD j [] = [] := by simp [List.getD_eq_getElem?_getD, hj']
      rw [e1, e2]
      exact ⟨Sl.nil _ _, fun g hg => by simp [Value.ownBlock] at hg, fun q hq => by simp [Value.ownBlock] at hq⟩
    · have hk' : k < n := by simpa using hk
      have e1 : (List.replicate n (Value.slice none 0 0)).getD j undef = .slice none 0 0 := by simp [List.getD_eq_getElem?_getD, show j < n by omega]
      rw [e1]
      exact fun g hg => by simp [Value.ownBlock] at hg
  refine go_val (v := .slice (some ⟨w.heap.size, 0, none⟩) n n) (w' := w') hd hN F ?_ fun ac F => hk w.heap.size w' ac (mem_new M ((Below.refl _ _).grown hgrow (Nat.le_refl _) (by simp)) hU) F
  intro ρ F; have hx := F _ _ hx; have hy := F _ _ hy
  simp only [execOp, hop, hx, hy, Sem.run_bind, hr, Result.andThen_ok]
  rfl
/-- A row is put into its place: the list of the row is now a part of the rows. -/
theorem go_storeRow {t : TypeId} {x y : Operand} {n m m' : Nat} {us : List Value} {rows : List (List Int)} {r : List Int} {u : Value} {i : Int} (hd : o.dst = none) (hop : o.op = .store t x y) (hx : evo e x = some (eltP v i)) (hy : evo e y = some u)
    (hs : (Try.prog.info? t).map (·.size) = some 1) (hi : is[n]? = some (own2U v us rows)) (hj : (is.eraseIdx n)[m']? = some (own1I u r)) (hE : (is.set m trivI).eraseIdx n = (is.eraseIdx n).set m' trivI) (h0 : 0 ≤ i) (h1 : i < rows.length)
    (hk : GK w0 ((is.set m trivI).set n (own2U v (us.set i.toNat u) (rows.set i.toNat r))) N K e) : GO w0 is N o e Q K := by
  intro w ac M F
  obtain ⟨S1, S2, k1, k2, kd, hp, hq, hset⟩ := star_two M.2 hi hj hE
  have hp' : Own2U v us rows w S1 := hp
  have hq' : Own1 u r w S2 := hq
  obtain ⟨ua, uc, rfl⟩ := rd_form hq'.rd
  have hform := hp'.2.2.1.2
  rcases hform with ⟨_, hn⟩ | ⟨g, cap, cur, rfl, _, hg, hnc, hcm, hcs, htk⟩
  · omega
  · obtain ⟨hnew, hfr⟩ := own2U_store hp' (k := i.toNat) (by omega) hq' kd
    have hlt : i.toNat < cur.size := by rw [hcs]; omega
    have hcell : w.cell? ⟨g, i.toNat, none⟩ = some cur[i.toNat] := by rw [cell_of_row w g _ cur _ (0, 0) hg]; simp [hlt]
    have hfz : w.frozen? ⟨g, i.toNat, none⟩ = false := frozen_of_row w g _ _ _ hg
    refine go_skip (w' := w.setCell ⟨g, i.toNat, none⟩ (.slice ua r.length uc)) hd F ?_ fun ac F => hk _ ac ⟨below_frS M.1 hfr (Nat.le_refl _) k1, hset _ _ hfr hnew⟩ F
    intro ρ F; have hx := F _ _ hx; have hy := F _ _ hy
    have he : eltP (.slice (some ⟨g, 0, none⟩) rows.length cap) i = .pointer (some ⟨g, i.toNat, none⟩) := by simp [eltP]
    simp [execOp, hop, hx, hy, he, run_store1 hs (u := .slice ua r.length uc) rfl rfl hcell hfz]
/-- A number is put into its place. -/
theorem go_store1 {t : TypeId} {x y : Operand} {n : Nat} {xs : List Int} {z i : Int} (hd : o.dst = none) (hop : o.op = .store t x y) (hx : evo e x = some (eltP v i)) (hy : evo e y = some (.int .i64 z))
    (hs : (Try.prog.info? t).map (·.size) = some 1) (hi : is[n]? = some (own1I v xs)) (h0 : 0 ≤ i) (h1 : i < xs.length)
    (hk : GK w0 (is.set n (own1I v (xs.set i.toNat z))) N K e) : GO w0 is N o e Q K := by
  intro w ac M F
  obtain ⟨S, hS, hp, hset⟩ := mem_set M hi
  have hp' : Own1 v xs w S := hp
  obtain ⟨a, cap, rfl, hf⟩ := sl_form hp'.1
  obtain ⟨g, rfl⟩ := hf i.toNat (by omega)
  have hcell := sl_cell hp'.1 (j := i.toNat) (by omega)
  have hfz := sl_frozen hp'.1 i.toNat
  have hst := sl_set hp'.1 i.toNat z
  refine go_skip (w' := w.setCell ⟨g, i.toNat, none⟩ (.int .i64 z)) hd F ?_ fun ac F => hk _ ac (hset _ _ ⟨hst.2.os, hst.2.tape, hst.2.output, hst.2.size, fun q hq hs => hst.2.block q hq fun e => hs (by rw [Option.some.inj e]; exact hp'.2 g rfl)⟩ ⟨hst.1, fun q hq => .inl (hp'.2 q hq)⟩) F
  intro ρ F; have hx := F _ _ hx; have hy := F _ _ hy
  have he : eltP (.slice (some ⟨g, 0, none⟩) xs.length cap) i = .pointer (some ⟨g, i.toNat, none⟩) := by simp [eltP]
  simp [execOp, hop, hx, hy, he, run_store1 hs (u := .int .i64 z) rfl rfl hcell hfz]
end
end Go.Proofs.Ytakifeiemcldlaa
