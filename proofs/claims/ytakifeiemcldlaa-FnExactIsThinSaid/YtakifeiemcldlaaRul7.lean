
/- The rules of a walk in blocks of its own: rows that grow by appends; the leaders of a partition that is joined. -/
import Derived.Test.YtakifeiemcldlaaRul6
import Derived.Test.YtakifeiemcldlaaJoin
import Derived.Test.YtakifeiemcldlaaLead
import Derived.Maps.AppendAt
namespace Go.Proofs.Ytakifeiemcldlaa
open Go.RowKit
theorem star_two' {is : List Itm} {n m m' : Nat} {i j : Itm} {w : World} {S : Nat → Prop} (h : Star is w S) (hi : is[n]? = some i) (hj : (is.eraseIdx n)[m']? = some j) (hE : (is.set m trivI).eraseIdx n = (is.eraseIdx n).set m' trivI) :
    ∃ S1 S2 : Nat → Prop, (∀ k, S1 k → S k) ∧ (∀ k, S2 k → S k) ∧ (∀ k, S1 k → ¬ S2 k) ∧ i.p w S1 ∧ j.p w S2 ∧
      ∀ (w' : World) (i' : Itm), FrS S1 w w' → i'.p w' (fun k => (S1 k ∨ S2 k) ∨ w.heap.size ≤ k) → Star ((is.set m trivI).set n i') w' (fun k => S k ∨ w.heap.size ≤ k) := by
  obtain ⟨S1, R, a1, a2, a3, a4, a5⟩ := star_pick is hi h
  obtain ⟨S2, R', b1, b2, b3, b4, b5⟩ := star_pick _ hj a5
  have hn : n < is.length := (List.getElem?_eq_some_iff.1 hi).1
  have hm : m' < (is.eraseIdx n).length := (List.getElem?_eq_some_iff.1 hj).1
  refine ⟨S1, S2, a1, fun k h => a2 k (b1 k h), fun k h h' => a3 k h (b1 k h'), a4, b4, fun w' i' hf hi' => ?_⟩
  refine star_unpick _ (by simpa using hn) ?_
  rw [hE]
  refine ⟨fun k => (S1 k ∨ S2 k) ∨ w.heap.size ≤ k, fun k => R' k ∧ k < w.heap.size, fun k h => h.elim (fun h => .inl (h.elim (a1 k) fun h => a2 k (b1 k h))) .inr, fun k h => .inl (a2 k (b2 k h.1)), fun k h h' => h.elim (fun h => h.elim (fun h => a3 k h (b2 k h'.1)) (fun h => b3 k h h'.1)) (fun h => by have := h'.2; omega), hi', ?_⟩
  refine star_unpick _ hm ⟨fun _ => False, fun k => R' k ∧ k < w.heap.size, fun k h => h.elim, fun k h => h, fun k h => h.elim, trivial, ?_⟩
  exact star_keep _ (fun k hk h => ⟨h, hk⟩) (fun k hk h => hf.block k hk fun e => a3 k e (b2 k h)) b5

section
variable {w0 : World} {is : List Itm} {ops : Array Oper} {Q : Exit → Act → World → Prop} {o : Oper} {rest : List Oper} {N : Nat} {e : Env} {v : Value} {d : Nat} {K : Act → World → Prop}
theorem go_sliceR0 {t : TypeId} (hd : o.dst = some d) (hN : Nat.blt d N = true) (hop : o.op = .buildSlice t 0 #[]) (ht : Try.prog.underlying t = some (.slice 22))
    (hk : ∀ B : Nat, GK w0 (is ++ [own2U (.slice (some ⟨B, 0, none⟩) 0 0) [] []]) N K ((d, .slice (some ⟨B, 0, none⟩) 0 0) :: e)) : GO w0 is N o e Q K := by
  intro w ac M F
  have hU : Own2U (.slice (some ⟨w.heap.size, 0, none⟩) 0 0) [] [] (w.alloc (.cells #[] 22)) (fun k => w.heap.size ≤ k) := by
    refine ⟨rfl, by decide, ⟨by simp, .inr ⟨w.heap.size, 0, #[], rfl, Nat.zero_le _, heap_alloc_new w _, Nat.le_refl _, by unfold maxLen; omega, by simp, by simp⟩⟩, fun i hi => absurd hi (by simp), fun i j hij hj => absurd hj (by simp), fun q hq => ?_⟩
    simp [Value.ownBlock] at hq; omega
  refine go_val (v := .slice (some ⟨w.heap.size, 0, none⟩) 0 0) (w' := w.alloc (.cells #[] 22)) hd hN F ?_ fun ac F => hk _ _ ac (mem_new M (below_alloc w _) hU) F
  intro ρ F
  obtain ⟨i, hi, hz, hs, hb⟩ := info_parts infoS
  simp [execOp, hop, Instr.buildSlice, run_underlying ht, sizeOf, typeInfo, hi, hs, Instr.fill, newRow, zeroValue, hz, Value.cells, Sem.run_bind, range0]
/-- '[][]int64{x}': the list x becomes rows in its own place. -/
theorem go_sliceR1 {t : TypeId} {x : Operand} {m : Nat} {u : Value} {r : List Int} (hd : o.dst = some d) (hN : Nat.blt d N = true) (hop : o.op = .buildSlice t 1 #[(0, x)]) (hx : evo e x = some u) (ht : Try.prog.underlying t = some (.slice 22)) (hi : is[m]? = some (own1I u r))
    (hk : ∀ B : Nat, GK w0 (is.set m (own2U (.slice (some ⟨B, 0, none⟩) 1 1) [u] [r])) N K ((d, .slice (some ⟨B, 0, none⟩) 1 1) :: e)) : GO w0 is N o e Q K := by
  intro w ac M F
  obtain ⟨S, hS, hp, hset⟩ := mem_set M hi
  have hp' : Own1 u r w S := hp
  obtain ⟨ua, uc, rfl⟩ := rd_form hp'.rd
  have hU : Own2U (.slice (some ⟨w.heap.size, 0, none⟩) 1 1) [.slice ua r.length uc] [r] (w.alloc (.cells #[.slice ua r.length uc] 22)) (fun k => S k ∨ w.heap.size ≤ k) := by
    refine ⟨rfl, by simp, ⟨by simp, .inr ⟨w.heap.size, 1, #[.slice ua r.length uc], rfl, Nat.zero_le _, heap_alloc_new w _, Nat.le_refl _, by unfold maxLen; omega, by simp, by simp⟩⟩, fun i hi => ?_, fun i j hij hj => by simp at hj; omega, fun q hq => ?_⟩
    · obtain rfl : i = 0 := by simpa using hi
      refine ⟨sl_alloc hp'.1 _, fun q hq hv => ?_, fun q hq => .inl (hp'.2 q hq)⟩
      have := (hp'.1.1.lt q hq).2
      simp only [Value.ownBlock, Option.some.injEq] at hv
      omega
    · simp only [Value.ownBlock, Option.some.injEq] at hq; exact .inr (by omega)
  refine go_val (v := .slice (some ⟨w.heap.size, 0, none⟩) 1 1) (w' := w.alloc (.cells #[.slice ua r.length uc] 22)) hd hN F ?_ fun ac F => hk _ _ ac (hset _ _ (frS_new (below_alloc w _)) hU) F
  intro ρ F; have hx := F _ _ hx
  obtain ⟨i, hi, hz, hs, hb⟩ := info_parts infoS
  simp [execOp, hop, hx, Instr.buildSlice, run_underlying ht, sizeOf, typeInfo, hi, hs, Instr.fill, newRow, zeroValue, hz, Value.cells, Sem.run_bind, range1]
/-- 'append(s, x)', s rows, x one row, both of the call's own. -/
theorem go_appendRow {s x : Operand} {t : TypeId} {n m m' : Nat} {us : List Value} {rows : List (List Int)} {r : List Int} {u ru : Value} (hd : o.dst = some d) (hN : Nat.blt d N = true) (hop : o.op = .call { callee := .builtin .append, args := #[s, x], argTypes := #[t, t] }) (ht : Try.prog.underlying t = some (.slice 22))
    (hs : evo e s = some v) (hx : evo e x = some u) (hi : is[n]? = some (own2U v us rows)) (hj : (is.eraseIdx n)[m']? = some (own2U u [ru] [r])) (hE : (is.set m trivI).eraseIdx n = (is.eraseIdx n).set m' trivI) (hn : rows.length + 1 ≤ 5000000000000)
    (hk : ∀ a cap, GK w0 ((is.set m trivI).set n (own2U (.slice a (rows ++ [r]).length cap) (us ++ [ru]) (rows ++ [r]))) N K ((d, .slice a (rows ++ [r]).length cap) :: e)) : GO w0 is N o e Q K := by
  intro w ac M F
  obtain ⟨S1, S2, k1, k2, kd, hp, hq, hset⟩ := star_two' M.2 hi hj hE
  have hp' : Own2U v us rows w S1 := hp
  have hq' : Own2U u [ru] [r] w S2 := hq
  obtain ⟨i, hi', hz, hs1, hb⟩ := info_parts infoS
  obtain ⟨hul, hl2, hown, hrows, hpair, hvS⟩ := hp'
  have hr2 := hq'.2.2.2.1 0 (by simp)
  simp only [List.getD_cons_zero] at hr2
  have hown2 := hq'.2.2.1
  obtain ⟨ra, rc, hru, _⟩ := sl_form hr2.1
  rcases hown2.2 with ⟨_, h⟩ | ⟨g2, c2, cur2, rfl, _⟩
  · simp at h
  obtain ⟨v', w', hr, hown', hgrow, _, hat⟩ := run_append_own_at (P := Try.prog) w 0 t o.type 22 i (.slice none 0 0) 1 24 ht hi' hz hs1 hb rfl (by decide) v rows.length us hown ⟨g2, 0, none⟩ 1 c2 [ru] rfl (fun j z hz => by
    have hj0 : j < [ru].length := by
      rcases Nat.lt_or_ge j [ru].length with h | h
      · exact h
      · rw [List.getElem?_eq_none h] at hz; cases hz
    rw [Addr.add_lit, Nat.zero_add, hown2.cellAt j (by simpa using hj0)]; exact hz) (by rw [hru]; simp [Value.oneCell']) (by unfold maxLen; omega) (by omega) (Nat.zero_le _)
  have hvlt : ∀ q, v.ownBlock = some q → q < w.heap.size := fun q hq => (hown.lt q hq).2
  have hk1 : ∀ q, v'.ownBlock = some q → S1 q ∨ w.heap.size ≤ q := fun q hq => by
    rcases hat with h | h
    · exact .inl (hvS q (by rw [← h]; exact hq))
    · rw [h] at hq; simp only [Option.some.injEq] at hq; exact .inr (by omega)
  have hneR : ru.ownBlock = none ∨ ru.ownBlock ≠ v.ownBlock := by
    cases hb0 : ru.ownBlock with
    | none => exact .inl rfl
    | some q => exact .inr fun e => kd q (hvS q e.symm) (hr2.2.2 q hb0)
  have hfin : Own2U v' (us ++ [ru]) (rows ++ [r]) w' (fun k => (S1 k ∨ S2 k) ∨ w.heap.size ≤ k) := by
    refine ⟨by simp [hul], by simpa using hn, by simpa using hown', fun i hi => ?_, fun i j hij hj => ?_, fun q hq => (hk1 q hq).imp .inl id⟩
    · simp only [List.length_append, List.length_singleton] at hi
      rcases Nat.lt_or_ge i rows.length with h | h
      · rw [show (us ++ [ru]).getD i undef = us.getD i undef from by rw [List.getD_eq_getElem?_getD, List.getD_eq_getElem?_getD, List.getElem?_append_left (by omega)], show (rows ++ [r]).getD i [] = rows.getD i [] from by rw [List.getD_eq_getElem?_getD, List.getD_eq_getElem?_getD, List.getElem?_append_left h]]
        obtain ⟨h1, h2, h3⟩ := hrows i h
        refine ⟨sl_kept h1 hgrow (apart_ne h2), fun q hq hv => ?_, fun q hq => .inl (.inl (h3 q hq))⟩
        rcases hat with ha | ha
        · exact h2 q hq (by rw [← ha]; exact hv)
        · rw [ha] at hv; simp only [Option.some.injEq] at hv; have := (h1.1.lt q hq).2; omega
      · obtain rfl : i = rows.length := by omega
        rw [show (us ++ [ru]).getD rows.length undef = ru from by rw [List.getD_eq_getElem?_getD, List.getElem?_append_right (by omega)]; simp [hul], show (rows ++ [r]).getD rows.length [] = r from by rw [List.getD_eq_getElem?_getD, List.getElem?_append_right (by omega)]; simp]
        refine ⟨sl_kept hr2.1 hgrow hneR, fun q hq hv => ?_, fun q hq => .inl (.inr (hr2.2.2 q hq))⟩
        rcases hk1 q hv with h | h
        · exact kd q h (hr2.2.2 q hq)
        · have := (hr2.1.1.lt q hq).2; omega
    · simp only [List.length_append, List.length_singleton] at hj
      rw [show (us ++ [ru]).getD i undef = us.getD i undef from by rw [List.getD_eq_getElem?_getD, List.getD_eq_getElem?_getD, List.getElem?_append_left (by omega)]]
      rcases Nat.lt_or_ge j rows.length with h | h
      · rw [show (us ++ [ru]).getD j undef = us.getD j undef from by rw [List.getD_eq_getElem?_getD, List.getD_eq_getElem?_getD, List.getElem?_append_left (by omega)]]
        exact hpair i j hij h
      · obtain rfl : j = rows.length := by omega
        rw [show (us ++ [ru]).getD rows.length undef = ru from by rw [List.getD_eq_getElem?_getD, List.getElem?_append_right (by omega)]; simp [hul]]
        exact fun q hq hv => kd q ((hrows i hij).2.2 q hq) (hr2.2.2 q hv)
  obtain ⟨va, vc, rfl⟩ := rd2_form (Own2.rd (S := fun k => (S1 k ∨ S2 k) ∨ w.heap.size ≤ k) ⟨_, hfin⟩)
  have hf : FrS S1 w w' := frS_grown hgrow hvS
  refine go_val (v := .slice va (rows ++ [r]).length vc) (w' := w') hd hN F ?_ fun ac F => hk va vc w' ac ⟨below_frS M.1 hf (Nat.le_refl _) k1, star_keep _ (fun k _ hk => hk.elim id fun h => Nat.le_trans M.1.size h) agree_refl (hset w' (own2U (.slice va (rows ++ [r]).length vc) (us ++ [ru]) (rows ++ [r])) hf hfin)⟩ F
  intro ρ F; have hs := F _ _ hs; have hx := F _ _ hx
  simp only [execOp, hop, resolve, invoke, builtin, Sem.run_bind, Sem.run_pure, Result.andThen_ok, List.map_toArray, List.map_cons, List.map_nil, hs, hx]
  simp only [List.length_singleton] at hr ⊢
  rw [hr]
  rfl

/-! ### Leaders -/
theorem lead_loc (v : Value) (R : List Int) : Loc (fun w S => ∃ l, Own1 v l w S ∧ InvL l ∧ Rts l = R) where
  keep hs ha h := by
    obtain ⟨l, h1, h2⟩ := h
    exact ⟨l, (own1_loc v l).keep hs ha h1, h2⟩
def leadI (v : Value) (R : List Int) : Itm := ⟨_, lead_loc v R⟩
variable {f : FuncId} {fn : Func} {ags : Array Operand} {ts : Array TypeId} {vs : List Value}
end
end Go.Proofs.Ytakifeiemcldlaa
