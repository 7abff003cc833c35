
/- The rules of a walk in blocks of its own: rows that grow by appends; the leaders of a partition that is joined. | The rules of a walk in blocks of its own: lists of truth values. | The rules of a walk in blocks of its own: a set of pairs, kept as a map of truths. -/
import Derived.Test.YtgkfampgofjkfaaRul4
import Derived.Test.YtgkfampgofjkfaaJoin
import Derived.Test.YtgkfampgofjkfaaForest
import Derived.Maps.AppendAt
import Derived.WideKeyRuns
set_option linter.unusedSimpArgs false
set_option linter.unusedVariables false
set_option linter.unusedSectionVars false
namespace Go.Proofs.Ytgkfampgofjkfaa
open Go.RowKit
theorem star_two' {is : List Itm} {n m m' : Nat} {i j : Itm} {w : World} {S : Nat → Prop} (h : Star is w S) (hi : is[n]? = some i) (hj : (is.eraseIdx n)[m']? = some j) (hE : (is.set m trivI).eraseIdx n = (is.eraseIdx n).set m' trivI) :
    ∃ S1 S2 : Nat → Prop, (∀ k, S1 k → S k) ∧ (∀ k, S2 k → S k) ∧ (∀ k, S1 k → ¬ S2 k) ∧ i.p w S1 ∧ j.p w S2 ∧
      ∀ (w' : World) (i' : Itm), FrS S1 w w' → i'.p w' (fun k => (S1 k ∨ S2 k) ∨ w.heap.size ≤ k) → Star ((is.set m trivI).set n i') w' (fun k => S k ∨ w.heap.size ≤ k) := by
  obtain ⟨S1, R, a1, a2, a3, a4, a5⟩ := star_pick is hi h
  obtain ⟨S2, R', b1, b2, b3, b4, b5⟩ := star_pick _ hj a5
  have hn : n < is.length := (List.getElem?_eq_some_iff.1 hi).1
  have hm : m' < (is.eraseIdx n).length := (List.getElem?_eq_some_iff.1 hj).1
  refine ⟨S1, S2, a1, fun k h => a2 k (b1 k h), fun k h h' => a3 k h (b1 k h'), a4, b4, fun w' i' hf hi' => ?_⟩
  refine star_unpick _ (by simpa using hn) ?_
  rw [hE]
  refine ⟨fun k => (S1 k ∨ S2 k) ∨ w.heap.size ≤ k, fun k => R' k ∧ k < w.heap.size, fun k h => h.elim (fun h => .inl (h.elim (a1 k) fun h => a2 k (b1 k h))) .inr, fun k h => .inl (a2 k (b2 k h.1)), fun k h h' => h.elim (fun h => h.elim (fun h => a3 k h (b2 k h'.1)) (fun h => b3 k h h'.1)) (fun h => by have := h'.2; omega), hi', ?_⟩
  refine star_unpick _ hm ⟨fun _ => False, fun k => R' k ∧ k < w.heap.size, fun k h => h.elim, fun k h => h, fun k h => h.elim, trivial, ?_⟩
  exact star_keep _ (fun k hk h => ⟨h, hk⟩) (fun k hk h => hf.block k hk fun e => a3 k e (b2 k h)) b5

section
variable {w0 : World} {is : List Itm} {ops : Array Oper} {Q : Exit → Act → World → Prop} {o : Oper} {rest : List Oper} {N : Frm} {e : Env} {v : Value} {d : Nat} {K : Act → World → Prop}
theorem go_sliceR0 {t : TypeId} (hd : o.dst = some d) (hN : Nat.blt d N = true) (hop : o.op = .buildSlice t 0 #[]) (ht : Try.prog.underlying t = some (.slice 22))
    (hk : ∀ B : Nat, GK w0 (is ++ [own2U (.slice (some ⟨B, 0, none⟩) 0 0) [] []]) N K ((d, .slice (some ⟨B, 0, none⟩) 0 0) :: e)) : GO w0 is N o e Q K := by
  intro w ac M F
  have hU : Own2U (.slice (some ⟨w.heap.size, 0, none⟩) 0 0) [] [] (w.alloc (.cells #[] 22)) (fun k => w.heap.size ≤ k) := by
    refine ⟨rfl, by decide, ⟨by simp, .inr ⟨w.heap.size, 0, #[], rfl, Nat.zero_le _, heap_alloc_new w _, Nat.le_refl _, by unfold maxLen; omega, by simp, by simp⟩⟩, fun i hi => absurd hi (by simp), fun i j hij hj => absurd hj (by simp), fun q hq => ?_⟩
    simp [Value.ownBlock] at hq; omega
  refine go_val (v := .slice (some ⟨w.heap.size, 0, none⟩) 0 0) (w' := w.alloc (.cells #[] 22)) hd hN F ?_ fun ac F => hk _ _ ac (mem_new M (below_alloc w _) hU) F
  intro ρ F
  obtain ⟨i, hi, hz, hs, hb⟩ := info_parts infoS
  simp [execOp, hop, Instr.buildSlice, run_underlying ht, sizeOf, typeInfo, hi, hs, Instr.fill, newRow, zeroValue, hz, Value.cells, Sem.run_bind, range0]
/-- '[][]int64{x}': the list x becomes rows in its own place. -/
theorem go_sliceR1 {t : TypeId} {x : Operand} {m : Nat} {u : Value} {r : List Int} (hd : o.dst = some d) (hN : Nat.blt d N = true) (hop : o.op = .buildSlice t 1 #[(0, x)]) (hx : evo e x = some u) (ht : Try.prog.underlying t = some (.slice 22)) (hi : is[m]? = some (own1I u r))
    (hk : ∀ B : Nat, GK w0 (is.set m (own2U (.slice (some ⟨B, 0, none⟩) 1 1) [u] [r])) N K ((d, .slice (some ⟨B, 0, none⟩) 1 1) :: e)) : GO w0 is N o e Q K := by
  intro w ac M F
  obtain ⟨S, hS, hp, hset⟩ := mem_set M hi
  have hp' : Own1 u r w S := hp
  obtain ⟨ua, uc, rfl⟩ := rd_form hp'.rd
  have hU : Own2U (.slice (some ⟨w.heap.size, 0, none⟩) 1 1) [.slice ua r.length uc] [r] (w.alloc (.cells #[.slice ua r.length uc] 22)) (fun k => S k ∨ w.heap.size ≤ k) := by
    refine ⟨rfl, by simp, ⟨by simp, .inr ⟨w.heap.size, 1, #[.slice ua r.length uc], rfl, Nat.zero_le _, heap_alloc_new w _, Nat.le_refl _, by unfold maxLen; omega, by simp, by simp⟩⟩, fun i hi => ?_, fun i j hij hj => by simp at hj; omega, fun q hq => ?_⟩
    · obtain rfl : i = 0 := by simpa using hi
      refine ⟨sl_alloc hp'.1 _, fun q hq hv => ?_, fun q hq => .inl (hp'.2 q hq)⟩
      have := (hp'.1.1.lt q hq).2
      simp only [Value.ownBlock, Option.some.injEq] at hv
      omega
    · simp only [Value.ownBlock, Option.some.injEq] at hq; exact .inr (by omega)
  refine go_val (v := .slice (some ⟨w.heap.size, 0, none⟩) 1 1) (w' := w.alloc (.cells #[.slice ua r.length uc] 22)) hd hN F ?_ fun ac F => hk _ _ ac (hset _ _ (frS_new (below_alloc w _)) hU) F
  intro ρ F; have hx := F _ _ hx
  obtain ⟨i, hi, hz, hs, hb⟩ := info_parts infoS
  simp [execOp, hop, hx, Instr.buildSlice, run_underlying ht, sizeOf, typeInfo, hi, hs, Instr.fill, newRow, zeroValue, hz, Value.cells, Sem.run_bind, range1]
/-- 'append(s, x)', s rows, x one row, both of the call's own. -/
theorem go_appendRow {s x : Operand} {t : TypeId} {n m m' : Nat} {us : List Value} {rows : List (List Int)} {r : List Int} {u ru : Value} (hd : o.dst = some d) (hN : Nat.blt d N = true) (hop : o.op = .call { callee := .builtin .append, args := #[s, x], argTypes := #[t, t] }) (ht : Try.prog.underlying t = some (.slice 22))
    (hs : evo e s = some v) (hx : evo e x = some u) (hi : is[n]? = some (own2U v us rows)) (hj : (is.eraseIdx n)[m']? = some (own2U u [ru] [r])) (hE : (is.set m trivI).eraseIdx n = (is.eraseIdx n).set m' trivI) (hn : rows.length + 1 ≤ 5000000000000)
    (hk : ∀ a cap, GK w0 ((is.set m trivI).set n (own2U (.slice a (rows ++ [r]).length cap) (us ++ [ru]) (rows ++ [r]))) N K ((d, .slice a (rows ++ [r]).length cap) :: e)) : GO w0 is N o e Q K := by
  intro w ac M F
  obtain ⟨S1, S2, k1, k2, kd, hp, hq, hset⟩ := star_two' M.2 hi hj hE
  have hp' : Own2U v us rows w S1 := hp
  have hq' : Own2U u [ru] [r] w S2 := hq
  obtain ⟨i, hi', hz, hs1, hb⟩ := info_parts infoS
  obtain ⟨hul, hl2, hown, hrows, hpair, hvS⟩ := hp'
  have hr2 := hq'.2.2.2.1 0 (by simp)
  simp only [List.getD_cons_zero] at hr2
  have hown2 := hq'.2.2.1
  obtain ⟨ra, rc, hru, _⟩ := sl_form hr2.1
  rcases hown2.2 with ⟨_, h⟩ | ⟨g2, c2, cur2, rfl, _⟩
  · simp at h
  obtain ⟨v', w', hr, hown', hgrow, _, hat⟩ := run_append_own_at (P := Try.prog) w 0 t o.type 22 i (.slice none 0 0) 1 24 ht hi' hz hs1 hb rfl (by decide) v rows.length us hown ⟨g2, 0, none⟩ 1 c2 [ru] rfl (fun j z hz => by
    have hj0 : j < [ru].length := by
      rcases Nat.lt_or_ge j [ru].length with h | h
      · exact h
      · rw [List.getElem?_eq_none h] at hz; cases hz
    rw [Addr.add_lit, Nat.zero_add, hown2.cellAt j (by simpa using hj0)]; exact hz) (by rw [hru]; simp [Value.oneCell']) (by unfold maxLen; omega) (by omega) (Nat.zero_le _)
  have hvlt : ∀ q, v.ownBlock = some q → q < w.heap.size := fun q hq => (hown.lt q hq).2
  have hk1 : ∀ q, v'.ownBlock = some q → S1 q ∨ w.heap.size ≤ q := fun q hq => by
    rcases hat with h | h
    · exact .inl (hvS q (by rw [← h]; exact hq))
    · rw [h] at hq; simp only [Option.some.injEq] at hq; exact .inr (by omega)
  have hneR : ru.ownBlock = none ∨ ru.ownBlock ≠ v.ownBlock := by
    cases hb0 : ru.ownBlock with
    | none => exact .inl rfl
    | some q => exact .inr fun e => kd q (hvS q e.symm) (hr2.2.2 q hb0)
  have hfin : Own2U v' (us ++ [ru]) (rows ++ [r]) w' (fun k => (S1 k ∨ S2 k) ∨ w.heap.size ≤ k) := by
    refine ⟨by simp [hul], by simpa using hn, by simpa using hown', fun i hi => ?_, fun i j hij hj => ?_, fun q hq => (hk1 q hq).imp .inl id⟩
    · simp only [List.length_append, List.length_singleton] at hi
      rcases Nat.lt_or_ge i rows.length with h | h
      · rw [show (us ++ [ru]).getD i undef = us.getD i undef from by rw [List.getD_eq_getElem?_getD, List.getD_eq_getElem?_getD, List.getElem?_append_left (by omega)], show (rows ++ [r]).getD i [] = rows.getD i [] from by rw [List.getD_eq_getElem?_getD, List.getD_eq_getElem?_getD, List.getElem?_append_left h]]
        obtain ⟨h1, h2, h3⟩ := hrows i h
        refine ⟨sl_kept h1 hgrow (apart_ne h2), fun q hq hv => ?_, fun q hq => .inl (.inl (h3 q hq))⟩
        rcases hat with ha | ha
        · exact h2 q hq (by rw [← ha]; exact hv)
        · rw [ha] at hv; simp only [Option.some.injEq] at hv; have := (h1.1.lt q hq).2; omega
      · obtain rfl : i = rows.length := by omega
        rw [show (us ++ [ru]).getD rows.length undef = ru from by rw [List.getD_eq_getElem?_getD, List.getElem?_append_right (by omega)]; simp [hul], show (rows ++ [r]).getD rows.length [] = r from by rw [List.getD_eq_getElem?_getD, List.getElem?_append_right (by omega)]; simp]
        refine ⟨sl_kept hr2.1 hgrow hneR, fun q hq hv => ?_, fun q hq => .inl (.inr (hr2.2.2 q hq))⟩
        rcases hk1 q hv with h | h
        · exact kd q h (hr2.2.2 q hq)
        · have := (hr2.1.1.lt q hq).2; omega
    · simp only [List.length_append, List.length_singleton] at hj
      rw [show (us ++ [ru]).getD i undef = us.getD i undef from by rw [List.getD_eq_getElem?_getD, List.getD_eq_getElem?_getD, List.getElem?_append_left (by omega)]]
      rcases Nat.lt_or_ge j rows.length with h | h
      · rw [show (us ++ [ru]).getD j undef = us.getD j undef from by rw [List.getD_eq_getElem?_getD, List.getD_eq_getElem?_getD, List.getElem?_append_left (by omega)]]
        exact hpair i j hij h
      · obtain rfl : j = rows.length := by omega
        rw [show (us ++ [ru]).getD rows.length undef = ru from by rw [List.getD_eq_getElem?_getD, List.getElem?_append_right (by omega)]; simp [hul]]
        exact fun q hq hv => kd q ((hrows i hij).2.2 q hq) (hr2.2.2 q hv)
  obtain ⟨va, vc, rfl⟩ := rd2_form (Own2.rd (S := fun k => (S1 k ∨ S2 k) ∨ w.heap.size ≤ k) ⟨_, hfin⟩)
  have hf : FrS S1 w w' := frS_grown hgrow hvS
  refine go_val (v := .slice va (rows ++ [r]).length vc) (w' := w') hd hN F ?_ fun ac F => hk va vc w' ac ⟨below_frS M.1 hf (Nat.le_refl _) k1, star_keep _ (fun k _ hk => hk.elim id fun h => Nat.le_trans M.1.size h) agree_refl (hset w' (own2U (.slice va (rows ++ [r]).length vc) (us ++ [ru]) (rows ++ [r])) hf hfin)⟩ F
  intro ρ F; have hs := F _ _ hs; have hx := F _ _ hx
  simp only [execOp, hop, resolve, invoke, builtin, Sem.run_bind, Sem.run_pure, Result.andThen_ok, List.map_toArray, List.map_cons, List.map_nil, hs, hx]
  simp only [List.length_singleton] at hr ⊢
  rw [hr]
  rfl

/-! ### Leaders -/
theorem lead_loc (v : Value) (R : List Int) : Loc (fun w S => ∃ l, Own1 v l w S ∧ InvL l ∧ Rts l = R) where
  keep hs ha h := by
    obtain ⟨l, h1, h2⟩ := h
    exact ⟨l, (own1_loc v l).keep hs ha h1, h2⟩
def leadI (v : Value) (R : List Int) : Itm := ⟨_, lead_loc v R⟩
variable {f : FuncId} {fn : Func} {ags : Array Operand} {ts : Array TypeId} {vs : List Value}
theorem go_newLeaders {n : Int} (hd : o.dst = some d) (hN : Nat.blt d N = true) (hop : o.op = .call { callee := .value (.func f), args := ags, argTypes := ts }) (hfn : Try.prog.funcs[f]? = some fn) (hb : fn.body.isNone = false) (hn : (fn.name == "runtime.NumGoroutine") = false)
    (hargs : evoL e ags.toList = some [.int .i64 n]) (h0 : 0 ≤ n) (h1 : n ≤ 17592186044415) (hf : f = 57) (hk : ∀ B : Nat, GK w0 (is ++ [leadI (.slice (some ⟨B, 0, none⟩) n.toNat n.toNat) (upTo 0 n.toNat)]) N K ((d, .slice (some ⟨B, 0, none⟩) n.toNat n.toNat) :: e)) : GO w0 is N o e Q K := by
  subst hf
  obtain ⟨k, rfl⟩ := Int.eq_ofNat_of_zero_le h0
  intro w a M F
  refine go_call hd hN F hop hfn hb hn hargs (newLeaders_any w k (by omega)) fun e' w' hR => ?_
  obtain ⟨g, rfl, ⟨l, hl, hl2⟩, hbl⟩ := hR
  exact ⟨_, rfl, fun a F => hk g w' a (mem_new M hbl ⟨l, own1_of hl, hl2⟩) F⟩
theorem go_join {R : List Int} {x y : Int} {n : Nat} (hd : o.dst = some d) (hN : Nat.blt d N = true) (hop : o.op = .call { callee := .value (.func f), args := ags, argTypes := ts }) (hfn : Try.prog.funcs[f]? = some fn) (hb : fn.body.isNone = false) (hn : (fn.name == "runtime.NumGoroutine") = false)
    (hargs : evoL e ags.toList = some [v, .int .i64 x, .int .i64 y]) (hf : f = 64) (hi : is[n]? = some (leadI v R)) (x0 : 0 ≤ x) (x1 : x < R.length) (y0 : 0 ≤ y) (y1 : y < R.length)
    (hk : GK w0 (is.set n (leadI v (mergeR R (R.getD x.toNat 0) (R.getD y.toNat 0)))) N K ((d, .tuple #[]) :: e)) : GO w0 is N o e Q K := by
  subst hf
  obtain ⟨x, rfl⟩ := Int.eq_ofNat_of_zero_le x0
  obtain ⟨y, rfl⟩ := Int.eq_ofNat_of_zero_le y0
  intro w a M F
  obtain ⟨S, hS, ⟨l, hl, hl2, hl3⟩, hset⟩ := mem_set M hi
  refine go_call hd hN F hop hfn hb hn hargs (join_any w 0 v R x y ⟨l, hl.1, hl2, hl3⟩ (by omega) (by omega)) fun e' w' hR => ?_
  obtain ⟨rfl, ⟨l', hl', hl2', hl3'⟩, hg⟩ := hR
  exact ⟨_, rfl, fun a F => hk w' a (hset w' (leadI v _) (frS_grown hg hl.2) ⟨l', ⟨hl', fun q hq => .inl (hl.2 q hq)⟩, hl2', hl3'⟩) F⟩
theorem go_classes {R : List Int} {n : Nat} (hd : o.dst = some d) (hN : Nat.blt d N = true) (hop : o.op = .call { callee := .value (.func f), args := ags, argTypes := ts }) (hfn : Try.prog.funcs[f]? = some fn) (hb : fn.body.isNone = false) (hn : (fn.name == "runtime.NumGoroutine") = false)
    (hargs : evoL e ags.toList = some [v]) (hf : f = 59) (hi : is[n]? = some (leadI v R))
    (hk : ∀ a cap, GK w0 [own1I (.slice a (clsOf R).length cap) (clsOf R)] N K ((d, .slice a (clsOf R).length cap) :: e)) : GO w0 is N o e Q K := by
  subst hf
  intro w a M F
  obtain ⟨S, hS, l, hl, hl2, hl3⟩ := mem_get M hi
  refine go_call hd hN F hop hfn hb hn hargs (classes_any w w0.heap.size v R ⟨l, hl.at hS, hl2, hl3⟩) fun e' w' hR => ?_
  obtain ⟨y, rfl, hs, hB⟩ := hR
  obtain ⟨va, vc, rfl, _⟩ := sl_form hs
  exact ⟨_, rfl, fun a F => hk va vc w' a ⟨hB w0 M.1 (Nat.le_refl _), _, fun _ => False, fun k h => Nat.le_trans M.1.size h, fun k h => h.elim, fun k _ h => h, own1_of hs, trivial⟩ F⟩
end
end Go.Proofs.Ytgkfampgofjkfaa

namespace Go.Proofs.Ytgkfampgofjkfaa
open Go.RowKit
theorem infoBl : (Try.prog.info? 4).map (fun i => (i.zero, i.size, i.bytes)) = some (some (.bool false), 1, 1) := by kernel_rfl
def OwnB (v : Value) (bs : List Bool) (w : World) (S : Nat → Prop) : Prop := w.ownsRow 0 4 1 v bs.length (bs.map Value.bool) ∧ ∀ q, v.ownBlock = some q → S q
theorem ownB_loc (v : Value) (bs : List Bool) : Loc (OwnB v bs) where
  keep hs ha h := ⟨own_agree h.1 fun q hq e => ha q hq (h.2 q e), fun q hq => hs q (h.1.lt q hq).2 (h.2 q hq)⟩
/-- A list of truth values of the call's own. -/
def ownBI (v : Value) (bs : List Bool) : Itm := ⟨_, ownB_loc v bs⟩
def atB (bs : List Bool) (i : Int) : Bool := bs.getD i.toNat false
section
variable {w0 : World} {is : List Itm} {ops : Array Oper} {Q : Exit → Act → World → Prop} {o : Oper} {rest : List Oper} {N : Frm} {e : Env} {v : Value} {d : Nat} {K : Act → World → Prop}
theorem lenA_B {n : Nat} {bs : List Bool} (h : is[n]? = some (ownBI v bs)) {w : World} (M : Mem w0 w is) : LenA v bs.length := by
  obtain ⟨S, _, hb⟩ := mem_get M h
  have hb' : OwnB v bs w S := hb
  rcases hb'.1.2 with ⟨hv, hn⟩ | ⟨g, cap, cur, hv, _⟩
  · exact ⟨none, 0, by rw [hv, hn], fun h => by omega⟩
  · exact ⟨_, cap, hv, fun _ => ⟨g, 0, rfl⟩⟩
theorem lenV_B {n : Nat} {bs : List Bool} (h : is[n]? = some (ownBI v bs)) {w : World} (M : Mem w0 w is) : LenV v bs.length := by
  obtain ⟨a, cap, hv, _⟩ := lenA_B h M
  exact ⟨a, cap, hv⟩
theorem qt_loadBool {x : Operand} {t : TypeId} {u : Value} {n : Nat} {bs : List Bool} {i : Int} {td : TypeDesc} (hop : o.op = .load t x) (hx : evo e x = some (eltP u i)) (ht : Try.prog.underlying t = some td) (hd : aggT td = false)
    (hi : is[n]? = some (ownBI u bs)) (h0 : 0 ≤ i) (h1 : i < bs.length) : QV w0 is o e (.bool (atB bs i)) :=
  fun w ac M F => by
    have hx := F _ _ hx
    obtain ⟨S, _, hb⟩ := mem_get M hi
    have hb' : OwnB u bs w S := hb
    rcases hb'.1.2 with ⟨_, hn⟩ | ⟨g, cap, cur, rfl, _⟩
    · omega
    · have hc : w.cell? ⟨g, i.toNat, none⟩ = some (.bool (atB bs i)) := by
        rw [hb'.1.cellAt i.toNat (by omega)]
        simp [atB, List.getD_eq_getElem?_getD, List.getElem?_eq_getElem (show i.toNat < bs.length by omega)]
      have he : eltP (.slice (some ⟨g, 0, none⟩) bs.length cap) i = .pointer (some ⟨g, i.toNat, none⟩) := by simp [eltP]
      simp [execOp, hop, hx, he, run_load1 ht hd hc]
theorem go_storeBool {t : TypeId} {x y : Operand} {n : Nat} {bs : List Bool} {b : Bool} {i : Int} (hd : o.dst = none) (hop : o.op = .store t x y) (hx : evo e x = some (eltP v i)) (hy : evo e y = some (.bool b))
    (hs : (Try.prog.info? t).map (·.size) = some 1) (hi : is[n]? = some (ownBI v bs)) (h0 : 0 ≤ i) (h1 : i < bs.length)
    (hk : GK w0 (is.set n (ownBI v (bs.set i.toNat b))) N K e) : GO w0 is N o e Q K := by
  intro w ac M F
  obtain ⟨S, hS, hp, hset⟩ := mem_set M hi
  have hp' : OwnB v bs w S := hp
  rcases hp'.1.2 with ⟨_, hn⟩ | ⟨g, cap, cur, rfl, _⟩
  · omega
  have hcell : w.cell? ⟨g, i.toNat, none⟩ = some (.bool (atB bs i)) := by
    rw [hp'.1.cellAt i.toNat (by omega)]
    simp [atB, List.getD_eq_getElem?_getD, List.getElem?_eq_getElem (show i.toNat < bs.length by omega)]
  have hfz := hp'.1.frozenAt i.toNat
  have hst := hp'.1.stored i.toNat (.bool b)
  have h3 : OwnB (.slice (some ⟨g, 0, none⟩) bs.length cap) (bs.set i.toNat b) (w.setCell ⟨g, i.toNat, none⟩ (.bool b)) (fun k => S k ∨ w.heap.size ≤ k) := by
    refine ⟨?_, fun q hq => .inl (hp'.2 q hq)⟩
    have := hst.1
    rw [← List.map_set] at this
    simpa using this
  refine go_skip (w' := w.setCell ⟨g, i.toNat, none⟩ (.bool b)) hd F ?_ fun ac F => hk _ ac (hset _ _ ⟨hst.2.os, hst.2.tape, hst.2.output, hst.2.size, fun q hq hs => hst.2.block q hq fun e => hs (by rw [Option.some.inj e]; exact hp'.2 g rfl)⟩ h3) F
  intro ρ F; have hx := F _ _ hx; have hy := F _ _ hy
  have he : eltP (.slice (some ⟨g, 0, none⟩) bs.length cap) i = .pointer (some ⟨g, i.toNat, none⟩) := by simp [eltP]
  simp [execOp, hop, hx, hy, he, run_store1 hs (u := .bool b) rfl rfl hcell hfz]
theorem go_makeB {x y : Operand} {t : TypeId} {n : Nat} (hd : o.dst = some d) (hN : Nat.blt d N = true) (hop : o.op = .makeSlice t x y) (ht : Try.prog.underlying t = some (.slice 4)) (hx : evo e x = some (.int .i64 (n : Int))) (hy : evo e y = some (.int .i64 (n : Int))) (hn : n ≤ 17592186044415)
    (hk : ∀ B : Nat, GK w0 (is ++ [ownBI (.slice (some ⟨B, 0, none⟩) n n) (List.replicate n false)]) N K ((d, .slice (some ⟨B, 0, none⟩) n n) :: e)) : GO w0 is N o e Q K := by
  intro w ac M F
  obtain ⟨i, hi, hz, hs, hb⟩ := info_parts infoBl
  obtain ⟨w', hr, hown, hgrow⟩ := run_make_full (P := Try.prog) w w.heap.size t 4 i (.bool false) 1 ht hi hz hs .i64 .i64 n (by rw [hb]; omega) (by unfold maxLen; omega) (Nat.le_refl _)
  have hone : (madeCells #[Value.bool false] n).toList = (List.replicate n false).map Value.bool := by rw [toList_madeCells_one]; simp
  have hs' : OwnB (.slice (some ⟨w.heap.size, 0, none⟩) n n) (List.replicate n false) w' (fun k => w.heap.size ≤ k) := by
    simp only [Value.cells, Nat.mul_one] at hown
    rw [hone] at hown
    refine ⟨by simpa using own_base hown, fun q hq => by simp [Value.ownBlock] at hq; omega⟩
  refine go_val (v := .slice (some ⟨w.heap.size, 0, none⟩) n n) (w' := w') hd hN F ?_ fun ac F => hk w.heap.size w' ac (mem_new M ((Below.refl _ _).grown hgrow (Nat.le_refl _) (by simp)) hs') F
  intro ρ F; have hx := F _ _ hx; have hy := F _ _ hy
  simp only [execOp, hop, hx, hy, Sem.run_bind, hr, Result.andThen_ok]
  rfl
end
end Go.Proofs.Ytgkfampgofjkfaa

namespace Go.Proofs.Ytgkfampgofjkfaa
open Go.RowKit
def PairE (es : List MapEntry) (ps : List (Int × Int)) : Prop := es.map (fun x => (x.key, x.val)) = ps.map fun p => (Value.agg #[.int .i64 p.1, .int .i64 p.2], Value.bool true)
def SetM (B : Nat) (ps : List (Int × Int)) (w : World) (S : Nat → Prop) : Prop := (∃ es clock, w.heap[B]? = some (.map es clock) ∧ PairE es.toList ps) ∧ S B
theorem setM_loc (B : Nat) (ps : List (Int × Int)) : Loc (SetM B ps) where
  keep hs ha h := by
    obtain ⟨⟨es, cl, hb, hp⟩, hS⟩ := h
    have hlt := (Array.getElem?_eq_some_iff.1 hb).1
    exact ⟨⟨es, cl, by rw [ha _ hlt hS]; exact hb, hp⟩, hs _ hlt hS⟩
/-- A set of pairs of the call's own. -/
def setI (B : Nat) (ps : List (Int × Int)) : Itm := ⟨_, setM_loc B ps⟩
theorem run_checkPair (a b : Int) (em : Bool) (w : World) : (Instr.checkKey em 10000 84 (.agg #[.int .i64 a, .int .i64 b])).run Try.prog w = .ok () w := by
  show (Instr.checkKey em (9998 + 1 + 1) 84 (.agg #[.int .i64 a, .int .i64 b])).run Try.prog w = .ok () w
  have h64 : ∀ x : Int, (Instr.checkKey em (9998 + 1) 2 (.int .i64 x)).run Try.prog w = .ok () w := fun x => MapKept.run_checkKey Try.underlying2 (by simp [MapKept.IsKey]) em 9998
  obtain ⟨i, hi, hz, hs, hb⟩ := info_parts info64
  unfold Instr.checkKey
  simp [Sem.run_bind, run_underlying Try.underlying84, part, sizeOf, typeInfo, hi, hs, h64, Result.andThen]
theorem run_askPair (a b : Int) (w : World) : ∀ (es : List MapEntry) (ps : List (Int × Int)) (i : Nat), PairE es ps →
    ∃ r, (Instr.findAsking 84 (.agg #[.int .i64 a, .int .i64 b]) es i).run Try.prog w = .ok r w ∧ ((a, b) ∈ ps → ∃ j, r = some (j, .bool true)) ∧ ((a, b) ∉ ps → r = none)
  | [], ps, i, h => by
    have h2 : ps = [] := by
      cases ps with
      | nil => rfl
      | cons p ps => simp [PairE] at h
    subst h2
    exact ⟨none, by simp [Instr.findAsking], fun h => by simp at h, fun _ => rfl⟩
  | x :: es, [], i, h => by simp [PairE] at h
  | x :: es, p :: ps, i, h => by
    simp only [PairE, List.map_cons, List.cons.injEq, Prod.mk.injEq] at h
    obtain ⟨⟨hk, hv⟩, h2⟩ := h
    obtain ⟨r, hr, hr2, hr3⟩ := run_askPair a b w es ps (i + 1) h2
    have he : (Op.equal 84 (.agg #[.int .i64 a, .int .i64 b]) x.key).run Try.prog w = .ok (decide (a = p.1 ∧ b = p.2)) w := by rw [hk]; exact eqA_arrowEnds a b p.1 p.2 w
    unfold Instr.findAsking
    by_cases hab : a = p.1 ∧ b = p.2
    · rw [decide_eq_true hab] at he
      refine ⟨some (i, .bool true), by simp [Sem.run_bind, he, hv, Result.andThen], fun _ => ⟨i, rfl⟩, fun hn => absurd (by rw [hab.1, hab.2]; exact List.mem_cons_self ..) hn⟩
    · rw [decide_eq_false hab] at he
      refine ⟨r, by simp [Sem.run_bind, he, hr, Result.andThen], fun hm => hr2 ?_, fun hn => hr3 fun h => hn (List.mem_cons_of_mem _ h)⟩
      rcases List.mem_cons.1 hm with h | h
      · exact absurd ⟨by rw [← h], by rw [← h]⟩ hab
      · exact h
theorem run_findPair (a b : Int) (w : World) {es : List MapEntry} {ps : List (Int × Int)} (h : PairE es ps) :
    ∃ r, (Instr.findKey 84 (.agg #[.int .i64 a, .int .i64 b]) es).run Try.prog w = .ok r w ∧ ((a, b) ∈ ps → ∃ j, r = some (j, .bool true)) ∧ ((a, b) ∉ ps → r = none) := by
  obtain ⟨r, hr, h1, h2⟩ := run_askPair a b w es ps 0 h
  refine ⟨r, ?_, h1, h2⟩
  cases es with
  | nil =>
    have : ps = [] := by
      cases ps with
      | nil => rfl
      | cons p ps => simp [PairE] at h
    subst this
    rw [h2 (by simp)]
    simp [Instr.findKey, Sem.run_bind, run_underlying Try.underlying84, Instr.findNow, Result.andThen]
  | cons x es =>
    simp [Instr.findKey, Sem.run_bind, run_underlying Try.underlying84, Instr.findNow, Instr.sameNow, hr, Result.andThen]
section
variable {w0 : World} {is : List Itm} {ops : Array Oper} {Q : Exit → Act → World → Prop} {o : Oper} {rest : List Oper} {N : Frm} {e : Env} {v : Value} {d : Nat} {K : Act → World → Prop}
theorem go_makeSet {t : TypeId} (hd : o.dst = some d) (hN : Nat.blt d N = true) (hop : o.op = .makeMap t none)
    (hk : ∀ B : Nat, GK w0 (is ++ [setI B []]) N K ((d, .map (some B)) :: e)) : GO w0 is N o e Q K := by
  intro w ac M F
  refine go_val (v := .map (some w.heap.size)) (w' := w.alloc (.map #[] 0)) hd hN F ?_ fun ac F => hk _ _ ac (mem_new M (below_alloc w _) ⟨⟨#[], 0, heap_alloc_new w _, rfl⟩, Nat.le_refl _⟩) F
  intro ρ F
  simp [execOp, hop, Instr.makeMap, Sem.run_bind, Result.andThen]
theorem qt_lookSet {x y : Operand} {t : TypeId} {B n : Nat} {a b : Int} {ps : List (Int × Int)} (hop : o.op = .lookup t x y false) (hx : evo e x = some (.map (some B))) (hy : evo e y = some (.agg #[.int .i64 a, .int .i64 b]))
    (ht : Try.prog.underlying t = some (.map 84 4)) (hi : is[n]? = some (setI B ps)) : QV w0 is o e (.bool (decide ((a, b) ∈ ps))) :=
  fun w ac M F => by
    have hx := F _ _ hx; have hy := F _ _ hy
    obtain ⟨S, _, hb⟩ := mem_get M hi
    obtain ⟨⟨es, cl, hb, hp⟩, _⟩ := (hb : SetM B ps w S)
    obtain ⟨r, hr, h1, h2⟩ := run_findPair a b w hp
    obtain ⟨i, hi', hz, hs, hbb⟩ := info_parts infoBl
    by_cases hm : (a, b) ∈ ps
    · obtain ⟨j, rfl⟩ := h1 hm
      simp [execOp, hop, hx, hy, Instr.lookup, run_underlying ht, MapKept.run_getObj_map hb, run_checkPair, hr, hm, Sem.run_bind, Result.andThen]
    · obtain rfl := h2 hm
      simp [execOp, hop, hx, hy, Instr.lookup, run_underlying ht, MapKept.run_getObj_map hb, run_checkPair, hr, hm, Sem.run_bind, Result.andThen, zeroValue, typeInfo, hi', hz]
/-- A pair that the set doesn't hold is put into it. -/
theorem go_putSet {x y z : Operand} {t : TypeId} {B n : Nat} {a b : Int} {ps : List (Int × Int)} (hd : o.dst = none) (hop : o.op = .mapUpdate t x y z) (hx : evo e x = some (.map (some B))) (hy : evo e y = some (.agg #[.int .i64 a, .int .i64 b])) (hz : evo e z = some (.bool true))
    (ht : Try.prog.underlying t = some (.map 84 4)) (hi : is[n]? = some (setI B ps)) (hm : (a, b) ∉ ps)
    (hk : GK w0 (is.set n (setI B (ps ++ [(a, b)]))) N K e) : GO w0 is N o e Q K := by
  intro w ac M F
  obtain ⟨S, hS, hp, hset⟩ := mem_set M hi
  obtain ⟨⟨es, cl, hb, hp⟩, hSB⟩ := (hp : SetM B ps w S)
  obtain ⟨r, hr, h1, h2⟩ := run_findPair a b w hp
  obtain rfl := h2 hm
  have hlt := (Array.getElem?_eq_some_iff.1 hb).1
  refine go_skip (w' := { w with heap := w.heap.setIfInBounds B (.map (es.push { key := .agg #[.int .i64 a, .int .i64 b], val := .bool true, born := cl }) (cl + 1)) }) hd F ?_ fun ac F => hk _ ac (hset _ _ ⟨rfl, rfl, rfl, by simp, fun q hq hs => ?_⟩ ⟨⟨es.push { key := .agg #[.int .i64 a, .int .i64 b], val := .bool true, born := cl }, cl + 1, by simp [hlt], ?_⟩, .inl hSB⟩) F
  · intro ρ F; have hx := F _ _ hx; have hy := F _ _ hy; have hz := F _ _ hz
    simp [execOp, hop, hx, hy, hz, Instr.mapUpdate, run_underlying ht, MapKept.run_getObj_map hb, run_checkPair, hr, Sem.run_bind, Result.andThen, MapKept.run_setObj_map _ hb]
  · have : B ≠ q := fun e => hs (by rw [← e]; exact hSB)
    simp [this]
  · simp only [PairE] at hp ⊢
    simp [hp]
end
end Go.Proofs.Ytgkfampgofjkfaa
