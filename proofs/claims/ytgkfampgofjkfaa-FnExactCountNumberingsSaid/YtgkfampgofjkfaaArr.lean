
/- Arrangements: numbers in blocks and the ends of these, as one thing of a call's own. -/
import Derived.Test.YtgkfampgofjkfaaEli
import Derived.Test.YtgkfampgofjkfaaDelX
set_option linter.unusedSimpArgs false
set_option linter.unusedVariables false
set_option linter.unusedSectionVars false
namespace Go.Proofs.Ytgkfampgofjkfaa
open Go.RowKit
def ArgQ (B : Nat) (ns es : List Int) (w : World) (S : Nat → Prop) : Prop :=
  ∃ x : (Option Addr × Nat) × Option Addr × Nat, Star [bxI B 90 [.slice x.1.1 ns.length x.1.2, .slice x.2.1 es.length x.2.2], own1I (.slice x.1.1 ns.length x.1.2) ns, ownGI elN (.slice x.2.1 es.length x.2.2) es] w S
theorem arr_loc (B : Nat) (ns es : List Int) : Loc (ArgQ B ns es) := ⟨fun hs ha ⟨x, h⟩ => ⟨x, star_keep _ hs ha h⟩⟩
def arrI (B : Nat) (ns es : List Int) : Itm := ⟨_, arr_loc B ns es⟩
theorem star_imp {X : Type} : ∀ (is : List Itm) {n : Nat} {i : Itm} {j : X → Itm} {w : World} {S : Nat → Prop}, is[n]? = some i → (∀ S, i.p w S → ∃ x, (j x).p w S) → Star is w S → ∃ x, Star (is.set n (j x)) w S
  | [], n, i, _, _, _, h, _, _ => by simp at h
  | l :: is, 0, i, j, w, S, h, hj, hs => by
    simp only [List.getElem?_cons_zero, Option.some.injEq] at h
    subst h
    obtain ⟨S1, S2, k1, k2, hd, h1, h2⟩ := hs
    obtain ⟨x, hx⟩ := hj _ h1
    exact ⟨x, S1, S2, k1, k2, hd, hx, h2⟩
  | l :: is, n + 1, i, j, w, S, h, hj, hs => by
    obtain ⟨S1, S2, k1, k2, hd, h1, h2⟩ := hs
    obtain ⟨x, hx⟩ := star_imp is (by simpa using h) hj h2
    exact ⟨x, S1, S2, k1, k2, hd, h1, hx⟩
theorem star_open : ∀ (is : List Itm) {n : Nat} {i : Itm} {F : List Itm} {w : World} {S : Nat → Prop}, n < is.length → Star (is.set n (packI (i :: F))) w S → Star (is.set n i ++ F) w S
  | [], n, _, _, _, _, h, _ => by simp at h
  | l :: is, 0, i, F, w, S, h, hs => by
    obtain ⟨S1, S2, k1, k2, hd, h1, h2⟩ := hs
    obtain ⟨T1, T2, t1, t2, td, a1, a2⟩ := h1
    refine ⟨T1, fun k => S2 k ∨ T2 k, fun k h => k1 k (t1 k h), fun k h => h.elim (k2 k) fun h => k1 k (t2 k h), fun k a b => b.elim (fun b => hd k (t1 k a) b) (td k a), a1, ?_⟩
    exact star_app is F (fun k h => .inl h) (fun k h => .inr h) (fun k a b => hd k (t2 k b) a) h2 a2
  | l :: is, n + 1, i, F, w, S, h, hs => by
    obtain ⟨S1, S2, k1, k2, hd, h1, h2⟩ := hs
    exact ⟨S1, S2, k1, k2, hd, h1, star_open is (by simpa using h) h2⟩
theorem star_3 {i j k : Itm} {F : List Itm} {w : World} {S : Nat → Prop} (h : Star (i :: j :: k :: F) w S) : Star (packI [i, j, k] :: F) w S := by
  obtain ⟨S1, S2, a1, a2, ad, h1, T1, T2, b1, b2, bd, h2, U1, U2, c1, c2, cd, h3, h4⟩ := h
  refine ⟨fun x => S1 x ∨ T1 x ∨ U1 x, U2, fun x h => h.elim (a1 x) fun h => h.elim (fun h => a2 x (b1 x h)) fun h => a2 x (b2 x (c1 x h)), fun x h => a2 x (b2 x (c2 x h)), fun x h h' => h.elim (fun h => ad x h (b2 x (c2 x h'))) fun h => h.elim (fun h => bd x h (c2 x h')) fun h => cd x h h', ?_, h4⟩
  exact ⟨S1, fun x => T1 x ∨ U1 x, fun x h => .inl h, fun x h => .inr h, fun x h h' => h'.elim (fun h' => ad x h (b1 x h')) fun h' => ad x h (b2 x (c1 x h')), h1, T1, U1, fun x h => .inl h, fun x h => .inr h, fun x h h' => bd x h (c1 x h'), h2, U1, fun _ => False, fun x h => h, fun x h => h.elim, fun x _ h => h, h3, trivial⟩
section
variable {w0 : World} {is : List Itm} {ops : Array Oper} {Q : Exit → Act → World → Prop} {o : Oper} {rest : List Oper} {N : Frm} {n : Nat} {e : Env} {v : Value} {d : Nat} {K : Act → World → Prop} {f : FuncId} {fn : Func} {ags : Array Operand} {ts : Array TypeId} {vs : List Value} {B : Nat} {ns es : List Int}
theorem mem_unarr {w : World} (M : Mem w0 w is) (hi : is[n]? = some (arrI B ns es)) : ∃ x : (Option Addr × Nat) × Option Addr × Nat, Mem w0 w (is.set n (bxI B 90 [.slice x.1.1 ns.length x.1.2, .slice x.2.1 es.length x.2.2]) ++ [own1I (.slice x.1.1 ns.length x.1.2) ns, ownGI elN (.slice x.2.1 es.length x.2.2) es]) := by
  have hn : n < is.length := (List.getElem?_eq_some_iff.1 hi).1
  obtain ⟨x, hx⟩ := star_imp is (j := fun x : (Option Addr × Nat) × Option Addr × Nat => packI [bxI B 90 [.slice x.1.1 ns.length x.1.2, .slice x.2.1 es.length x.2.2], own1I (.slice x.1.1 ns.length x.1.2) ns, ownGI elN (.slice x.2.1 es.length x.2.2) es]) hi (fun S h => h) M.2
  exact ⟨x, M.1, star_open is hn hx⟩
theorem gc_unarr {c : Code} (hi : is[n]? = some (arrI B ns es)) (hk : ∀ (a : Option Addr) (q : Nat) (b : Option Addr) (r : Nat), GC w0 (is.set n (bxI B 90 [.slice a ns.length q, .slice b es.length r]) ++ [own1I (.slice a ns.length q) ns, ownGI elN (.slice b es.length r) es]) N c Q e) : GC w0 is N c Q e := fun w ac M F R => by
  obtain ⟨x, M2⟩ := mem_unarr M hi
  exact hk _ _ _ _ w ac M2 F R
theorem mem_arr {w : World} {X R : Itm} {a b : Option Addr} {q r : Nat} (M : Mem w0 w [bxI B 90 [.slice a ns.length q, .slice b es.length r], own1I (.slice a ns.length q) ns, ownGI elN (.slice b es.length r) es, X, R]) : Mem w0 w [arrI B ns es, X, R] := by
  obtain ⟨S1, S2, k1, k2, hd, h1, h2⟩ := star_3 M.2
  exact ⟨M.1, S1, S2, k1, k2, hd, ⟨((a, q), b, r), h1⟩, h2⟩
theorem gc_arr0 {c : Code} (hi : is[n]? = some (bxI B 90 [.slice none 0 0, .slice none 0 0])) (hk : GC w0 (is.set n (arrI B [] [])) N c Q e) : GC w0 is N c Q e := fun w ac M F R => by
  refine hk w ac ⟨M.1, ?_⟩ F R
  obtain ⟨_, h⟩ := star_imp is (j := fun _ : Unit => arrI B [] []) hi (fun S h => ⟨(), ((none, 0), none, 0), S, fun _ => False, fun k h => h, fun k h => h.elim, fun k _ h => h, h, fun _ => False, fun _ => False, fun k h => h, fun k h => h, fun k h _ => h.elim, own1_nil _ _, fun _ => False, fun _ => False, fun k h => h, fun k h => h, fun k h _ => h.elim, ⟨⟨World.ownsRow_nil w 0 _ 1, by simp⟩, fun q hq => by simp [Value.ownBlock] at hq⟩, trivial⟩) M.2
  exact h
def RetArr (W : World) (ns es : List Int) (e : Ending) (w' : World) : Prop :=
  ∃ (a : Option Addr) (q : Nat) (b : Option Addr) (r : Nat), e = .returned (.agg #[.slice a ns.length q, .slice b es.length r]) ∧ Star [own1I (.slice a ns.length q) ns, ownGI elN (.slice b es.length r) es] w' (fun k => W.heap.size ≤ k) ∧ Below W.heap.size W w'
theorem go_callArr (hd : o.dst = some d) (hN : Nat.blt d N = true) (hop : o.op = .call { callee := .value (.func f), args := ags, argTypes := ts }) (hfn : Try.prog.funcs[f]? = some fn) (hb : fn.body.isNone = false) (hnm : (fn.name == "runtime.NumGoroutine") = false)
    (hargs : evoL e ags.toList = some vs) (hc : ∀ w, Mem w0 w is → Calls Try.prog f vs.toArray w (RetArr w ns es))
    (hk : ∀ (a : Option Addr) (q : Nat) (b : Option Addr) (r : Nat), GK w0 (is ++ [own1I (.slice a ns.length q) ns, ownGI elN (.slice b es.length r) es]) N K ((d, .agg #[.slice a ns.length q, .slice b es.length r]) :: e)) : GO w0 is N o e Q K := by
  intro w a M F
  refine go_call hd hN F hop hfn hb hnm hargs (hc w M) fun e' w' hR => ?_
  obtain ⟨a, q, b, r, rfl, h1, h2⟩ := hR
  exact ⟨_, rfl, fun ac F => hk a q b r w' ac (mem_news M h2 h1) F⟩
/-- A call that changes one thing and hands something back. -/
theorem go_oneS {σ : Type} {i : Itm} {i' : σ → Itm} {r : σ → Value} (hd : o.dst = some d) (hN : Nat.blt d N = true) (hop : o.op = .call { callee := .value (.func f), args := ags, argTypes := ts }) (hfn : Try.prog.funcs[f]? = some fn) (hb : fn.body.isNone = false) (hnm : (fn.name == "runtime.NumGoroutine") = false)
    (hargs : evoL e ags.toList = some vs) (hi : is[n]? = some i)
    (hc : ∀ (R : Itm) w, Mem w0 w [i, R] → Calls Try.prog f vs.toArray w (fun e w' => ∃ s, e = .returned (r s) ∧ Mem w0 w' [i' s, R]))
    (hk : ∀ s, GK w0 (is.set n (i' s)) N K ((d, r s) :: e)) : GO w0 is N o e Q K := by
  intro w a M F
  have hn : n < is.length := (List.getElem?_eq_some_iff.1 hi).1
  have M1 : Mem w0 w [i, packI (is.eraseIdx n)] := by
    obtain ⟨S1, S2, k1, k2, hd, h1, h2⟩ := star_pick is hi M.2
    exact ⟨M.1, S1, S2, k1, k2, hd, h1, S2, fun _ => False, fun k h => h, fun k h => h.elim, fun k _ h => h, h2, trivial⟩
  refine go_call hd hN F hop hfn hb hnm hargs (hc _ w M1) fun e' w' hR => ?_
  obtain ⟨s, rfl, M'⟩ := hR
  refine ⟨_, rfl, fun a F => hk s w' a ⟨M'.1, star_unpick _ hn ?_⟩ F⟩
  obtain ⟨S1, S2, k1, k2, hd, h1, T1, T2, t1, t2, td, a1, _⟩ := M'.2
  exact ⟨S1, T1, k1, fun k h => k2 k (t1 k h), fun k a b => hd k a (t1 k b), h1, a1⟩
theorem infoArr : (Try.prog.info? 90).map (fun i => (i.zero, i.size, i.bytes)) = some (some (.agg #[.slice none 0 0, .slice none 0 0]), 2, 48) := by kernel_rfl
theorem fill4 (f : Nat → Value) (a1 a2 b1 b2 : Value) : ((((Array.map f (Array.range 4)).setIfInBounds 0 a1).setIfInBounds 1 a2).setIfInBounds 2 b1).setIfInBounds 3 b2 = #[a1, a2, b1, b2] := by
  apply Array.ext'
  simp only [Array.toList_setIfInBounds, Array.toList_map, Array.toList_range]
  rfl
theorem go_sliceA2 {t : TypeId} {x y : Operand} {a1 a2 b1 b2 : Value} (hd : o.dst = some d) (hN : Nat.blt d N = true) (hop : o.op = .buildSlice t 2 #[(0, x), (1, y)]) (hx : evo e x = some (.agg #[a1, a2])) (hy : evo e y = some (.agg #[b1, b2])) (ht : Try.prog.underlying t = some (.slice 90))
    (hk : ∀ B : Nat, GK w0 (is ++ [bxI B 90 [a1, a2, b1, b2]]) N K ((d, .slice (some ⟨B, 0, none⟩) 2 2) :: e)) : GO w0 is N o e Q K := by
  intro w ac M F
  refine go_val (v := .slice (some ⟨w.heap.size, 0, none⟩) 2 2) (w' := w.alloc (.cells #[a1, a2, b1, b2] 90)) hd hN F ?_ fun ac F => hk _ _ ac (mem_new M (below_alloc w _) ⟨heap_alloc_new w _, Nat.le_refl _⟩) F
  intro ρ F; have hx := F _ _ hx; have hy := F _ _ hy
  obtain ⟨i, hi, hz, hs, hb⟩ := info_parts infoArr
  simp [execOp, hop, hx, hy, Instr.buildSlice, run_underlying ht, sizeOf, typeInfo, hi, hs, Instr.fill, newRow, zeroValue, hz, Value.cells, Sem.run_bind]
  rw [fill4]
theorem ulEA : Try.prog.underlying 93 = some (.slice (Try.prog.elem 93)) := by kernel_rfl
theorem qt_indexA {x y : Operand} {t : TypeId} {B : Nat} {i : Int} (p : Nat) (hop : o.op = .indexAddr t x y) (hx : evo e x = some (.slice (some ⟨B, 0, none⟩) 2 2)) (hy : evo e y = some (.int .i64 i)) (ht : Try.prog.underlying t = some (.slice 90)) (hi : i = (p : Int)) (hp : p < 2) : QV w0 is o e (.pointer (some ⟨B, p * 2, none⟩)) :=
  fun w ac M F => by
    subst hi
    have hx := F _ _ hx; have hy := F _ _ hy
    obtain ⟨ii, hi, hz, hs, hb⟩ := info_parts infoArr
    have h2 : ((p : Int) < 2) := by omega
    have hel : Try.prog.elem t = 90 := by simp [Program.elem, ht]
    simp [execOp, hop, hx, hy, run_indexAt_slice _ _ _ _ _ _ _ (by rw [hel]; exact ht), hel, h2, sizeOf, typeInfo, hi, hs, Sem.run_bind, Sem.run_pure, Result.andThen_ok, run_program, Addr.add]
    intro h; exact h.symm
theorem qt_min2 {x y : Operand} {t t' : TypeId} {a b : Int} (hop : o.op = .call { callee := .builtin .min, args := #[x, y], argTypes := #[t, t'] }) (hx : evo e x = some (.int .i64 a)) (hy : evo e y = some (.int .i64 b)) : QV w0 is o e (.int .i64 (min a b)) :=
  fun w ac M F => by
    have hx := F _ _ hx; have hy := F _ _ hy
    simp [execOp, hop, resolve, invoke, builtin, Builtin.min_, Builtin.min2, hx, hy, Sem.run_bind, Sem.run_pure, Result.andThen_ok, go_sem]
    split <;> omega
end
end Go.Proofs.Ytgkfampgofjkfaa
