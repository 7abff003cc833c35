
/- The rules of a walk in blocks of its own: operations that make or write memory, calls that hand memory back, returns. -/
import Derived.Test.YtakifeiemcldlaaRul
import Derived.Maps.AppendAt
namespace Go.Proofs.Ytakifeiemcldlaa
open Go.RowKit

section
variable {w0 : World} {is : List Itm} {ops : Array Oper} {Q : Exit → Act → World → Prop} {o : Oper} {rest : List Oper} {N : Nat} {e : Env} {v : Value} {d : Nat} {K : Act → World → Prop}

theorem go_val {w w' : World} {a : Act} (hd : o.dst = some d) (hN : Nat.blt d N = true) (F : Fit N e a) (hrun : ∀ ρ : Operand → Value, (∀ x v, evo e x = some v → ρ x = v) → (execOp ρ o).run Try.prog w = .ok (.value v) w')
    (hk : ∀ a, Fit N ((d, v) :: e) a → K a w') : o.wp Try.prog a w K Q := by
  unfold Oper.wp
  rw [hrun a.eval (fun x v hx => fit_eval F hx), Oper.upon_value, hd]
  exact hk _ (fit_put F hN)
theorem go_skip {w w' : World} {a : Act} (hd : o.dst = none) (F : Fit N e a) (hrun : ∀ ρ : Operand → Value, (∀ x v, evo e x = some v → ρ x = v) → (execOp ρ o).run Try.prog w = .ok .skip w')
    (hk : ∀ a, Fit N e a → K a w') : o.wp Try.prog a w K Q := by
  unfold Oper.wp
  rw [hrun a.eval (fun x v hx => fit_eval F hx), Oper.upon_skip, hd]
  exact hk _ F
theorem go_call {w : World} {a : Act} {f : FuncId} {fn : Func} {ags : Array Operand} {ts : Array TypeId} {vs : List Value} {R : Ending → World → Prop} (hd : o.dst = some d) (hN : Nat.blt d N = true) (F : Fit N e a)
    (hop : o.op = .call { callee := .value (.func f), args := ags, argTypes := ts }) (hfn : Try.prog.funcs[f]? = some fn) (hb : fn.body.isNone = false) (hn : (fn.name == "runtime.NumGoroutine") = false) (hargs : evoL e ags.toList = some vs)
    (hc : Calls Try.prog f vs.toArray w R) (hk : ∀ e' w', R e' w' → ∃ v, e' = .returned v ∧ ∀ a, Fit N ((d, v) :: e) a → K a w') : o.wp Try.prog a w K Q := by
  unfold Oper.wp
  have hrun : (execOp a.eval o).run Try.prog w = .ok (.enter f vs.toArray) w := by
    have hb' : ¬ fn.body = none := fun h => by rw [h] at hb; simp at hb
    have hn' : ¬ fn.name = "runtime.NumGoroutine" := by simpa using hn
    have ha : ags.map a.eval = vs.toArray := by
      have := fit_evals F hargs
      rw [← this]; apply Array.toList_inj.1; simp
    simp [execOp, hop, resolve, Act.eval, Deferred.ofValue, invoke, callFunc, hfn, hn', hb', ha]
  rw [hrun, Oper.upon_enter]
  refine hc.mono fun e' w' h => ?_
  obtain ⟨v, rfl, h2⟩ := hk e' w' h
  show K (Act.put _ o.dst v) w'
  rw [hd]
  exact h2 _ (fit_put F hN)
/-- An operation that leaves the things as they are, met by itself. -/
theorem go_q (hd : o.dst = some d) (hN : Nat.blt d N = true) (hq : QT w0 is N o e v) (hk : GK w0 is N K ((d, v) :: e)) : GO w0 is N o e Q K := by
  intro w a M F
  refine Oper.wp_of_quiet (C := fun w' => Mem w0 w' is) (K := fun a => Fit N ((d, v) :: e) a) M (fun a w' hC hK => hk w' a hC hK) ⟨v, fun w' hC => hq w' a hC F, ?_⟩
  rw [hd]; exact fit_put F hN
theorem go_v (hd : o.dst = some d) (hN : Nat.blt d N = true) (hq : QV w0 is o e v) (hk : GK w0 is N K ((d, v) :: e)) : GO w0 is N o e Q K := go_q hd hN (qt_of hq) hk

theorem below_alloc (w : World) (ob : Obj) : Below w.heap.size w (w.alloc ob) := (Below.refl _ _).alloc (Nat.le_refl _) ob
theorem mem_box {w : World} {t : TypeId} {cs : List Value} (M : Mem w0 w is) : Mem w0 (w.alloc (.cells cs.toArray t)) (is ++ [bxI w.heap.size t cs]) :=
  mem_new M (below_alloc w _) ⟨bx_new w t cs, Nat.le_refl _⟩

theorem go_box {x : Operand} {t : TypeId} {cs : List Value} (hd : o.dst = some d) (hN : Nat.blt d N = true) (hop : o.op = .box t x) (hx : evo e x = some (v)) (hc : v.cells = cs.toArray)
    (hk : ∀ B, GK w0 (is ++ [bxI B t cs]) N K ((d, (.pointer (some ⟨B, 0, none⟩))) :: e)) : GO w0 is N o e Q K := by
  intro w ac M F
  refine go_val (v := .pointer (some ⟨w.heap.size, 0, none⟩)) (w' := w.alloc (.cells cs.toArray t)) hd hN F ?_ fun ac F => hk w.heap.size _ ac (mem_box M) F
  intro ρ F
  have hx := F _ _ hx
  simp [execOp, hop, hx, Instr.box, newVar, newRow, hc, Sem.run_bind]
theorem go_alloc {t : TypeId} {z : Value} {cs : List Value} (hd : o.dst = some d) (hN : Nat.blt d N = true) (hop : o.op = .alloc t) (hz : ∀ w, (zeroValue t).run Try.prog w = .ok z w) (hc : z.cells = cs.toArray)
    (hk : ∀ B, GK w0 (is ++ [bxI B t cs]) N K ((d, (.pointer (some ⟨B, 0, none⟩))) :: e)) : GO w0 is N o e Q K := by
  intro w ac M F
  refine go_val (v := .pointer (some ⟨w.heap.size, 0, none⟩)) (w' := w.alloc (.cells cs.toArray t)) hd hN F ?_ fun ac F => hk w.heap.size _ ac (mem_box M) F
  intro ρ F
  simp [execOp, hop, Instr.alloc, newVar, newRow, hc, Sem.run_bind, hz w]

theorem range0 : Array.range 0 = #[] := by apply Array.toList_inj.1; simp
theorem range1 : Array.range 1 = #[0] := by apply Array.toList_inj.1; simp [List.range_succ]
theorem range2 : Array.range 2 = #[0, 1] := by apply Array.toList_inj.1; simp [List.range_succ]
/-- A new block of numbers, as a list of the call's own. -/
theorem mem_row {w : World} {xs : List Int} (M : Mem w0 w is) (hl : xs.length ≤ 17592186044415) : Mem w0 (w.alloc (.cells (xs.map (Value.int .i64)).toArray 2)) (is ++ [own1I (.slice (some ⟨w.heap.size, 0, none⟩) xs.length xs.length) xs]) := by
  refine mem_new M (below_alloc w _) ⟨⟨?_, hl⟩, ?_⟩
  · refine ⟨by simp, .inr ⟨w.heap.size, xs.length, (xs.map (Value.int .i64)).toArray, rfl, Nat.zero_le _, heap_alloc_new w _, Nat.le_refl _, ?_, by simp, ?_⟩⟩
    · unfold maxLen; omega
    · rw [List.take_of_length_le (by simp)]
  · intro q hq
    simp [Value.ownBlock] at hq
    omega
theorem go_slice0 {t : TypeId} (hd : o.dst = some d) (hN : Nat.blt d N = true) (hop : o.op = .buildSlice t 0 #[]) (ht : Try.prog.underlying t = some (.slice 2))
    (hk : ∀ B : Nat, GK w0 (is ++ [own1I (.slice (some ⟨B, 0, none⟩) 0 0) []]) N K ((d, .slice (some ⟨B, 0, none⟩) 0 0) :: e)) : GO w0 is N o e Q K := by
  intro w ac M F
  refine go_val (v := .slice (some ⟨w.heap.size, 0, none⟩) 0 0) (w' := w.alloc (.cells #[] 2)) hd hN F ?_ fun ac F => hk _ _ ac (mem_row (xs := []) M (by simp)) F
  intro ρ F
  obtain ⟨i, hi, hz, hs, hb⟩ := info_parts info64
  simp [execOp, hop, Instr.buildSlice, run_underlying ht, sizeOf, typeInfo, hi, Instr.fill, newRow, range0]
theorem go_slice1 {t : TypeId} {x : Operand} {a : Int} (hd : o.dst = some d) (hN : Nat.blt d N = true) (hop : o.op = .buildSlice t 1 #[(0, x)]) (hx : evo e x = some (.int .i64 a)) (ht : Try.prog.underlying t = some (.slice 2))
    (hk : ∀ B : Nat, GK w0 (is ++ [own1I (.slice (some ⟨B, 0, none⟩) 1 1) [a]]) N K ((d, .slice (some ⟨B, 0, none⟩) 1 1) :: e)) : GO w0 is N o e Q K := by
  intro w ac M F
  refine go_val (v := .slice (some ⟨w.heap.size, 0, none⟩) 1 1) (w' := w.alloc (.cells #[.int .i64 a] 2)) hd hN F ?_ fun ac F => hk _ _ ac (mem_row (xs := [a]) M (by simp)) F
  intro ρ F
  have hx := F _ _ hx
  obtain ⟨i, hi, hz, hs, hb⟩ := info_parts info64
  simp [execOp, hop, hx, Instr.buildSlice, run_underlying ht, sizeOf, typeInfo, hi, hs, Instr.fill, newRow, zeroValue, hz, Value.cells, Sem.run_bind, range1]
theorem go_slice2 {t : TypeId} {x y : Operand} {a b : Int} (hd : o.dst = some d) (hN : Nat.blt d N = true) (hop : o.op = .buildSlice t 2 #[(0, x), (1, y)]) (hx : evo e x = some (.int .i64 a)) (hy : evo e y = some (.int .i64 b)) (ht : Try.prog.underlying t = some (.slice 2))
    (hk : ∀ B : Nat, GK w0 (is ++ [own1I (.slice (some ⟨B, 0, none⟩) 2 2) [a, b]]) N K ((d, .slice (some ⟨B, 0, none⟩) 2 2) :: e)) : GO w0 is N o e Q K := by
  intro w ac M F
  refine go_val (v := .slice (some ⟨w.heap.size, 0, none⟩) 2 2) (w' := w.alloc (.cells #[.int .i64 a, .int .i64 b] 2)) hd hN F ?_ fun ac F => hk _ _ ac (mem_row (xs := [a, b]) M (by simp)) F
  intro ρ F
  have hx := F _ _ hx; have hy := F _ _ hy
  obtain ⟨i, hi, hz, hs, hb⟩ := info_parts info64
  simp [execOp, hop, hx, hy, Instr.buildSlice, run_underlying ht, sizeOf, typeInfo, hi, hs, Instr.fill, newRow, zeroValue, hz, Value.cells, Sem.run_bind, range2]
/-- A list that is nil is a list of the call's own. -/
theorem mem_nilS {w : World} (M : Mem w0 w is) : Mem w0 w (is ++ [own1I (.slice none 0 0) []]) :=
  mem_new M (Below.refl _ _) ⟨Sl.nil w 0, fun q hq => by simp [Value.ownBlock] at hq⟩
theorem g_nilS (hk : G w0 (is ++ [own1I (.slice none 0 0) []]) N ops Q rest e) : G w0 is N ops Q rest e := fun w a M F => hk w a (mem_nilS M) F
theorem gk_nilS (hk : GK w0 (is ++ [own1I (.slice none 0 0) []]) N K e) : GK w0 is N K e := fun w a M F => hk w a (mem_nilS M) F
theorem gc_nilS {c : Code} (hk : GC w0 (is ++ [own1I (.slice none 0 0) []]) N c Q e) : GC w0 is N c Q e := fun w a M F => hk w a (mem_nilS M) F

/-- 'append(s, x)', s and the list of x things of the call's own. -/
theorem go_append {s x : Operand} {t : TypeId} {n m : Nat} {xs : List Int} {u : Value} {y : Int} (hd : o.dst = some d) (hN : Nat.blt d N = true) (hop : o.op = .call { callee := .builtin .append, args := #[s, x], argTypes := #[t, t] }) (ht : Try.prog.underlying t = some (.slice 2))
    (hs : evo e s = some v) (hx : evo e x = some u) (hi : is[n]? = some (own1I v xs)) (hj : is[m]? = some (own1I u [y])) (hn : xs.length + 1 ≤ 17592186044415)
    (hk : ∀ a cap, GK w0 (is.set n (own1I (.slice a (xs ++ [y]).length cap) (xs ++ [y]))) N K ((d, .slice a (xs ++ [y]).length cap) :: e)) : GO w0 is N o e Q K := by
  intro w ac M F
  have hu := (mem_own1 M hj).rd
  obtain ⟨ad, cap, hv, _, hc⟩ := hu
  obtain ⟨b, off, ha, _, hcell⟩ := hc 0 (by simp)
  subst ha
  have hv : u = .slice (some ⟨b, off, none⟩) 1 cap := hv
  obtain ⟨S, hS, hp, hset⟩ := mem_set M hi
  have h0 : w.cell? ⟨b, off, none⟩ = some (.int .i64 y) := by simpa using hcell 0 (by simp)
  obtain ⟨i, hi', hz, hs1, hb⟩ := info_parts info64
  obtain ⟨v', w', hr, hown, hgrow, _, hat⟩ := run_append_own_at (P := Try.prog) w 0 t o.type 2 i (.int .i64 0) 1 8 ht hi' hz hs1 hb rfl (by decide) v xs.length (xs.map (Value.int .i64)) hp.1.1 ⟨b, off, none⟩ 1 cap [.int .i64 y] rfl (fun j u hu => by
    cases j with
    | zero => simp at hu; subst hu; simpa [Addr.add] using h0
    | succ j => simp at hu) (by simp [Value.oneCell']) (by unfold maxLen; omega) (by omega) (Nat.zero_le _)
  have hsl : Sl w' 0 v' (xs ++ [y]) := ⟨by simpa using hown, by simpa using hn⟩
  obtain ⟨va, vc, rfl, _⟩ := sl_form hsl
  refine go_val (v := .slice va (xs ++ [y]).length vc) (w' := w') hd hN F ?_ fun ac F => hk va vc w' ac (hset w' (own1I (.slice va (xs ++ [y]).length vc) (xs ++ [y])) (frS_grown hgrow hp.2) ⟨hsl, fun q hq => ?_⟩) F
  · intro ρ F; have hs := F _ _ hs; have hx := F _ _ hx
    simp only [execOp, hop, resolve, invoke, builtin, Sem.run_bind, Sem.run_pure, Result.andThen_ok, List.map_toArray, List.map_cons, List.map_nil, hs, hx, hv]
    rw [hr]
    rfl
  · rcases hat with hat | hat
    · exact .inl (hp.2 q (by rw [← hat]; exact hq))
    · rw [hat] at hq
      simp only [Option.some.injEq] at hq
      exact .inr (by omega)
end
end Go.Proofs.Ytakifeiemcldlaa
