
/- The rules of a walk in blocks of its own: stores, structs, calls that hand memory back, returns. -/
import Derived.Test.YtakifeiemcldlaaRul2
import Derived.Laws.StructEq
namespace Go.Proofs.Ytakifeiemcldlaa
open Go.RowKit

section
variable {w0 : World} {is : List Itm} {ops : Array Oper} {Q : Exit → Act → World → Prop} {o : Oper} {rest : List Oper} {N : Nat} {e : Env} {v : Value} {d : Nat} {K : Act → World → Prop}

def evP (e : Env) : List (Nat × Operand) → Option (List (Nat × Value))
  | [] => some []
  | (k, x) :: xs => match evo e x, evP e xs with
    | some v, some vs => some ((k, v) :: vs)
    | _, _ => none
theorem evP_map {ρ : Operand → Value} (F : ∀ x v, evo e x = some v → ρ x = v) : ∀ {ps : List (Nat × Operand)} {vs : List (Nat × Value)}, evP e ps = some vs → ps.map (fun p => (p.1, ρ p.2)) = vs
  | [], vs, h => by simpa [evP] using h
  | (k, x) :: ps, vs, h => by
    unfold evP at h
    cases h1 : evo e x with
    | none => rw [h1] at h; simp at h
    | some v =>
      cases h2 : evP e ps with
      | none => rw [h1, h2] at h; simp at h
      | some us =>
        rw [h1, h2] at h
        simp only [Option.some.injEq] at h
        rw [← h, List.map_cons, F x v h1, evP_map F h2]
theorem qt_build {t : TypeId} {parts : Array (Nat × Operand)} {vs : List (Nat × Value)} {cs : Array Value} (hop : o.op = .build t parts) (hp : evP e parts.toList = some vs) (hv : Try.prog.built t vs = some cs) : QV w0 is o e (.agg cs) :=
  fun w ac M F => by
    have h2 : (parts.map fun (i, x) => (i, ac x)).toList = vs := by
      rw [← evP_map F hp]; simp
    simp only [execOp, hop, Sem.run_bind, run_build w t _ cs (by rw [h2]; exact hv), Result.andThen_ok]
    rfl
theorem qt_eqA {x y : Operand} {t u : TypeId} {xs ys : Array Value} {b : Bool} (hop : o.op = .binOp .eql t x y u) (hx : evo e x = some (.agg xs)) (hy : evo e y = some (.agg ys))
    (he : ∀ w, (Op.equalIn 10000 t (.agg xs) (.agg ys)).run Try.prog w = .ok b w) (hg : Try.prog.eqGuardType Try.prog.depth t = false) : QV w0 is o e (.bool b) :=
  fun w ac M F => by
    have hx := F _ _ hx; have hy := F _ _ hy
    simp [execOp, hop, hx, hy, run_eqGuard_agg _ _ _ _ _ _ _ hg, run_eql_struct, he w]
theorem qt_neA {x y : Operand} {t u : TypeId} {xs ys : Array Value} {b : Bool} (hop : o.op = .binOp .neq t x y u) (hx : evo e x = some (.agg xs)) (hy : evo e y = some (.agg ys))
    (he : ∀ w, (Op.equalIn 10000 t (.agg xs) (.agg ys)).run Try.prog w = .ok b w) (hg : Try.prog.eqGuardType Try.prog.depth t = false) : QV w0 is o e (.bool (!b)) :=
  fun w ac M F => by
    have hx := F _ _ hx; have hy := F _ _ hy
    simp [execOp, hop, hx, hy, run_eqGuard_agg _ _ _ _ _ _ _ hg, run_neq_struct, he w]
theorem eqA_arrowEnds (a1 a2 b1 b2 : Int) (w : World) : (Op.equalIn 10000 73 (.agg #[.int .i64 a1, .int .i64 a2]) (.agg #[.int .i64 b1, .int .i64 b2])).run Try.prog w = .ok (decide (a1 = b1 ∧ a2 = b2)) w := by
  rw [run_equalIn_struct _ 9999 _ _ _ (by kernel_rfl) (by kernel_rfl)]
  simp only [Program.fieldsOf, Try.underlying73]
  by_cases h1 : a1 = b1 <;> by_cases h2 : a2 = b2 <;> simp [go_sem, h1, h2, Op.eqFields]
theorem eqG_arrowEnds : Try.prog.eqGuardType Try.prog.depth 73 = false := by kernel_rfl
theorem eqA_arrowPair (a1 a2 b1 b2 : Int) (w : World) : (Op.equalIn 10000 89 (.agg #[.int .i64 a1, .int .i64 a2]) (.agg #[.int .i64 b1, .int .i64 b2])).run Try.prog w = .ok (decide (a1 = b1 ∧ a2 = b2)) w := by
  rw [run_equalIn_struct _ 9999 _ _ _ (by kernel_rfl) (by kernel_rfl)]
  simp only [Program.fieldsOf, Try.underlying89]
  by_cases h1 : a1 = b1 <;> by_cases h2 : a2 = b2 <;> simp [go_sem, h1, h2, Op.eqFields]
theorem eqG_arrowPair : Try.prog.eqGuardType Try.prog.depth 89 = false := by kernel_rfl
theorem eqA_fault (a1 a2 a3 a4 b1 b2 b3 b4 : Int) (w : World) : (Op.equalIn 10000 64 (.agg #[.int .i64 a1, .int .i64 a2, .int .i64 a3, .int .i64 a4]) (.agg #[.int .i64 b1, .int .i64 b2, .int .i64 b3, .int .i64 b4])).run Try.prog w = .ok (decide (a1 = b1 ∧ a2 = b2 ∧ a3 = b3 ∧ a4 = b4)) w := by
  rw [run_equalIn_struct _ 9999 _ _ _ (by kernel_rfl) (by kernel_rfl)]
  simp only [Program.fieldsOf, Try.underlying64]
  by_cases h1 : a1 = b1 <;> by_cases h2 : a2 = b2 <;> by_cases h3 : a3 = b3 <;> by_cases h4 : a4 = b4 <;> simp [go_sem, h1, h2, h3, h4, Op.eqFields]
theorem eqG_fault : Try.prog.eqGuardType Try.prog.depth 64 = false := by kernel_rfl

theorem fr_setB {w : World} {S : Nat → Prop} {B : Nat} (h : S B) (j : Nat) (u : Value) : FrS S w (w.setCell ⟨B, j, none⟩ u) := frS_set h
theorem go_storeB {t tb : TypeId} {x y : Operand} {n B j : Nat} {cs : List Value} {u : Value} (hd : o.dst = none) (hop : o.op = .store t x y) (hx : evo e x = some (.pointer (some ⟨B, j, none⟩))) (hy : evo e y = some (u))
    (hs : (Try.prog.info? t).map (·.size) = some 1) (h1 : u.oneCell' = true) (h2 : u.cells = #[u]) (hi : is[n]? = some (bxI B tb cs)) (hj : j < cs.length)
    (hk : GK w0 (is.set n (bxI B tb (cs.set j u))) N K e) : GO w0 is N o e Q K := by
  intro w ac M F
  obtain ⟨inf, hi2, hz⟩ := Option.map_eq_some_iff.1 hs
  obtain ⟨S, hS, hp, hset⟩ := mem_set M hi
  have hb : Bx w B tb cs := hp.1
  have hc := bx_cell hb j (List.getElem?_eq_getElem hj)
  have hf := bx_frozen hb j
  refine go_skip (w' := w.setCell ⟨B, j, none⟩ u) hd F ?_ fun a F => hk _ a (hset _ _ (frS_set hp.2) ⟨bx_set hb j u, .inl hp.2⟩) F
  have hadd : (⟨B, j, none⟩ : Addr).add 0 = ⟨B, j, none⟩ := by simp [Addr.add]
  intro ρ F; have hx := F _ _ hx; have hy := F _ _ hy
  simp [execOp, hop, hx, hy, Instr.storeAt, Instr.sureAddr, storeVar, sizeOf, typeInfo, hi2, hz, h2, storeCells, hadd, run_store _ _ _ _ _ h1, hc, hf]
theorem go_storeS {t tb : TypeId} {x y : Operand} {n B : Nat} {cs cs' : List Value} (hd : o.dst = none) (hop : o.op = .store t x y) (hx : evo e x = some (.pointer (some ⟨B, 0, none⟩))) (hy : evo e y = some (.agg cs'.toArray))
    (hs : (Try.prog.info? t).map (·.size) = some cs'.length) (h1 : cs'.all (·.oneCell') = true) (hi : is[n]? = some (bxI B tb cs)) (hl : cs.length = cs'.length)
    (hk : GK w0 (is.set n (bxI B tb cs')) N K e) : GO w0 is N o e Q K := by
  intro w ac M F
  obtain ⟨S, hS, hp, hset⟩ := mem_set M hi
  have hb : w.heap[B]? = some (.cells cs.toArray tb (0, 0)) := hp.1
  refine go_skip (w' := w.setRow B cs'.toArray) hd F ?_ fun a F => hk _ a (hset _ _ ⟨rfl, rfl, rfl, by simp, fun k hk hr => setRow_other w B k _ (fun e => hr (by rw [e]; exact hp.2))⟩ ⟨setRow_heap w B _ _ tb (0, 0) hb, .inl hp.2⟩) F
  intro ρ F; have hx := F _ _ hx; have hy := F _ _ hy
  simp [execOp, hop, hx, hy, Instr.storeAt, Instr.sureAddr, run_storeVar_row w B tb t cs.toArray cs'.toArray hb (by simpa using hs) (by simpa using hl) (by simpa using h1)]

section
variable {f : FuncId} {fn : Func} {ags : Array Operand} {ts : Array TypeId} {vs : List Value}
theorem go_callL {xs : List Int} (hd : o.dst = some d) (hN : Nat.blt d N = true) (hop : o.op = .call { callee := .value (.func f), args := ags, argTypes := ts }) (hfn : Try.prog.funcs[f]? = some fn) (hb : fn.body.isNone = false) (hn : (fn.name == "runtime.NumGoroutine") = false)
    (hargs : evoL e ags.toList = some vs) (hc : ∀ w, Mem w0 w is → Calls Try.prog f vs.toArray w (RetL w xs)) (hk : ∀ a cap, GK w0 (is ++ [own1I (.slice a xs.length cap) xs]) N K ((d, .slice a xs.length cap) :: e)) : GO w0 is N o e Q K := by
  intro w a M F
  refine go_call hd hN F hop hfn hb hn hargs (hc w M) fun e' w' hR => ?_
  obtain ⟨v, rfl, hs, hbl⟩ := hR
  obtain ⟨va, vc, rfl, _⟩ := sl_form hs
  exact ⟨_, rfl, fun a F => hk va vc w' a (mem_new M hbl (own1_of hs)) F⟩
theorem go_callLI {xs : List Int} {c : Int} (hd : o.dst = some d) (hN : Nat.blt d N = true) (hop : o.op = .call { callee := .value (.func f), args := ags, argTypes := ts }) (hfn : Try.prog.funcs[f]? = some fn) (hb : fn.body.isNone = false) (hn : (fn.name == "runtime.NumGoroutine") = false)
    (hargs : evoL e ags.toList = some vs) (hc : ∀ w, Mem w0 w is → Calls Try.prog f vs.toArray w (RetLI w xs c)) (hk : ∀ a cap, GK w0 (is ++ [own1I (.slice a xs.length cap) xs]) N K ((d, .tuple #[.slice a xs.length cap, .int .i64 c]) :: e)) : GO w0 is N o e Q K := by
  intro w a M F
  refine go_call hd hN F hop hfn hb hn hargs (hc w M) fun e' w' hR => ?_
  obtain ⟨v, rfl, hs, hbl⟩ := hR
  obtain ⟨va, vc, rfl, _⟩ := sl_form hs
  exact ⟨_, rfl, fun a F => hk va vc w' a (mem_new M hbl (own1_of hs)) F⟩
theorem go_callR {xs : List (List Int)} (hd : o.dst = some d) (hN : Nat.blt d N = true) (hop : o.op = .call { callee := .value (.func f), args := ags, argTypes := ts }) (hfn : Try.prog.funcs[f]? = some fn) (hb : fn.body.isNone = false) (hn : (fn.name == "runtime.NumGoroutine") = false)
    (hargs : evoL e ags.toList = some vs) (hc : ∀ w, Mem w0 w is → Calls Try.prog f vs.toArray w (RetR w xs)) (hk : ∀ a cap us, GK w0 (is ++ [own2U (.slice a xs.length cap) us xs]) N K ((d, .slice a xs.length cap) :: e)) : GO w0 is N o e Q K := by
  intro w a M F
  refine go_call hd hN F hop hfn hb hn hargs (hc w M) fun e' w' hR => ?_
  obtain ⟨v, rfl, hs, hbl⟩ := hR
  obtain ⟨va, vc, rfl⟩ := rd2_form (sl2_rd hs)
  obtain ⟨us, hu⟩ := own2_of hs
  exact ⟨_, rfl, fun a F => hk va vc us w' a (mem_new M hbl hu) F⟩
theorem go_callC {c : Cat} (hd : o.dst = some d) (hN : Nat.blt d N = true) (hop : o.op = .call { callee := .value (.func f), args := ags, argTypes := ts }) (hfn : Try.prog.funcs[f]? = some fn) (hb : fn.body.isNone = false) (hn : (fn.name == "runtime.NumGoroutine") = false)
    (hargs : evoL e ags.toList = some vs) (hc : ∀ w, Mem w0 w is → Calls Try.prog f vs.toArray w (RetC w c)) (hk : ∀ a1 k1 a2 k2 a3 k3 a4 k4 uu, GK w0 (is ++ [own1I (.slice a1 c.s.length k1) c.s, own1I (.slice a2 c.t.length k2) c.t, own1I (.slice a3 c.e.length k3) c.e, own2U (.slice a4 c.m.length k4) uu c.m]) N K ((d, .agg #[.int .i64 c.ob, .slice a1 c.s.length k1, .slice a2 c.t.length k2, .slice a3 c.e.length k3, .slice a4 c.m.length k4]) :: e)) : GO w0 is N o e Q K := by
  intro w a M F
  refine go_call hd hN F hop hfn hb hn hargs (hc w M) fun e' w' hR => ?_
  obtain ⟨v, rfl, hs, hbl⟩ := hR
  obtain ⟨a1, a2, a3, a4, k1, k2, k3, k4, uu, rfl, hst⟩ := star_ownC hs
  exact ⟨_, rfl, fun a F => hk a1 k1 a2 k2 a3 k3 a4 k4 uu w' a (mem_news M hbl hst) F⟩
theorem go_callCI {c : Cat} {n : Int} (hd : o.dst = some d) (hN : Nat.blt d N = true) (hop : o.op = .call { callee := .value (.func f), args := ags, argTypes := ts }) (hfn : Try.prog.funcs[f]? = some fn) (hb : fn.body.isNone = false) (hn : (fn.name == "runtime.NumGoroutine") = false)
    (hargs : evoL e ags.toList = some vs) (hc : ∀ w, Mem w0 w is → Calls Try.prog f vs.toArray w (RetCI w c n)) (hk : ∀ a1 k1 a2 k2 a3 k3 a4 k4 uu, GK w0 (is ++ [own1I (.slice a1 c.s.length k1) c.s, own1I (.slice a2 c.t.length k2) c.t, own1I (.slice a3 c.e.length k3) c.e, own2U (.slice a4 c.m.length k4) uu c.m]) N K ((d, .tuple #[.agg #[.int .i64 c.ob, .slice a1 c.s.length k1, .slice a2 c.t.length k2, .slice a3 c.e.length k3, .slice a4 c.m.length k4], .int .i64 n]) :: e)) : GO w0 is N o e Q K := by
  intro w a M F
  refine go_call hd hN F hop hfn hb hn hargs (hc w M) fun e' w' hR => ?_
  obtain ⟨v, rfl, hs, hbl⟩ := hR
  obtain ⟨a1, a2, a3, a4, k1, k2, k3, k4, uu, rfl, hst⟩ := star_ownC hs
  exact ⟨_, rfl, fun a F => hk a1 k1 a2 k2 a3 k3 a4 k4 uu w' a (mem_news M hbl hst) F⟩
end

/-! ### Returns -/
theorem fit_res {a : Act} (F : Fit N e a) {t : Nat} (h : look e t = some v) : a.tmps[t]?.getD undef = v := by rw [F.at_ t v h]; rfl
theorem ret_1 {fn : Func} {t : Nat} {R : Ending → World → Prop} (h : fn.results = #[.tmp t]) (hv : look e t = some v) (hR : ∀ w, Mem w0 w is → R (.returned v) w) : GK w0 is N (bodyPost Try.prog fn R .ret) e :=
  fun w ac M F => bodyPost_ret (v := v) (by rw [results_tmp h]; simp [fit_res F hv]) F.defers (hR w M)
theorem ret_2 {fn : Func} {t u : Nat} {a b : Value} {R : Ending → World → Prop} (h : fn.results = #[.tmp t, .tmp u]) (ha : look e t = some a) (hb : look e u = some b) (hR : ∀ w, Mem w0 w is → R (.returned (.tuple #[a, b])) w) : GK w0 is N (bodyPost Try.prog fn R .ret) e :=
  fun w ac M F => bodyPost_ret (v := .tuple #[a, b]) (by simp [results, h, fit_res F ha, fit_res F hb]) F.defers (hR w M)
theorem ret_3 {fn : Func} {t u s : Nat} {a b c : Value} {R : Ending → World → Prop} (h : fn.results = #[.tmp t, .tmp u, .tmp s]) (ha : look e t = some a) (hb : look e u = some b) (hc : look e s = some c) (hR : ∀ w, Mem w0 w is → R (.returned (.tuple #[a, b, c])) w) : GK w0 is N (bodyPost Try.prog fn R .ret) e :=
  fun w ac M F => bodyPost_ret (v := .tuple #[a, b, c]) (by simp [results, h, fit_res F ha, fit_res F hb, fit_res F hc]) F.defers (hR w M)
theorem ret_4 {fn : Func} {t u s r : Nat} {a b c g : Value} {R : Ending → World → Prop} (h : fn.results = #[.tmp t, .tmp u, .tmp s, .tmp r]) (ha : look e t = some a) (hb : look e u = some b) (hc : look e s = some c) (hg : look e r = some g) (hR : ∀ w, Mem w0 w is → R (.returned (.tuple #[a, b, c, g])) w) : GK w0 is N (bodyPost Try.prog fn R .ret) e :=
  fun w ac M F => bodyPost_ret (v := .tuple #[a, b, c, g]) (by simp [results, h, fit_res F ha, fit_res F hb, fit_res F hc, fit_res F hg]) F.defers (hR w M)
theorem ret_5 {fn : Func} {t u s r q : Nat} {a b c g z : Value} {R : Ending → World → Prop} (h : fn.results = #[.tmp t, .tmp u, .tmp s, .tmp r, .tmp q]) (ha : look e t = some a) (hb : look e u = some b) (hc : look e s = some c) (hg : look e r = some g) (hz : look e q = some z) (hR : ∀ w, Mem w0 w is → R (.returned (.tuple #[a, b, c, g, z])) w) : GK w0 is N (bodyPost Try.prog fn R .ret) e :=
  fun w ac M F => bodyPost_ret (v := .tuple #[a, b, c, g, z]) (by simp [results, h, fit_res F ha, fit_res F hb, fit_res F hc, fit_res F hg, fit_res F hz]) F.defers (hR w M)
theorem run_loadS {w : World} {t tb : TypeId} {n B : Nat} {cs : List Value} {td : TypeDesc} (M : Mem w0 w is) (ht : Try.prog.underlying t = some td) (hd : aggT td = true) (hs : (Try.prog.info? t).map (·.size) = some cs.length) (hi : is[n]? = some (bxI B tb cs)) :
    (loadVar t ⟨B, 0, none⟩).run Try.prog w = .ok (.agg cs.toArray) w :=
  run_loadVar_row w B tb t cs.toArray (0, 0) td (mem_bx M hi) ht (by cases td <;> simp_all [aggT]) (by simpa using hs)
theorem ret_S {fn : Func} {a n B : Nat} {t tb : TypeId} {cs : List Value} {td : TypeDesc} {R : Ending → World → Prop} (h : fn.results = #[.cell a t]) (ha : look e a = some (.pointer (some ⟨B, 0, none⟩))) (ht : Try.prog.underlying t = some td) (hd : aggT td = true) (hs : (Try.prog.info? t).map (·.size) = some cs.length) (hi : is[n]? = some (bxI B tb cs))
    (hR : ∀ w, Mem w0 w is → R (.returned (.agg cs.toArray)) w) : GK w0 is N (bodyPost Try.prog fn R .ret) e :=
  fun w ac M F => bodyPost_ret (v := .agg cs.toArray) (by
    have h2 := fit_res F ha
    simp [results, h, h2, asAddr, run_loadS M ht hd hs hi]) F.defers (hR w M)
theorem ret_SI {fn : Func} {a b n B : Nat} {t tb : TypeId} {cs : List Value} {td : TypeDesc} {R : Ending → World → Prop} (h : fn.results = #[.cell a t, .tmp b]) (ha : look e a = some (.pointer (some ⟨B, 0, none⟩))) (hb : look e b = some v) (ht : Try.prog.underlying t = some td) (hd : aggT td = true) (hs : (Try.prog.info? t).map (·.size) = some cs.length) (hi : is[n]? = some (bxI B tb cs))
    (hR : ∀ w, Mem w0 w is → R (.returned (.tuple #[.agg cs.toArray, v])) w) : GK w0 is N (bodyPost Try.prog fn R .ret) e :=
  fun w ac M F => bodyPost_ret (v := .tuple #[.agg cs.toArray, v]) (by
    have h2 := fit_res F ha
    simp [results, h, h2, asAddr, run_loadS M ht hd hs hi, fit_res F hb]) F.defers (hR w M)
end
end Go.Proofs.Ytakifeiemcldlaa
