
/- Calls of any function value; what is true of a function value as long as its blocks are left alone; lists of function values. -/
import Derived.Test.YtgkfampgofjkfaaBxv
set_option linter.unusedSimpArgs false
set_option linter.unusedVariables false
set_option linter.unusedSectionVars false
namespace Go.Proofs.Ytgkfampgofjkfaa
open Go.RowKit
/-- A call of the value with these arguments enters a function, which meets R. -/
def CallsV (v : Value) (vs : List Value) (w : World) (R : Ending → World → Prop) : Prop :=
  ∃ (f : FuncId) (us : Array Value), ((Deferred.ofValue v vs.toArray >>= fun d => invoke d.target d.args : Sem Next).run Try.prog w = .ok (.enter f us) w) ∧ Calls Try.prog f us w R
theorem callsV_f {f : FuncId} {fn : Func} {bnd vs caps : List Value} {w : World} {R : Ending → World → Prop} (hfn : Try.prog.funcs[f]? = some fn) (hb : fn.body.isNone = false) (hn : (fn.name == "runtime.NumGoroutine") = false)
    (hc : Calls Try.prog f (bnd ++ vs ++ caps).toArray w R) : CallsV (.func (.func f) bnd.toArray caps.toArray) vs w R := by
  refine ⟨f, (bnd ++ vs ++ caps).toArray, ?_, hc⟩
  have hb' : ¬ fn.body = none := fun h => by rw [h] at hb; simp at hb
  have hn' : ¬ fn.name = "runtime.NumGoroutine" := by simpa using hn
  simp [Deferred.ofValue, invoke, callFunc, hfn, hn', hb']
theorem CallsV.mono {v : Value} {vs : List Value} {w : World} {R R' : Ending → World → Prop} (h : CallsV v vs w R) (hR : ∀ e w', R e w' → R' e w') : CallsV v vs w R' := by
  obtain ⟨f, us, h1, h2⟩ := h
  exact ⟨f, us, h1, h2.mono hR⟩
section
variable {w0 : World} {is : List Itm} {ops : Array Oper} {Q : Exit → Act → World → Prop} {o : Oper} {N : Frm} {e : Env} {v u : Value} {d : Nat} {K : Act → World → Prop} {f : FuncId} {fn : Func} {ags : Array Operand} {ts : Array TypeId} {vs : List Value}
theorem run_enterV {x : Operand} {R : Ending → World → Prop} (hop : o.op = .call { callee := .value x, args := ags, argTypes := ts }) (hx : evo e x = some u) (hargs : evoL e ags.toList = some vs) {w : World} {a : Act} (F : Fit N e a) (hc : CallsV u vs w R) :
    ∃ f us, (execOp a.eval o).run Try.prog w = .ok (.enter f us) w ∧ Calls Try.prog f us w R := by
  obtain ⟨f, us, h1, h2⟩ := hc
  refine ⟨f, us, ?_, h2⟩
  have ha : ags.map a.eval = vs.toArray := by
    have := fit_evals F hargs
    rw [← this]; apply Array.toList_inj.1; simp
  have hx' := fit_eval F hx
  simp only [execOp, hop, resolve, hx', ha]
  exact h1
theorem qt_callV {x : Operand} (hop : o.op = .call { callee := .value x, args := ags, argTypes := ts }) (hx : evo e x = some u) (hargs : evoL e ags.toList = some vs)
    (hc : ∀ w, Mem w0 w is → CallsV u vs w (fun e w' => e = .returned v ∧ Below w.heap.size w w')) : QT w0 is N o e v := by
  intro w ac M F
  unfold Oper.quietAt
  obtain ⟨f, us, h1, h2⟩ := run_enterV hop hx hargs F (hc w M)
  rw [h1]
  exact ⟨rfl, h2.mono fun e w' h => ⟨h.1, mem_keep M h.2⟩⟩
theorem go_callV {w : World} {a : Act} {x : Operand} {R : Ending → World → Prop} (hd : o.dst = some d) (hN : Nat.blt d N = true) (F : Fit N e a) (hop : o.op = .call { callee := .value x, args := ags, argTypes := ts }) (hx : evo e x = some u) (hargs : evoL e ags.toList = some vs)
    (hc : CallsV u vs w R) (hk : ∀ e' w', R e' w' → ∃ v, e' = .returned v ∧ ∀ a, Fit N ((d, v) :: e) a → K a w') : o.wp Try.prog a w K Q := by
  unfold Oper.wp
  obtain ⟨f, us, h1, h2⟩ := run_enterV hop hx hargs F hc
  rw [h1, Oper.upon_enter]
  refine h2.mono fun e' w' h => ?_
  obtain ⟨v, rfl, h2⟩ := hk e' w' h
  show K (Act.put _ o.dst v) w'
  rw [hd]
  exact h2 _ (fit_put F hN)
theorem go_callVL {x : Operand} {xs : List Int} (hd : o.dst = some d) (hN : Nat.blt d N = true) (hop : o.op = .call { callee := .value x, args := ags, argTypes := ts }) (hx : evo e x = some u) (hargs : evoL e ags.toList = some vs)
    (hc : ∀ w, Mem w0 w is → CallsV u vs w (RetL w xs)) (hk : ∀ a cap, GK w0 (is ++ [own1I (.slice a xs.length cap) xs]) N K ((d, .slice a xs.length cap) :: e)) : GO w0 is N o e Q K := by
  intro w a M F
  refine go_callV hd hN F hop hx hargs (hc w M) fun e' w' hR => ?_
  obtain ⟨v, rfl, hs, hb⟩ := hR
  obtain ⟨va, vc, rfl, _⟩ := sl_form hs
  exact ⟨_, rfl, fun a F => hk va vc w' a (mem_new M hb ⟨hs.mono (Nat.zero_le _), fun q hq => (hs.1.lt q hq).1⟩) F⟩
end
/-- What is true of each world behind w0 that has the blocks as they are. -/
theorem fv_loc (w0 : World) (Sp : World → Prop) : Loc (fun w S => ∀ w', Below w0.heap.size w0 w' → (∀ k, k < w.heap.size → S k → w'.heap[k]? = w.heap[k]?) → Sp w') where
  keep {w w' S S'} hs ha h := fun w'' hb hk => h w'' hb fun k h1 h2 => by
    have e := ha k h1 h2
    refine (hk k ?_ (hs k h1 h2)).trans e
    rw [Array.getElem?_eq_getElem h1] at e
    exact (Array.getElem?_eq_some_iff.1 e).1
def fvI (w0 : World) (Sp : World → Prop) : Itm := ⟨_, fv_loc w0 Sp⟩
theorem mem_fv {w0 w : World} {is : List Itm} {n : Nat} {Sp : World → Prop} (M : Mem w0 w is) (h : is[n]? = some (fvI w0 Sp)) {w' : World} (hb : Below w.heap.size w w') : Sp w' := by
  obtain ⟨S, _, hp⟩ := mem_get M h
  exact hp w' (M.1.trans (hb.mono M.1.size)) fun k hk _ => hb.block k hk
theorem mem_fv0 {w0 w : World} {is : List Itm} {n : Nat} {Sp : World → Prop} (M : Mem w0 w is) (h : is[n]? = some (fvI w0 Sp)) : Sp w := mem_fv M h (Below.refl _ _)
/-- A function of one number. -/
def IsFn (v : Value) : Prop := ∃ (f : Fn) (a b : Array Value), v = .func f a b
theorem IsFn.cells {v : Value} (h : IsFn v) : v.cells = #[v] := by obtain ⟨f, a, b, rfl⟩ := h; rfl
theorem IsFn.one {v : Value} (h : IsFn v) : v.oneCell' = true := by obtain ⟨f, a, b, rfl⟩ := h; rfl
def SpI (m : Nat) (φ : Int → Int) (w : World) (v : Value) : Prop := IsFn v ∧ ∀ g : Int, 0 ≤ g → g < m → CallsV v [.int .i64 g] w (RetI w (φ g))
/-- A call hands a function value back, of which something is true in each world behind W0 that leaves its blocks alone. -/
def RetFv (W0 W : World) (Sp : World → Value → Prop) (e : Ending) (w' : World) : Prop :=
  ∃ v, e = .returned v ∧ (∀ w'', Below W0.heap.size W0 w'' → (∀ k, W.heap.size ≤ k → k < w'.heap.size → w''.heap[k]? = w'.heap[k]?) → Sp w'' v) ∧ Below W.heap.size W w'
section
variable {w0 : World} {is : List Itm} {ops : Array Oper} {Q : Exit → Act → World → Prop} {o : Oper} {N : Frm} {e : Env} {v u : Value} {d : Nat} {K : Act → World → Prop} {f : FuncId} {fn : Func} {ags : Array Operand} {ts : Array TypeId} {vs : List Value}
theorem mem_newFv {w w' : World} {Sp : World → Value → Prop} (M : Mem w0 w is) (hs : ∀ w'', Below w0.heap.size w0 w'' → (∀ k, w.heap.size ≤ k → k < w'.heap.size → w''.heap[k]? = w'.heap[k]?) → Sp w'' v) (hb : Below w.heap.size w w') : Mem w0 w' (is ++ [fvI w0 (fun w => Sp w v)]) :=
  mem_new M hb fun w'' h1 h2 => hs w'' h1 fun k h3 h4 => h2 k h4 h3
theorem go_callFv {Sp : World → Value → Prop} (hd : o.dst = some d) (hN : Nat.blt d N = true) (hop : o.op = .call { callee := .value (.func f), args := ags, argTypes := ts }) (hfn : Try.prog.funcs[f]? = some fn) (hb : fn.body.isNone = false) (hn : (fn.name == "runtime.NumGoroutine") = false)
    (hargs : evoL e ags.toList = some vs) (hc : ∀ w, Mem w0 w is → Calls Try.prog f vs.toArray w (RetFv w0 w Sp)) (hk : ∀ v, GK w0 (is ++ [fvI w0 (fun w => Sp w v)]) N K ((d, v) :: e)) : GO w0 is N o e Q K := by
  intro w a M F
  refine go_call hd hN F hop hfn hb hn hargs (hc w M) fun e' w' hR => ?_
  obtain ⟨v, rfl, hs, hb⟩ := hR
  exact ⟨_, rfl, fun a F => hk v w' a (mem_newFv M hs hb) F⟩
theorem go_callVFv {x : Operand} {Sp : World → Value → Prop} (hd : o.dst = some d) (hN : Nat.blt d N = true) (hop : o.op = .call { callee := .value x, args := ags, argTypes := ts }) (hx : evo e x = some u)
    (hargs : evoL e ags.toList = some vs) (hc : ∀ w, Mem w0 w is → CallsV u vs w (RetFv w0 w Sp)) (hk : ∀ v, GK w0 (is ++ [fvI w0 (fun w => Sp w v)]) N K ((d, v) :: e)) : GO w0 is N o e Q K := by
  intro w a M F
  refine go_callV hd hN F hop hx hargs (hc w M) fun e' w' hR => ?_
  obtain ⟨v, rfl, hs, hb⟩ := hR
  exact ⟨_, rfl, fun a F => hk v w' a (mem_newFv M hs hb) F⟩
end
/-- A slice whose cells hold these values. -/
def RdV (w : World) (v : Value) (us : List Value) : Prop :=
  ∃ (a : Option Addr) (cap : Nat), v = .slice a us.length cap ∧ us.length ≤ 17592186044415 ∧
    ∀ j, j < us.length → ∃ b off, a = some ⟨b, off, none⟩ ∧ b < w.heap.size ∧ ∀ i, i < us.length → w.cell? ⟨b, off + i, none⟩ = some (us.getD i undef)
theorem rdV_below {w w' : World} {v : Value} {us : List Value} (hb : Below w.heap.size w w') (h : RdV w v us) : RdV w' v us := by
  obtain ⟨a, cap, hv, hl, hc⟩ := h
  refine ⟨a, cap, hv, hl, fun j hj => ?_⟩
  obtain ⟨b, off, ha, hbs, hcell⟩ := hc j hj
  exact ⟨b, off, ha, Nat.lt_of_lt_of_le hbs hb.size, fun i hi => (hb.cell (p := ⟨b, off + i, none⟩) hbs).trans (hcell i hi)⟩
theorem mem_rdV {w0 w : World} {is : List Itm} {v : Value} {us : List Value} (M : Mem w0 w is) (h : RdV w0 v us) : RdV w v us := rdV_below M.1 h
theorem rdV_form {w : World} {v : Value} {us : List Value} (h : RdV w v us) : ∃ a cap, v = .slice a us.length cap := by
  obtain ⟨a, cap, hv, _⟩ := h; exact ⟨a, cap, hv⟩
theorem lenV_V {w : World} {v : Value} {us : List Value} (h : RdV w v us) : LenV v us.length := rdV_form h
theorem lenA_V {w : World} {v : Value} {us : List Value} (h : RdV w v us) : LenA v us.length := by
  obtain ⟨a, cap, hv, _, hc⟩ := h
  exact ⟨a, cap, hv, fun h0 => let ⟨b, off, ha, _⟩ := hc 0 h0; ⟨b, off, ha⟩⟩
theorem qt_loadV {w0 : World} {is : List Itm} {o : Oper} {e : Env} {x : Operand} {t : TypeId} {u : Value} {us : List Value} {i : Int} {td : TypeDesc} (hop : o.op = .load t x) (hx : evo e x = some (eltP u i)) (ht : Try.prog.underlying t = some td) (hd : aggT td = false)
    (hr : ∀ w, Mem w0 w is → RdV w u us) (h0 : 0 ≤ i) (h1 : i < us.length) : QV w0 is o e (us.getD i.toNat undef) :=
  fun w ac M F => by
    have hx := F _ _ hx
    obtain ⟨a, cap, hv, _, hc⟩ := hr w M
    obtain ⟨b, off, ha, hb, hcell⟩ := hc i.toNat (by omega)
    subst ha; subst hv
    have hc2 := hcell i.toNat (by omega)
    simp [execOp, hop, hx, eltP, run_load1 ht hd hc2]
/-- A block of one value, as a slice. -/
theorem rdV_bx {w : World} {B : Nat} {t : TypeId} {u : Value} (h : Bx w B t [u]) : RdV w (.slice (some ⟨B, 0, none⟩) 1 1) [u] := by
  refine ⟨_, _, rfl, by simp, fun j _ => ⟨B, 0, rfl, bx_lt h, fun i hi => ?_⟩⟩
  have : i = 0 := by simpa using hi
  subst this
  exact bx_cell h 0 rfl
section
variable {w0 : World} {is : List Itm} {Q : Exit → Act → World → Prop} {o : Oper} {N : Frm} {e : Env} {v u : Value} {d : Nat} {K : Act → World → Prop}
end
section
variable {w0 : World} {is : List Itm} {o : Oper} {e : Env}
theorem qt_fieldPair {x : Operand} {a b : Int} (hop : o.op = .field 65 x 0) (hx : evo e x = some (.agg #[.int .i64 a, .int .i64 b])) : QV w0 is o e (.int .i64 a) := fun w ρ M F => by
  have hx := F _ _ hx
  obtain ⟨i, hi, hz, hs, hb⟩ := info_parts info64
  simp [execOp, hop, hx, Instr.field, Sem.run_bind, run_underlying Try.underlying65, part, sizeOf, typeInfo, hi, hs, asAgg]
theorem qt_fieldPair2 {x : Operand} {a b : Int} (hop : o.op = .field 65 x 1) (hx : evo e x = some (.agg #[.int .i64 a, .int .i64 b])) : QV w0 is o e (.int .i64 b) := fun w ρ M F => by
  have hx := F _ _ hx
  obtain ⟨i, hi, hz, hs, hb⟩ := info_parts info64
  simp [execOp, hop, hx, Instr.field, Sem.run_bind, run_underlying Try.underlying65, part, sizeOf, typeInfo, hi, hs, asAgg]
end
/-- What the call has made so far becomes what was there before. -/
theorem gc_rebase {w0 : World} {is : List Itm} {N : Frm} {c : Code} {Q : Exit → Act → World → Prop} {e : Env} (h : ∀ w1, Mem w0 w1 is → GC w1 [] N c Q e) : GC w0 is N c Q e := fun w a M F => h w M w a (mem_nil w) F
theorem gc_seqR {w0 : World} {is : List Itm} {N : Frm} {x y : Code} {Q : Exit → Act → World → Prop} {e : Env} (h : ∀ K : Act → World → Prop, (∀ {w1 : World} (is : List Itm) (e : Env), GC w1 is N y Q e → GK w1 is N K e) → GC w0 is N x (Exit.then K Q) e) : GC w0 is N (.seq x y) Q e :=
  fun w a M F R => wpIn_seq (h _ (fun _ _ hy w a M F => hy w a M F (rdy_r R)) w a M F (rdy_l R))
theorem gk_rebase {w0 : World} {is : List Itm} {N : Frm} {K : Act → World → Prop} {e : Env} (h : ∀ w1, Mem w0 w1 is → GK w1 [] N K e) : GK w0 is N K e := fun w a M F => h w M w a (mem_nil w) F
theorem qt_makeB {w0 : World} {is : List Itm} {o : Oper} {e : Env} {r : Value} {f : Fn} {x : Operand} (hop : o.op = .makeFunc f #[x] #[]) (hx : evo e x = some r) : QV w0 is o e (.func f #[r] #[]) := fun w ρ M F => by
  have hx := F _ _ hx
  simp [execOp, hop, hx, Instr.makeFunc]
theorem RdC.l1 {w : World} {c : Cat} {o a b d m : Value} (h : RdC w (.agg #[o, a, b, d, m]) c) : Rd w a c.s := by obtain ⟨vs, vt, ve, vm, hv, h1, h2, h3, h4⟩ := h; simp only [Value.agg.injEq, Array.mk.injEq, List.cons.injEq] at hv; obtain ⟨_, rfl, rfl, rfl, rfl, _⟩ := hv; exact h1
theorem RdC.l2 {w : World} {c : Cat} {o a b d m : Value} (h : RdC w (.agg #[o, a, b, d, m]) c) : Rd w b c.t := by obtain ⟨vs, vt, ve, vm, hv, h1, h2, h3, h4⟩ := h; simp only [Value.agg.injEq, Array.mk.injEq, List.cons.injEq] at hv; obtain ⟨_, rfl, rfl, rfl, rfl, _⟩ := hv; exact h2
end Go.Proofs.Ytgkfampgofjkfaa
