import Derived.Test.YtbiplocgenppoaaS2
import Derived.IntWalk
import Derived.Maps.AppendAt
import Derived.Laws.StructEq
set_option linter.unusedSimpArgs false
set_option linter.unusedVariables false
set_option linter.unusedSectionVars false
namespace Go.Proofs.Ytbiplocgenppoaa
open _root_.Go.Proofs.Try
open Go.RowKit
section
variable {w0 : World} {is : List Itm} {ops : Array Oper} {Q : Exit → Act → World → Prop} {o : Oper} {rest : List Oper} {N : Frm} {e : Env} {v : Value} {d : Nat} {K : Act → World → Prop}
theorem qt_move {x : Operand} (hop : o.op = .move x) (hx : evo e x = some (v)) : QV w0 is o e v := fun w ac M F => by
    have hx := F _ _ hx
    simp [execOp, hop, hx]
theorem qt_assign {x : Operand} (hop : o.op = .assign x) (hx : evo e x = some (v)) : QV w0 is o e v := fun w ac M F => by
    have hx := F _ _ hx
    simp [execOp, hop, hx]
theorem qt_pick_t {c a b : Operand} (hop : o.op = .pick c a b) (hc : evo e c = some (.bool true)) (hx : evo e a = some (v)) : QV w0 is o e v := fun w ac M F => by
    have hc := F _ _ hc; have hx := F _ _ hx
    simp [execOp, hop, hc, hx, asBool]
theorem qt_pick_f {c a b : Operand} (hop : o.op = .pick c a b) (hc : evo e c = some (.bool false)) (hx : evo e b = some (v)) : QV w0 is o e v := fun w ac M F => by
    have hc := F _ _ hc; have hx := F _ _ hx
    simp [execOp, hop, hc, hx, asBool]
theorem qt_not {x : Operand} {t : TypeId} {b : Bool} (hop : o.op = .unOp .not t x) (hx : evo e x = some (.bool b)) : QV w0 is o e (.bool (!b)) := fun w ac M F => by
    have hx := F _ _ hx
    simp [execOp, hop, hx, Op.unary]
theorem qt_lss {x y : Operand} {t u : TypeId} {k : IntKind} {a b : Int} (hop : o.op = .binOp .lss t x y u) (hx : evo e x = some (.int k a)) (hy : evo e y = some (.int k b)) : QV w0 is o e (.bool (decide (a < b))) :=
  fun w ac M F => by
    have hx := F _ _ hx; have hy := F _ _ hy
    simp [execOp, hop, hx, hy, go_sem]
theorem qt_leq {x y : Operand} {t u : TypeId} {k : IntKind} {a b : Int} (hop : o.op = .binOp .leq t x y u) (hx : evo e x = some (.int k a)) (hy : evo e y = some (.int k b)) : QV w0 is o e (.bool (decide (a ≤ b))) :=
  fun w ac M F => by
    have hx := F _ _ hx; have hy := F _ _ hy
    simp [execOp, hop, hx, hy, go_sem]
theorem qt_gtr {x y : Operand} {t u : TypeId} {k : IntKind} {a b : Int} (hop : o.op = .binOp .gtr t x y u) (hx : evo e x = some (.int k a)) (hy : evo e y = some (.int k b)) : QV w0 is o e (.bool (decide (b < a))) :=
  fun w ac M F => by
    have hx := F _ _ hx; have hy := F _ _ hy
    simp [execOp, hop, hx, hy, go_sem]
theorem qt_geq {x y : Operand} {t u : TypeId} {k : IntKind} {a b : Int} (hop : o.op = .binOp .geq t x y u) (hx : evo e x = some (.int k a)) (hy : evo e y = some (.int k b)) : QV w0 is o e (.bool (decide (b ≤ a))) :=
  fun w ac M F => by
    have hx := F _ _ hx; have hy := F _ _ hy
    simp [execOp, hop, hx, hy, go_sem]
theorem qt_eql {x y : Operand} {t u : TypeId} {k : IntKind} {a b : Int} (hop : o.op = .binOp .eql t x y u) (hx : evo e x = some (.int k a)) (hy : evo e y = some (.int k b)) : QV w0 is o e (.bool (decide (a = b))) :=
  fun w ac M F => by
    have hx := F _ _ hx; have hy := F _ _ hy
    simp [execOp, hop, hx, hy, go_sem]; rfl
theorem qt_neq {x y : Operand} {t u : TypeId} {k : IntKind} {a b : Int} (hop : o.op = .binOp .neq t x y u) (hx : evo e x = some (.int k a)) (hy : evo e y = some (.int k b)) : QV w0 is o e (.bool (decide (a ≠ b))) :=
  fun w ac M F => by
    have hx := F _ _ hx; have hy := F _ _ hy
    simp [execOp, hop, hx, hy, go_sem]; by_cases h : a = b <;> simp [h]
theorem qt_eql_t {x y : Operand} {t u : TypeId} {k : IntKind} {a b : Int} (hop : o.op = .binOp .eql t x y u) (hx : evo e x = some (.int k a)) (hy : evo e y = some (.int k b)) (h : a = b) : QV w0 is o e (.bool true) := by
  have := qt_eql (w0 := w0) (is := is) hop hx hy; rwa [decide_eq_true h] at this
theorem qt_eql_f {x y : Operand} {t u : TypeId} {k : IntKind} {a b : Int} (hop : o.op = .binOp .eql t x y u) (hx : evo e x = some (.int k a)) (hy : evo e y = some (.int k b)) (h : ¬ a = b) : QV w0 is o e (.bool false) := by
  have := qt_eql (w0 := w0) (is := is) hop hx hy; rwa [decide_eq_false h] at this
theorem qt_neq_f {x y : Operand} {t u : TypeId} {k : IntKind} {a b : Int} (hop : o.op = .binOp .neq t x y u) (hx : evo e x = some (.int k a)) (hy : evo e y = some (.int k b)) (h : ¬ a ≠ b) : QV w0 is o e (.bool false) := by
  have := qt_neq (w0 := w0) (is := is) hop hx hy; rwa [decide_eq_false h] at this
theorem qt_add {x y : Operand} {t u : TypeId} {a b : Int} (hop : o.op = .binOp .add t x y u) (hx : evo e x = some (.int .i64 a)) (hy : evo e y = some (.int .i64 b)) (h : -9223372036854775808 ≤ a + b ∧ a + b ≤ 9223372036854775807) : QV w0 is o e (.int .i64 (a + b)) :=
  fun w ac M F => by
    have hx := F _ _ hx; have hy := F _ _ hy
    simp [execOp, hop, hx, hy, go_sem, Op.intArith]; exact IntWalk.i64_in _ h
theorem qt_sub {x y : Operand} {t u : TypeId} {a b : Int} (hop : o.op = .binOp .sub t x y u) (hx : evo e x = some (.int .i64 a)) (hy : evo e y = some (.int .i64 b)) (h : -9223372036854775808 ≤ a - b ∧ a - b ≤ 9223372036854775807) : QV w0 is o e (.int .i64 (a - b)) :=
  fun w ac M F => by
    have hx := F _ _ hx; have hy := F _ _ hy
    simp [execOp, hop, hx, hy, go_sem, Op.intArith]; exact IntWalk.i64_in _ h
theorem qt_mul {x y : Operand} {t u : TypeId} {a b : Int} (hop : o.op = .binOp .mul t x y u) (hx : evo e x = some (.int .i64 a)) (hy : evo e y = some (.int .i64 b)) (h : -9223372036854775808 ≤ a * b ∧ a * b ≤ 9223372036854775807) : QV w0 is o e (.int .i64 (a * b)) :=
  fun w ac M F => by
    have hx := F _ _ hx; have hy := F _ _ hy
    simp [execOp, hop, hx, hy, go_sem, Op.intArith]; exact IntWalk.i64_in _ h
theorem qt_extract {x : Operand} {n : Nat} {vs : List Value} (hop : o.op = .extract x n) (hx : evo e x = some (.tuple vs.toArray)) (hv : vs[n]? = some v) : QV w0 is o e v :=
  fun w ac M F => by
    have hx := F _ _ hx
    simp [execOp, hop, hx, Instr.extract, hv]
def aggT : TypeDesc → Bool | .struct _ => true | .array _ _ => true | _ => false
def LenV (v : Value) (n : Nat) : Prop := ∃ a cap, v = .slice a n cap
theorem lenV_rd {w : World} {xs : List Int} (h : Rd w v xs) : LenV v xs.length := rd_form h
theorem lenV_rd2 {w : World} {xs : List (List Int)} (h : Rd2 w v xs) : LenV v xs.length := rd2_form h
theorem lenV_own1 {n : Nat} {xs : List Int} (h : is[n]? = some (own1I v xs)) {w : World} (M : Mem w0 w is) : LenV v xs.length := rd_form (mem_own1 M h).rd
theorem qt_len {x : Operand} {t : TypeId} {n : Nat} (hop : o.op = .call { callee := .builtin .len, args := #[x], argTypes := #[t] }) (hx : evo e x = some (v)) (ht : Try.prog.underlying t = some (.slice (Try.prog.elem t))) (hl : ∀ w, Mem w0 w is → LenV v n) : QV w0 is o e (.int .i64 (n : Int)) :=
  fun w ac M F => by
    have hx := F _ _ hx
    obtain ⟨a, cap, rfl⟩ := hl w M
    simp [execOp, hop, hx, resolve, invoke, builtin, run_len_slice _ _ _ _ _ _ ht]
    rfl
def eltP (v : Value) (i : Int) : Value := match v with | .slice (some a) _ _ => .pointer (some ⟨a.block, a.off + i.toNat, none⟩) | _ => .pointer none
def LenA (v : Value) (n : Nat) : Prop := ∃ a cap, v = .slice a n cap ∧ (0 < n → ∃ b off, a = some ⟨b, off, none⟩)
theorem lenA_rd {w : World} {xs : List Int} (h : Rd w v xs) : LenA v xs.length := by
  obtain ⟨a, cap, hv, _, hc⟩ := h
  exact ⟨a, cap, hv, fun h0 => let ⟨b, off, ha, _⟩ := hc 0 h0; ⟨b, off, ha⟩⟩
theorem lenA_rd2 {w : World} {xs : List (List Int)} (h : Rd2 w v xs) : LenA v xs.length := by
  obtain ⟨a, cap, hv, _, hc⟩ := h
  exact ⟨a, cap, hv, fun h0 => let ⟨b, off, ha, _⟩ := hc 0 h0; ⟨b, off, ha⟩⟩
theorem lenA_own1 {n : Nat} {xs : List Int} (h : is[n]? = some (own1I v xs)) {w : World} (M : Mem w0 w is) : LenA v xs.length := lenA_rd (mem_own1 M h).rd
theorem qt_index {x y : Operand} {t : TypeId} {n : Nat} {i : Int} (hop : o.op = .indexAddr t x y) (hx : evo e x = some (v)) (hy : evo e y = some (.int .i64 i)) (ht : Try.prog.underlying t = some (.slice (Try.prog.elem t)))
    (hs : (Try.prog.info? (Try.prog.elem t)).map (fun i => i.size) = some 1) (hl : ∀ w, Mem w0 w is → LenA v n) (h0 : 0 ≤ i) (h1 : i < (n : Int)) : QV w0 is o e (eltP v i) :=
  fun w ac M F => by
    have hx := F _ _ hx; have hy := F _ _ hy
    obtain ⟨a, cap, rfl, ha⟩ := hl w M
    obtain ⟨b, off, rfl⟩ := ha (by omega)
    obtain ⟨inf, hi, hz⟩ := Option.map_eq_some_iff.1 hs
    simp [execOp, hop, hx, hy, run_indexAt_slice _ _ _ _ _ _ _ ht, h0, h1, sizeOf, typeInfo, hi, hz, eltP, Addr.add]
theorem run_load1 {t : TypeId} {a : Addr} {w : World} {td : TypeDesc} (ht : Try.prog.underlying t = some td) (hd : aggT td = false) (hc : w.cell? a = some v) :
    (Instr.loadAt t (.pointer (some a))).run Try.prog w = .ok v w := by
  have hagg : (isAgg t).run Try.prog w = .ok false w := by
    unfold isAgg
    rw [Sem.run_bind, run_underlying ht w]
    cases td <;> simp_all [aggT]
  simp [Instr.loadAt, Instr.sureAddr, loadVar, Sem.run_bind, hagg, hc]
theorem elt_rd {w : World} {xs : List Int} (h : Rd w v xs) {i : Int} (h0 : 0 ≤ i) (h1 : i < xs.length) : ∃ b off, eltP v i = .pointer (some ⟨b, off, none⟩) ∧ w.cell? ⟨b, off, none⟩ = some (.int .i64 (at0 xs i)) := by
  obtain ⟨a, cap, hv, _, hc⟩ := h
  obtain ⟨b, off, ha, _, hcell⟩ := hc i.toNat (by omega)
  subst ha; subst hv
  exact ⟨b, off + i.toNat, rfl, hcell i.toNat (by omega)⟩
theorem qt_load1 {x : Operand} {t : TypeId} {u : Value} {xs : List Int} {i : Int} {td : TypeDesc} (hop : o.op = .load t x) (hx : evo e x = some (eltP u i)) (ht : Try.prog.underlying t = some td) (hd : aggT td = false)
    (hr : ∀ w, Mem w0 w is → Rd w u xs) (h0 : 0 ≤ i) (h1 : i < xs.length) : QV w0 is o e (.int .i64 (at0 xs i)) :=
  fun w ac M F => by
    have hx := F _ _ hx
    obtain ⟨b, off, he, hc⟩ := elt_rd (hr w M) h0 h1
    simp [execOp, hop, hx, he, run_load1 ht hd hc]
theorem row2_of {xs : List (List Int)} {i : Int} : row2 xs i = xs.getD i.toNat [] := rfl
theorem qt_load2 {x : Operand} {t : TypeId} {u : Value} {xs : List (List Int)} {i : Int} {td : TypeDesc} (hop : o.op = .load t x) (hx : evo e x = some (eltP u i)) (ht : Try.prog.underlying t = some td) (hd : aggT td = false)
    (hr : Rd2 w0 u xs) (h0 : 0 ≤ i) (h1 : i < xs.length) : ∃ r, Rd w0 r (row2 xs i) ∧ QV w0 is o e r := by
  obtain ⟨a, cap, hv, _, hc⟩ := hr
  obtain ⟨b, off, ha, hb, hcell⟩ := hc i.toNat (by omega)
  subst ha; subst hv
  obtain ⟨r, hr1, hr2⟩ := hcell i.toNat (by omega)
  refine ⟨r, hr2, fun w ac M F => ?_⟩
  have hx := F _ _ hx
  have hc2 : w.cell? ⟨b, off + i.toNat, none⟩ = some r := (M.1.cell (p := ⟨b, off + i.toNat, none⟩) hb).trans hr1
  simp [execOp, hop, hx, eltP, run_load1 ht hd hc2]
theorem qt_loadB {x : Operand} {t tb : TypeId} {n B j : Nat} {cs : List Value} {td : TypeDesc} (hop : o.op = .load t x) (hx : evo e x = some (.pointer (some ⟨B, j, none⟩))) (ht : Try.prog.underlying t = some td) (hd : aggT td = false)
    (hi : is[n]? = some (bxI B tb cs)) (hv : cs[j]? = some v) : QV w0 is o e v :=
  fun w ac M F => by
    have hx := F _ _ hx
    have hc := bx_cell (mem_bx M hi) j hv
    simp [execOp, hop, hx, run_load1 ht hd hc]
theorem qt_loadS {x : Operand} {t tb : TypeId} {n B : Nat} {cs : List Value} {td : TypeDesc} (hop : o.op = .load t x) (hx : evo e x = some (.pointer (some ⟨B, 0, none⟩))) (ht : Try.prog.underlying t = some td) (hd : aggT td = true)
    (hs : (Try.prog.info? t).map (·.size) = some cs.length) (hi : is[n]? = some (bxI B tb cs)) : QV w0 is o e (.agg cs.toArray) :=
  fun w ac M F => by
    have hx := F _ _ hx
    have hc : w.heap[B]? = some (.cells cs.toArray tb (0, 0)) := mem_bx M hi
    simp [execOp, hop, hx, Instr.loadAt, Instr.sureAddr, run_loadVar_row w B tb t cs.toArray (0, 0) td hc ht (by cases td <;> simp_all [aggT]) (by simpa using hs)]
theorem qt_field {x : Operand} {s : TypeId} {n B j : Nat} {fs : Array Field} {f : Field} (hop : o.op = .fieldAddr s x n) (hx : evo e x = some (.pointer (some ⟨B, j, none⟩))) (hs : Try.prog.underlying s = some (.struct fs)) (hf : fs[n]? = some f)
    {z off : Nat} (hz : (Try.prog.info? f.type).map (·.size) = some (z + 1)) (ho : f.offset = off) : QV w0 is o e (.pointer (some ⟨B, j + off, none⟩)) :=
  fun w ac M F => by
    have hx := F _ _ hx
    obtain ⟨inf, hi, hz'⟩ := Option.map_eq_some_iff.1 hz
    simp [execOp, hop, hx, Instr.fieldAt, run_underlying hs, hf, Instr.sureAddr, fieldPlace, sizeOf, typeInfo, hi, hz', Addr.add, ho]
theorem qt_call {f : FuncId} {fn : Func} {ags : Array Operand} {ts : Array TypeId} {vs : List Value} (hop : o.op = .call { callee := .value (.func f), args := ags, argTypes := ts }) (hfn : Try.prog.funcs[f]? = some fn) (hb : fn.body.isNone = false) (hn : (fn.name == "runtime.NumGoroutine") = false)
    (hargs : evoL e ags.toList = some vs) (hc : ∀ w, Mem w0 w is → Calls Try.prog f vs.toArray w (fun e w' => e = .returned v ∧ Below w.heap.size w w')) : QT w0 is N o e v := by
  intro w ac M F
  unfold Oper.quietAt
  have hrun : (execOp ac.eval o).run Try.prog w = .ok (.enter f vs.toArray) w := by
    have hb' : ¬ fn.body = none := fun h => by rw [h] at hb; simp at hb
    have hn' : ¬ fn.name = "runtime.NumGoroutine" := by simpa using hn
    have ha : ags.map ac.eval = vs.toArray := by
      have := fit_evals F hargs
      rw [← this]; apply Array.toList_inj.1; simp
    simp [execOp, hop, resolve, Act.eval, Deferred.ofValue, invoke, callFunc, hfn, hn', hb', ha]
  rw [hrun]
  exact ⟨rfl, (hc w M).mono fun e w' h => ⟨h.1, mem_keep M h.2⟩⟩
end
end Go.Proofs.Ytbiplocgenppoaa
namespace Go.Proofs.Ytbiplocgenppoaa
open _root_.Go.Proofs.Try
open Go.RowKit
section
variable {w0 : World} {is : List Itm} {ops : Array Oper} {Q : Exit → Act → World → Prop} {o : Oper} {rest : List Oper} {N : Frm} {e : Env} {v : Value} {d : Nat} {K : Act → World → Prop}
theorem go_val {w w' : World} {a : Act} (hd : o.dst = some d) (hN : Nat.blt d N = true) (F : Fit N e a) (hrun : ∀ ρ : Operand → Value, (∀ x v, evo e x = some v → ρ x = v) → (execOp ρ o).run Try.prog w = .ok (.value v) w')
    (hk : ∀ a, Fit N ((d, v) :: e) a → K a w') : o.wp Try.prog a w K Q := by
  unfold Oper.wp
  rw [hrun a.eval (fun x v hx => fit_eval F hx), Oper.upon_value, hd]
  exact hk _ (fit_put F hN)
theorem go_skip {w w' : World} {a : Act} (hd : o.dst = none) (F : Fit N e a) (hrun : ∀ ρ : Operand → Value, (∀ x v, evo e x = some v → ρ x = v) → (execOp ρ o).run Try.prog w = .ok .skip w')
    (hk : ∀ a, Fit N e a → K a w') : o.wp Try.prog a w K Q := by
  unfold Oper.wp
  rw [hrun a.eval (fun x v hx => fit_eval F hx), Oper.upon_skip, hd]
  exact hk _ F
theorem go_call {w : World} {a : Act} {f : FuncId} {fn : Func} {ags : Array Operand} {ts : Array TypeId} {vs : List Value} {R : Ending → World → Prop} (hd : o.dst = some d) (hN : Nat.blt d N = true) (F : Fit N e a)
    (hop : o.op = .call { callee := .value (.func f), args := ags, argTypes := ts }) (hfn : Try.prog.funcs[f]? = some fn) (hb : fn.body.isNone = false) (hn : (fn.name == "runtime.NumGoroutine") = false) (hargs : evoL e ags.toList = some vs)
    (hc : Calls Try.prog f vs.toArray w R) (hk : ∀ e' w', R e' w' → ∃ v, e' = .returned v ∧ ∀ a, Fit N ((d, v) :: e) a → K a w') : o.wp Try.prog a w K Q := by
  unfold Oper.wp
  have hrun : (execOp a.eval o).run Try.prog w = .ok (.enter f vs.toArray) w := by
    have hb' : ¬ fn.body = none := fun h => by rw [h] at hb; simp at hb
    have hn' : ¬ fn.name = "runtime.NumGoroutine" := by simpa using hn
    have ha : ags.map a.eval = vs.toArray := by
      have := fit_evals F hargs
      rw [← this]; apply Array.toList_inj.1; simp
    simp [execOp, hop, resolve, Act.eval, Deferred.ofValue, invoke, callFunc, hfn, hn', hb', ha]
  rw [hrun, Oper.upon_enter]
  refine hc.mono fun e' w' h => ?_
  obtain ⟨v, rfl, h2⟩ := hk e' w' h
  show K (Act.put _ o.dst v) w'
  rw [hd]
  exact h2 _ (fit_put F hN)
theorem go_q (hd : o.dst = some d) (hN : Nat.blt d N = true) (hq : QT w0 is N o e v) (hk : GK w0 is N K ((d, v) :: e)) : GO w0 is N o e Q K := by
  intro w a M F
  refine Oper.wp_of_quiet (C := fun w' => Mem w0 w' is) (K := fun a => Fit N ((d, v) :: e) a) M (fun a w' hC hK => hk w' a hC hK) ⟨v, fun w' hC => hq w' a hC F, ?_⟩
  rw [hd]; exact fit_put F hN
theorem go_v (hd : o.dst = some d) (hN : Nat.blt d N = true) (hq : QV w0 is o e v) (hk : GK w0 is N K ((d, v) :: e)) : GO w0 is N o e Q K := go_q hd hN (qt_of hq) hk
theorem below_alloc (w : World) (ob : Obj) : Below w.heap.size w (w.alloc ob) := (Below.refl _ _).alloc (Nat.le_refl _) ob
theorem mem_box {w : World} {t : TypeId} {cs : List Value} (M : Mem w0 w is) : Mem w0 (w.alloc (.cells cs.toArray t)) (is ++ [bxI w.heap.size t cs]) :=
  mem_new M (below_alloc w _) ⟨bx_new w t cs, Nat.le_refl _⟩
theorem go_box {x : Operand} {t : TypeId} {cs : List Value} (hd : o.dst = some d) (hN : Nat.blt d N = true) (hop : o.op = .box t x) (hx : evo e x = some (v)) (hc : v.cells = cs.toArray)
    (hk : ∀ B, GK w0 (is ++ [bxI B t cs]) N K ((d, (.pointer (some ⟨B, 0, none⟩))) :: e)) : GO w0 is N o e Q K := by
  intro w ac M F
  refine go_val (v := .pointer (some ⟨w.heap.size, 0, none⟩)) (w' := w.alloc (.cells cs.toArray t)) hd hN F ?_ fun ac F => hk w.heap.size _ ac (mem_box M) F
  intro ρ F
  have hx := F _ _ hx
  simp [execOp, hop, hx, Instr.box, newVar, newRow, hc, Sem.run_bind]
theorem go_alloc {t : TypeId} {z : Value} {cs : List Value} (hd : o.dst = some d) (hN : Nat.blt d N = true) (hop : o.op = .alloc t) (hz : ∀ w, (zeroValue t).run Try.prog w = .ok z w) (hc : z.cells = cs.toArray)
    (hk : ∀ B, GK w0 (is ++ [bxI B t cs]) N K ((d, (.pointer (some ⟨B, 0, none⟩))) :: e)) : GO w0 is N o e Q K := by
  intro w ac M F
  refine go_val (v := .pointer (some ⟨w.heap.size, 0, none⟩)) (w' := w.alloc (.cells cs.toArray t)) hd hN F ?_ fun ac F => hk w.heap.size _ ac (mem_box M) F
  intro ρ F
  simp [execOp, hop, Instr.alloc, newVar, newRow, hc, Sem.run_bind, hz w]
theorem galC {t : TypeId} (hk : ∀ B, GK w0 (is ++ [bxI B t [.int .i64 0, .slice none 0 0, .slice none 0 0, .slice none 0 0, .slice none 0 0]]) N K ((d, (.pointer (some ⟨B, 0, none⟩))) :: e)) (hd : o.dst = some d := by rfl) (hN : Nat.blt d N = true := by rfl) (hop : o.op = .alloc t := by rfl) (hz : ∀ w, (zeroValue t).run Try.prog w = .ok (.agg #[.int .i64 0, .slice none 0 0, .slice none 0 0, .slice none 0 0, .slice none 0 0]) w := by intro w; kernel_rfl) : GO w0 is N o e Q K := go_alloc hd hN hop hz rfl hk
theorem range0 : Array.range 0 = #[] := by apply Array.toList_inj.1; simp
theorem range1 : Array.range 1 = #[0] := by apply Array.toList_inj.1; simp [List.range_succ]
theorem range2 : Array.range 2 = #[0, 1] := by apply Array.toList_inj.1; simp [List.range_succ]
theorem mem_row {w : World} {xs : List Int} (M : Mem w0 w is) (hl : xs.length ≤ 17592186044415) : Mem w0 (w.alloc (.cells (xs.map (Value.int .i64)).toArray 2)) (is ++ [own1I (.slice (some ⟨w.heap.size, 0, none⟩) xs.length xs.length) xs]) := by
  refine mem_new M (below_alloc w _) ⟨⟨?_, hl⟩, ?_⟩
  · refine ⟨by simp, .inr ⟨w.heap.size, xs.length, (xs.map (Value.int .i64)).toArray, rfl, Nat.zero_le _, heap_alloc_new w _, Nat.le_refl _, ?_, by simp, ?_⟩⟩
    · unfold maxLen; omega
    rw [List.take_of_length_le (by simp)]
  intro q hq
  simp [Value.ownBlock] at hq
  omega
theorem go_slice0 {t : TypeId} (hd : o.dst = some d) (hN : Nat.blt d N = true) (hop : o.op = .buildSlice t 0 #[]) (ht : Try.prog.underlying t = some (.slice 2))
    (hk : ∀ B : Nat, GK w0 (is ++ [own1I (.slice (some ⟨B, 0, none⟩) 0 0) []]) N K ((d, .slice (some ⟨B, 0, none⟩) 0 0) :: e)) : GO w0 is N o e Q K := by
  intro w ac M F
  refine go_val (v := .slice (some ⟨w.heap.size, 0, none⟩) 0 0) (w' := w.alloc (.cells #[] 2)) hd hN F ?_ fun ac F => hk _ _ ac (mem_row (xs := []) M (by simp)) F
  intro ρ F
  obtain ⟨i, hi, hz, hs, hb⟩ := info_parts info64
  simp [execOp, hop, Instr.buildSlice, run_underlying ht, sizeOf, typeInfo, hi, Instr.fill, newRow, range0]
theorem go_slice1 {t : TypeId} {x : Operand} {a : Int} (hd : o.dst = some d) (hN : Nat.blt d N = true) (hop : o.op = .buildSlice t 1 #[(0, x)]) (hx : evo e x = some (.int .i64 a)) (ht : Try.prog.underlying t = some (.slice 2))
    (hk : ∀ B : Nat, GK w0 (is ++ [own1I (.slice (some ⟨B, 0, none⟩) 1 1) [a]]) N K ((d, .slice (some ⟨B, 0, none⟩) 1 1) :: e)) : GO w0 is N o e Q K := by
  intro w ac M F
  refine go_val (v := .slice (some ⟨w.heap.size, 0, none⟩) 1 1) (w' := w.alloc (.cells #[.int .i64 a] 2)) hd hN F ?_ fun ac F => hk _ _ ac (mem_row (xs := [a]) M (by simp)) F
  intro ρ F
  have hx := F _ _ hx
  obtain ⟨i, hi, hz, hs, hb⟩ := info_parts info64
  simp [execOp, hop, hx, Instr.buildSlice, run_underlying ht, sizeOf, typeInfo, hi, hs, Instr.fill, newRow, zeroValue, hz, Value.cells, Sem.run_bind, range1]
theorem go_slice2 {t : TypeId} {x y : Operand} {a b : Int} (hd : o.dst = some d) (hN : Nat.blt d N = true) (hop : o.op = .buildSlice t 2 #[(0, x), (1, y)]) (hx : evo e x = some (.int .i64 a)) (hy : evo e y = some (.int .i64 b)) (ht : Try.prog.underlying t = some (.slice 2))
    (hk : ∀ B : Nat, GK w0 (is ++ [own1I (.slice (some ⟨B, 0, none⟩) 2 2) [a, b]]) N K ((d, .slice (some ⟨B, 0, none⟩) 2 2) :: e)) : GO w0 is N o e Q K := by
  intro w ac M F
  refine go_val (v := .slice (some ⟨w.heap.size, 0, none⟩) 2 2) (w' := w.alloc (.cells #[.int .i64 a, .int .i64 b] 2)) hd hN F ?_ fun ac F => hk _ _ ac (mem_row (xs := [a, b]) M (by simp)) F
  intro ρ F
  have hx := F _ _ hx; have hy := F _ _ hy
  obtain ⟨i, hi, hz, hs, hb⟩ := info_parts info64
  simp [execOp, hop, hx, hy, Instr.buildSlice, run_underlying ht, sizeOf, typeInfo, hi, hs, Instr.fill, newRow, zeroValue, hz, Value.cells, Sem.run_bind, range2]
theorem mem_nilS {w : World} (M : Mem w0 w is) : Mem w0 w (is ++ [own1I (.slice none 0 0) []]) :=
  mem_new M (Below.refl _ _) ⟨Sl.nil w 0, fun q hq => by simp [Value.ownBlock] at hq⟩
theorem gc_nilS {c : Code} (hk : GC w0 (is ++ [own1I (.slice none 0 0) []]) N c Q e) : GC w0 is N c Q e := fun w a M F => hk w a (mem_nilS M) F
theorem go_append {s x : Operand} {t : TypeId} {n m : Nat} {xs : List Int} {u : Value} {y : Int} (hd : o.dst = some d) (hN : Nat.blt d N = true) (hop : o.op = .call { callee := .builtin .append, args := #[s, x], argTypes := #[t, t] }) (ht : Try.prog.underlying t = some (.slice 2))
    (hs : evo e s = some v) (hx : evo e x = some u) (hi : is[n]? = some (own1I v xs)) (hj : is[m]? = some (own1I u [y])) (hn : xs.length + 1 ≤ 17592186044415)
    (hk : ∀ a cap, GK w0 (is.set n (own1I (.slice a (xs ++ [y]).length cap) (xs ++ [y]))) N K ((d, .slice a (xs ++ [y]).length cap) :: e)) : GO w0 is N o e Q K := by
  intro w ac M F
  have hu := (mem_own1 M hj).rd
  obtain ⟨ad, cap, hv, _, hc⟩ := hu
  obtain ⟨b, off, ha, _, hcell⟩ := hc 0 (by simp)
  subst ha
  have hv : u = .slice (some ⟨b, off, none⟩) 1 cap := hv
  obtain ⟨S, hS, hp, hset⟩ := mem_set M hi
  have h0 : w.cell? ⟨b, off, none⟩ = some (.int .i64 y) := by simpa using hcell 0 (by simp)
  obtain ⟨i, hi', hz, hs1, hb⟩ := info_parts info64
  obtain ⟨v', w', hr, hown, hgrow, _, hat⟩ := run_append_own_at (P := Try.prog) w 0 t o.type 2 i (.int .i64 0) 1 8 ht hi' hz hs1 hb rfl (by decide) v xs.length (xs.map (Value.int .i64)) hp.1.1 ⟨b, off, none⟩ 1 cap [.int .i64 y] rfl (fun j u hu => by
    cases j with
    | zero => simp at hu; subst hu; simpa [Addr.add] using h0
    | succ j => simp at hu) (by simp [Value.oneCell']) (by unfold maxLen; omega) (by omega) (Nat.zero_le _)
  have hsl : Sl w' 0 v' (xs ++ [y]) := ⟨by simpa using hown, by simpa using hn⟩
  obtain ⟨va, vc, rfl, _⟩ := sl_form hsl
  refine go_val (v := .slice va (xs ++ [y]).length vc) (w' := w') hd hN F ?_ fun ac F => hk va vc w' ac (hset w' (own1I (.slice va (xs ++ [y]).length vc) (xs ++ [y])) (frS_grown hgrow hp.2) ⟨hsl, fun q hq => ?_⟩) F
  · intro ρ F; have hs := F _ _ hs; have hx := F _ _ hx
    simp only [execOp, hop, resolve, invoke, builtin, Sem.run_bind, Sem.run_pure, Result.andThen_ok, List.map_toArray, List.map_cons, List.map_nil, hs, hx, hv]
    rw [hr]
    rfl
  rcases hat with hat | hat
  · exact .inl (hp.2 q (by rw [← hat]; exact hq))
  rw [hat] at hq
  simp only [Option.some.injEq] at hq
  exact .inr (by omega)
end
end Go.Proofs.Ytbiplocgenppoaa
namespace Go.Proofs.Ytbiplocgenppoaa
open _root_.Go.Proofs.Try
open Go.RowKit
section
variable {w0 : World} {is : List Itm} {ops : Array Oper} {Q : Exit → Act → World → Prop} {o : Oper} {rest : List Oper} {N : Frm} {e : Env} {v : Value} {d : Nat} {K : Act → World → Prop}
def evP (e : Env) : List (Nat × Operand) → Option (List (Nat × Value))
  | [] => some []
  | (k, x) :: xs => match evo e x, evP e xs with
    | some v, some vs => some ((k, v) :: vs)
    | _, _ => none
theorem evP_map {ρ : Operand → Value} (F : ∀ x v, evo e x = some v → ρ x = v) : ∀ {ps : List (Nat × Operand)} {vs : List (Nat × Value)}, evP e ps = some vs → ps.map (fun p => (p.1, ρ p.2)) = vs
  | [], vs, h => by simpa [evP] using h
  | (k, x) :: ps, vs, h => by
    unfold evP at h
    cases h1 : evo e x with
    | none => rw [h1] at h; simp at h
    | some v =>
      cases h2 : evP e ps with
      | none => rw [h1, h2] at h; simp at h
      | some us =>
        rw [h1, h2] at h
        simp only [Option.some.injEq] at h
        rw [← h, List.map_cons, F x v h1, evP_map F h2]
theorem qt_build {t : TypeId} {parts : Array (Nat × Operand)} {vs : List (Nat × Value)} {cs : Array Value} (hop : o.op = .build t parts) (hp : evP e parts.toList = some vs) (hv : Try.prog.built t vs = some cs) : QV w0 is o e (.agg cs) :=
  fun w ac M F => by
    have h2 : (parts.map fun (i, x) => (i, ac x)).toList = vs := by
      rw [← evP_map F hp]; simp
    simp only [execOp, hop, Sem.run_bind, run_build w t _ cs (by rw [h2]; exact hv), Result.andThen_ok]
    rfl
theorem qt_eqA {x y : Operand} {t u : TypeId} {xs ys : Array Value} {b : Bool} (hop : o.op = .binOp .eql t x y u) (hx : evo e x = some (.agg xs)) (hy : evo e y = some (.agg ys))
    (he : ∀ w, (Op.equalIn 10000 t (.agg xs) (.agg ys)).run Try.prog w = .ok b w) (hg : Try.prog.eqGuardType Try.prog.depth t = false) : QV w0 is o e (.bool b) :=
  fun w ac M F => by
    have hx := F _ _ hx; have hy := F _ _ hy
    simp [execOp, hop, hx, hy, run_eqGuard_agg _ _ _ _ _ _ _ hg, run_eql_struct, he w]
theorem qt_neA {x y : Operand} {t u : TypeId} {xs ys : Array Value} {b : Bool} (hop : o.op = .binOp .neq t x y u) (hx : evo e x = some (.agg xs)) (hy : evo e y = some (.agg ys))
    (he : ∀ w, (Op.equalIn 10000 t (.agg xs) (.agg ys)).run Try.prog w = .ok b w) (hg : Try.prog.eqGuardType Try.prog.depth t = false) : QV w0 is o e (.bool (!b)) :=
  fun w ac M F => by
    have hx := F _ _ hx; have hy := F _ _ hy
    simp [execOp, hop, hx, hy, run_eqGuard_agg _ _ _ _ _ _ _ hg, run_neq_struct, he w]
theorem eqA_arrowEnds (a1 a2 b1 b2 : Int) (w : World) : (Op.equalIn 10000 59 (.agg #[.int .i64 a1, .int .i64 a2]) (.agg #[.int .i64 b1, .int .i64 b2])).run Try.prog w = .ok (decide (a1 = b1 ∧ a2 = b2)) w := by
  rw [run_equalIn_struct _ 9999 _ _ _ (by kernel_rfl) (by kernel_rfl)]
  simp only [Program.fieldsOf, underlying59]
  by_cases h1 : a1 = b1 <;> by_cases h2 : a2 = b2 <;> simp [go_sem, h1, h2, Op.eqFields]
theorem eqG_arrowEnds : Try.prog.eqGuardType Try.prog.depth 59 = false := by kernel_rfl
theorem eqA_arrowPair (a1 a2 b1 b2 : Int) (w : World) : (Op.equalIn 10000 91 (.agg #[.int .i64 a1, .int .i64 a2]) (.agg #[.int .i64 b1, .int .i64 b2])).run Try.prog w = .ok (decide (a1 = b1 ∧ a2 = b2)) w := by
  rw [run_equalIn_struct _ 9999 _ _ _ (by kernel_rfl) (by kernel_rfl)]
  simp only [Program.fieldsOf, underlying91]
  by_cases h1 : a1 = b1 <;> by_cases h2 : a2 = b2 <;> simp [go_sem, h1, h2, Op.eqFields]
theorem eqG_arrowPair : Try.prog.eqGuardType Try.prog.depth 91 = false := by kernel_rfl
theorem eqA_fault (a1 a2 a3 a4 b1 b2 b3 b4 : Int) (w : World) : (Op.equalIn 10000 106 (.agg #[.int .i64 a1, .int .i64 a2, .int .i64 a3, .int .i64 a4]) (.agg #[.int .i64 b1, .int .i64 b2, .int .i64 b3, .int .i64 b4])).run Try.prog w = .ok (decide (a1 = b1 ∧ a2 = b2 ∧ a3 = b3 ∧ a4 = b4)) w := by
  rw [run_equalIn_struct _ 9999 _ _ _ (by kernel_rfl) (by kernel_rfl)]
  simp only [Program.fieldsOf, underlying106]
  by_cases h1 : a1 = b1 <;> by_cases h2 : a2 = b2 <;> by_cases h3 : a3 = b3 <;> by_cases h4 : a4 = b4 <;> simp [go_sem, h1, h2, h3, h4, Op.eqFields]
theorem eqG_fault : Try.prog.eqGuardType Try.prog.depth 106 = false := by kernel_rfl
theorem go_storeB {t tb : TypeId} {x y : Operand} {n B j : Nat} {cs : List Value} {u : Value} (hd : o.dst = none) (hop : o.op = .store t x y) (hx : evo e x = some (.pointer (some ⟨B, j, none⟩))) (hy : evo e y = some (u))
    (hs : (Try.prog.info? t).map (·.size) = some 1) (h1 : u.oneCell' = true) (h2 : u.cells = #[u]) (hi : is[n]? = some (bxI B tb cs)) (hj : j < cs.length)
    (hk : GK w0 (is.set n (bxI B tb (cs.set j u))) N K e) : GO w0 is N o e Q K := by
  intro w ac M F
  obtain ⟨inf, hi2, hz⟩ := Option.map_eq_some_iff.1 hs
  obtain ⟨S, hS, hp, hset⟩ := mem_set M hi
  have hb : Bx w B tb cs := hp.1
  have hc := bx_cell hb j (List.getElem?_eq_getElem hj)
  have hf := bx_frozen hb j
  refine go_skip (w' := w.setCell ⟨B, j, none⟩ u) hd F ?_ fun a F => hk _ a (hset _ _ (frS_set hp.2) ⟨bx_set hb j u, .inl hp.2⟩) F
  have hadd : (⟨B, j, none⟩ : Addr).add 0 = ⟨B, j, none⟩ := by simp [Addr.add]
  intro ρ F; have hx := F _ _ hx; have hy := F _ _ hy
  simp [execOp, hop, hx, hy, Instr.storeAt, Instr.sureAddr, storeVar, sizeOf, typeInfo, hi2, hz, h2, storeCells, hadd, run_store _ _ _ _ _ h1, hc, hf]
theorem go_storeS {t tb : TypeId} {x y : Operand} {n B : Nat} {cs cs' : List Value} (hd : o.dst = none) (hop : o.op = .store t x y) (hx : evo e x = some (.pointer (some ⟨B, 0, none⟩))) (hy : evo e y = some (.agg cs'.toArray))
    (hs : (Try.prog.info? t).map (·.size) = some cs'.length) (h1 : cs'.all (·.oneCell') = true) (hi : is[n]? = some (bxI B tb cs)) (hl : cs.length = cs'.length)
    (hk : GK w0 (is.set n (bxI B tb cs')) N K e) : GO w0 is N o e Q K := by
  intro w ac M F
  obtain ⟨S, hS, hp, hset⟩ := mem_set M hi
  have hb : w.heap[B]? = some (.cells cs.toArray tb (0, 0)) := hp.1
  refine go_skip (w' := w.setRow B cs'.toArray) hd F ?_ fun a F => hk _ a (hset _ _ ⟨rfl, rfl, rfl, by simp, fun k hk hr => setRow_other w B k _ (fun e => hr (by rw [e]; exact hp.2))⟩ ⟨setRow_heap w B _ _ tb (0, 0) hb, .inl hp.2⟩) F
  intro ρ F; have hx := F _ _ hx; have hy := F _ _ hy
  simp [execOp, hop, hx, hy, Instr.storeAt, Instr.sureAddr, run_storeVar_row w B tb t cs.toArray cs'.toArray hb (by simpa using hs) (by simpa using hl) (by simpa using h1)]
theorem gss {t tb : TypeId} {x y : Operand} {B : Nat} {cs cs' : List Value} (n : Nat) (hk : GK w0 (is.set n (bxI B tb cs')) N K e) (hd : o.dst = none := by rfl) (hop : o.op = .store t x y := by rfl) (hx : evo e x = some (.pointer (some ⟨B, 0, none⟩)) := by rfl) (hy : evo e y = some (.agg cs'.toArray) := by rfl) (hs : (Try.prog.info? t).map (·.size) = some cs'.length := by kernel_rfl) (h1 : cs'.all (·.oneCell') = true := by rfl) (hi : is[n]? = some (bxI B tb cs) := by rfl) (hl : cs.length = cs'.length := by rfl) : GO w0 is N o e Q K := go_storeS hd hop hx hy hs h1 hi hl hk
section
variable {f : FuncId} {fn : Func} {ags : Array Operand} {ts : Array TypeId} {vs : List Value}
theorem go_callL {xs : List Int} (hd : o.dst = some d) (hN : Nat.blt d N = true) (hop : o.op = .call { callee := .value (.func f), args := ags, argTypes := ts }) (hfn : Try.prog.funcs[f]? = some fn) (hb : fn.body.isNone = false) (hn : (fn.name == "runtime.NumGoroutine") = false)
    (hargs : evoL e ags.toList = some vs) (hc : ∀ w, Mem w0 w is → Calls Try.prog f vs.toArray w (RetL w xs)) (hk : ∀ a cap, GK w0 (is ++ [own1I (.slice a xs.length cap) xs]) N K ((d, .slice a xs.length cap) :: e)) : GO w0 is N o e Q K := by
  intro w a M F
  refine go_call hd hN F hop hfn hb hn hargs (hc w M) fun e' w' hR => ?_
  obtain ⟨v, rfl, hs, hbl⟩ := hR
  obtain ⟨va, vc, rfl, _⟩ := sl_form hs
  exact ⟨_, rfl, fun a F => hk va vc w' a (mem_new M hbl (own1_of hs)) F⟩
theorem go_callLI {xs : List Int} {c : Int} (hd : o.dst = some d) (hN : Nat.blt d N = true) (hop : o.op = .call { callee := .value (.func f), args := ags, argTypes := ts }) (hfn : Try.prog.funcs[f]? = some fn) (hb : fn.body.isNone = false) (hn : (fn.name == "runtime.NumGoroutine") = false)
    (hargs : evoL e ags.toList = some vs) (hc : ∀ w, Mem w0 w is → Calls Try.prog f vs.toArray w (RetLI w xs c)) (hk : ∀ a cap, GK w0 (is ++ [own1I (.slice a xs.length cap) xs]) N K ((d, .tuple #[.slice a xs.length cap, .int .i64 c]) :: e)) : GO w0 is N o e Q K := by
  intro w a M F
  refine go_call hd hN F hop hfn hb hn hargs (hc w M) fun e' w' hR => ?_
  obtain ⟨v, rfl, hs, hbl⟩ := hR
  obtain ⟨va, vc, rfl, _⟩ := sl_form hs
  exact ⟨_, rfl, fun a F => hk va vc w' a (mem_new M hbl (own1_of hs)) F⟩
theorem go_callR {xs : List (List Int)} (hd : o.dst = some d) (hN : Nat.blt d N = true) (hop : o.op = .call { callee := .value (.func f), args := ags, argTypes := ts }) (hfn : Try.prog.funcs[f]? = some fn) (hb : fn.body.isNone = false) (hn : (fn.name == "runtime.NumGoroutine") = false)
    (hargs : evoL e ags.toList = some vs) (hc : ∀ w, Mem w0 w is → Calls Try.prog f vs.toArray w (RetR w xs)) (hk : ∀ a cap us, GK w0 (is ++ [own2U (.slice a xs.length cap) us xs]) N K ((d, .slice a xs.length cap) :: e)) : GO w0 is N o e Q K := by
  intro w a M F
  refine go_call hd hN F hop hfn hb hn hargs (hc w M) fun e' w' hR => ?_
  obtain ⟨v, rfl, hs, hbl⟩ := hR
  obtain ⟨va, vc, rfl⟩ := rd2_form (sl2_rd hs)
  obtain ⟨us, hu⟩ := own2_of hs
  exact ⟨_, rfl, fun a F => hk va vc us w' a (mem_new M hbl hu) F⟩
theorem go_callC {c : Cat} (hd : o.dst = some d) (hN : Nat.blt d N = true) (hop : o.op = .call { callee := .value (.func f), args := ags, argTypes := ts }) (hfn : Try.prog.funcs[f]? = some fn) (hb : fn.body.isNone = false) (hn : (fn.name == "runtime.NumGoroutine") = false)
    (hargs : evoL e ags.toList = some vs) (hc : ∀ w, Mem w0 w is → Calls Try.prog f vs.toArray w (RetC w c)) (hk : ∀ a1 k1 a2 k2 a3 k3 a4 k4 uu, GK w0 (is ++ [own1I (.slice a1 c.s.length k1) c.s, own1I (.slice a2 c.t.length k2) c.t, own1I (.slice a3 c.e.length k3) c.e, own2U (.slice a4 c.m.length k4) uu c.m]) N K ((d, .agg #[.int .i64 c.ob, .slice a1 c.s.length k1, .slice a2 c.t.length k2, .slice a3 c.e.length k3, .slice a4 c.m.length k4]) :: e)) : GO w0 is N o e Q K := by
  intro w a M F
  refine go_call hd hN F hop hfn hb hn hargs (hc w M) fun e' w' hR => ?_
  obtain ⟨v, rfl, hs, hbl⟩ := hR
  obtain ⟨a1, a2, a3, a4, k1, k2, k3, k4, uu, rfl, hst⟩ := star_ownC hs
  exact ⟨_, rfl, fun a F => hk a1 k1 a2 k2 a3 k3 a4 k4 uu w' a (mem_news M hbl hst) F⟩
theorem go_callCI {c : Cat} {n : Int} (hd : o.dst = some d) (hN : Nat.blt d N = true) (hop : o.op = .call { callee := .value (.func f), args := ags, argTypes := ts }) (hfn : Try.prog.funcs[f]? = some fn) (hb : fn.body.isNone = false) (hn : (fn.name == "runtime.NumGoroutine") = false)
    (hargs : evoL e ags.toList = some vs) (hc : ∀ w, Mem w0 w is → Calls Try.prog f vs.toArray w (RetCI w c n)) (hk : ∀ a1 k1 a2 k2 a3 k3 a4 k4 uu, GK w0 (is ++ [own1I (.slice a1 c.s.length k1) c.s, own1I (.slice a2 c.t.length k2) c.t, own1I (.slice a3 c.e.length k3) c.e, own2U (.slice a4 c.m.length k4) uu c.m]) N K ((d, .tuple #[.agg #[.int .i64 c.ob, .slice a1 c.s.length k1, .slice a2 c.t.length k2, .slice a3 c.e.length k3, .slice a4 c.m.length k4], .int .i64 n]) :: e)) : GO w0 is N o e Q K := by
  intro w a M F
  refine go_call hd hN F hop hfn hb hn hargs (hc w M) fun e' w' hR => ?_
  obtain ⟨v, rfl, hs, hbl⟩ := hR
  obtain ⟨a1, a2, a3, a4, k1, k2, k3, k4, uu, rfl, hst⟩ := star_ownC hs
  exact ⟨_, rfl, fun a F => hk a1 k1 a2 k2 a3 k3 a4 k4 uu w' a (mem_news M hbl hst) F⟩
end
theorem fit_res {a : Act} (F : Fit N e a) {t : Nat} (h : look e t = some v) : a.tmps[t]?.getD undef = v := by rw [F.at_ t v h]; rfl
theorem ret_1 {fn : Func} {t : Nat} {R : Ending → World → Prop} (h : fn.results = #[.tmp t]) (hv : look e t = some v) (hR : ∀ w, Mem w0 w is → R (.returned v) w) (hds : N.ds = [] := by rfl) : GK w0 is N (bodyPost Try.prog fn R .ret) e :=
  fun w ac M F => bodyPost_ret (v := v) (by rw [results_tmp h]; simp [fit_res F hv]) (F.nil hds) (hR w M)
theorem ret_2 {fn : Func} {t u : Nat} {a b : Value} {R : Ending → World → Prop} (h : fn.results = #[.tmp t, .tmp u]) (ha : look e t = some a) (hb : look e u = some b) (hR : ∀ w, Mem w0 w is → R (.returned (.tuple #[a, b])) w) (hds : N.ds = [] := by rfl) : GK w0 is N (bodyPost Try.prog fn R .ret) e :=
  fun w ac M F => bodyPost_ret (v := .tuple #[a, b]) (by simp [results, h, fit_res F ha, fit_res F hb]) (F.nil hds) (hR w M)
theorem ret_4 {fn : Func} {t u s r : Nat} {a b c g : Value} {R : Ending → World → Prop} (h : fn.results = #[.tmp t, .tmp u, .tmp s, .tmp r]) (ha : look e t = some a) (hb : look e u = some b) (hc : look e s = some c) (hg : look e r = some g) (hR : ∀ w, Mem w0 w is → R (.returned (.tuple #[a, b, c, g])) w) (hds : N.ds = [] := by rfl) : GK w0 is N (bodyPost Try.prog fn R .ret) e :=
  fun w ac M F => bodyPost_ret (v := .tuple #[a, b, c, g]) (by simp [results, h, fit_res F ha, fit_res F hb, fit_res F hc, fit_res F hg]) (F.nil hds) (hR w M)
theorem run_loadS {w : World} {t tb : TypeId} {n B : Nat} {cs : List Value} {td : TypeDesc} (M : Mem w0 w is) (ht : Try.prog.underlying t = some td) (hd : aggT td = true) (hs : (Try.prog.info? t).map (·.size) = some cs.length) (hi : is[n]? = some (bxI B tb cs)) :
    (loadVar t ⟨B, 0, none⟩).run Try.prog w = .ok (.agg cs.toArray) w :=
  run_loadVar_row w B tb t cs.toArray (0, 0) td (mem_bx M hi) ht (by cases td <;> simp_all [aggT]) (by simpa using hs)
theorem ret_S {fn : Func} {a n B : Nat} {t tb : TypeId} {cs : List Value} {td : TypeDesc} {R : Ending → World → Prop} (h : fn.results = #[.cell a t]) (ha : look e a = some (.pointer (some ⟨B, 0, none⟩))) (ht : Try.prog.underlying t = some td) (hd : aggT td = true) (hs : (Try.prog.info? t).map (·.size) = some cs.length) (hi : is[n]? = some (bxI B tb cs))
    (hR : ∀ w, Mem w0 w is → R (.returned (.agg cs.toArray)) w) (hds : N.ds = [] := by rfl) : GK w0 is N (bodyPost Try.prog fn R .ret) e :=
  fun w ac M F => bodyPost_ret (v := .agg cs.toArray) (by
    have h2 := fit_res F ha
    simp [results, h, h2, asAddr, run_loadS M ht hd hs hi]) (F.nil hds) (hR w M)
theorem ret_SI {fn : Func} {a b n B : Nat} {t tb : TypeId} {cs : List Value} {td : TypeDesc} {R : Ending → World → Prop} (h : fn.results = #[.cell a t, .tmp b]) (ha : look e a = some (.pointer (some ⟨B, 0, none⟩))) (hb : look e b = some v) (ht : Try.prog.underlying t = some td) (hd : aggT td = true) (hs : (Try.prog.info? t).map (·.size) = some cs.length) (hi : is[n]? = some (bxI B tb cs))
    (hR : ∀ w, Mem w0 w is → R (.returned (.tuple #[.agg cs.toArray, v])) w) (hds : N.ds = [] := by rfl) : GK w0 is N (bodyPost Try.prog fn R .ret) e :=
  fun w ac M F => bodyPost_ret (v := .tuple #[.agg cs.toArray, v]) (by
    have h2 := fit_res F ha
    simp [results, h, h2, asAddr, run_loadS M ht hd hs hi, fit_res F hb]) (F.nil hds) (hR w M)
end
end Go.Proofs.Ytbiplocgenppoaa
