
/- The rules of a walk in blocks of its own, one an operation. -/
import Derived.Test.YtakifeiemcldlaaMem
import Derived.IntWalk
namespace Go.Proofs.Ytakifeiemcldlaa
open Go.RowKit

section
variable {w0 : World} {is : List Itm} {ops : Array Oper} {Q : Exit → Act → World → Prop} {o : Oper} {rest : List Oper} {N : Nat} {e : Env} {v : Value} {d : Nat} {K : Act → World → Prop}

theorem qt_move {x : Operand} (hop : o.op = .move x) (hx : evo e x = some (v)) : QV w0 is o e v := fun w ac M F => by
    have hx := F _ _ hx
    simp [execOp, hop, hx]
theorem qt_assign {x : Operand} (hop : o.op = .assign x) (hx : evo e x = some (v)) : QV w0 is o e v := fun w ac M F => by
    have hx := F _ _ hx
    simp [execOp, hop, hx]
theorem qt_pick_t {c a b : Operand} (hop : o.op = .pick c a b) (hc : evo e c = some (.bool true)) (hx : evo e a = some (v)) : QV w0 is o e v := fun w ac M F => by
    have hc := F _ _ hc; have hx := F _ _ hx
    simp [execOp, hop, hc, hx, asBool]
theorem qt_pick_f {c a b : Operand} (hop : o.op = .pick c a b) (hc : evo e c = some (.bool false)) (hx : evo e b = some (v)) : QV w0 is o e v := fun w ac M F => by
    have hc := F _ _ hc; have hx := F _ _ hx
    simp [execOp, hop, hc, hx, asBool]
theorem qt_not {x : Operand} {t : TypeId} {b : Bool} (hop : o.op = .unOp .not t x) (hx : evo e x = some (.bool b)) : QV w0 is o e (.bool (!b)) := fun w ac M F => by
    have hx := F _ _ hx
    simp [execOp, hop, hx, Op.unary]
theorem qt_lss {x y : Operand} {t u : TypeId} {k : IntKind} {a b : Int} (hop : o.op = .binOp .lss t x y u) (hx : evo e x = some (.int k a)) (hy : evo e y = some (.int k b)) : QV w0 is o e (.bool (decide (a < b))) :=
  fun w ac M F => by
    have hx := F _ _ hx; have hy := F _ _ hy
    simp [execOp, hop, hx, hy, go_sem]
theorem qt_leq {x y : Operand} {t u : TypeId} {k : IntKind} {a b : Int} (hop : o.op = .binOp .leq t x y u) (hx : evo e x = some (.int k a)) (hy : evo e y = some (.int k b)) : QV w0 is o e (.bool (decide (a ≤ b))) :=
  fun w ac M F => by
    have hx := F _ _ hx; have hy := F _ _ hy
    simp [execOp, hop, hx, hy, go_sem]
theorem qt_gtr {x y : Operand} {t u : TypeId} {k : IntKind} {a b : Int} (hop : o.op = .binOp .gtr t x y u) (hx : evo e x = some (.int k a)) (hy : evo e y = some (.int k b)) : QV w0 is o e (.bool (decide (b < a))) :=
  fun w ac M F => by
    have hx := F _ _ hx; have hy := F _ _ hy
    simp [execOp, hop, hx, hy, go_sem]
theorem qt_geq {x y : Operand} {t u : TypeId} {k : IntKind} {a b : Int} (hop : o.op = .binOp .geq t x y u) (hx : evo e x = some (.int k a)) (hy : evo e y = some (.int k b)) : QV w0 is o e (.bool (decide (b ≤ a))) :=
  fun w ac M F => by
    have hx := F _ _ hx; have hy := F _ _ hy
    simp [execOp, hop, hx, hy, go_sem]
theorem qt_eql {x y : Operand} {t u : TypeId} {k : IntKind} {a b : Int} (hop : o.op = .binOp .eql t x y u) (hx : evo e x = some (.int k a)) (hy : evo e y = some (.int k b)) : QV w0 is o e (.bool (decide (a = b))) :=
  fun w ac M F => by
    have hx := F _ _ hx; have hy := F _ _ hy
    simp [execOp, hop, hx, hy, go_sem]; rfl
theorem qt_neq {x y : Operand} {t u : TypeId} {k : IntKind} {a b : Int} (hop : o.op = .binOp .neq t x y u) (hx : evo e x = some (.int k a)) (hy : evo e y = some (.int k b)) : QV w0 is o e (.bool (decide (a ≠ b))) :=
  fun w ac M F => by
    have hx := F _ _ hx; have hy := F _ _ hy
    simp [execOp, hop, hx, hy, go_sem]; by_cases h : a = b <;> simp [h]
theorem qt_eql_t {x y : Operand} {t u : TypeId} {k : IntKind} {a b : Int} (hop : o.op = .binOp .eql t x y u) (hx : evo e x = some (.int k a)) (hy : evo e y = some (.int k b)) (h : a = b) : QV w0 is o e (.bool true) := by
  have := qt_eql (w0 := w0) (is := is) hop hx hy; rwa [decide_eq_true h] at this
theorem qt_eql_f {x y : Operand} {t u : TypeId} {k : IntKind} {a b : Int} (hop : o.op = .binOp .eql t x y u) (hx : evo e x = some (.int k a)) (hy : evo e y = some (.int k b)) (h : ¬ a = b) : QV w0 is o e (.bool false) := by
  have := qt_eql (w0 := w0) (is := is) hop hx hy; rwa [decide_eq_false h] at this
theorem qt_neq_t {x y : Operand} {t u : TypeId} {k : IntKind} {a b : Int} (hop : o.op = .binOp .neq t x y u) (hx : evo e x = some (.int k a)) (hy : evo e y = some (.int k b)) (h : a ≠ b) : QV w0 is o e (.bool true) := by
  have := qt_neq (w0 := w0) (is := is) hop hx hy; rwa [decide_eq_true h] at this
theorem qt_neq_f {x y : Operand} {t u : TypeId} {k : IntKind} {a b : Int} (hop : o.op = .binOp .neq t x y u) (hx : evo e x = some (.int k a)) (hy : evo e y = some (.int k b)) (h : ¬ a ≠ b) : QV w0 is o e (.bool false) := by
  have := qt_neq (w0 := w0) (is := is) hop hx hy; rwa [decide_eq_false h] at this
theorem qt_add {x y : Operand} {t u : TypeId} {a b : Int} (hop : o.op = .binOp .add t x y u) (hx : evo e x = some (.int .i64 a)) (hy : evo e y = some (.int .i64 b)) (h : -9223372036854775808 ≤ a + b ∧ a + b ≤ 9223372036854775807) : QV w0 is o e (.int .i64 (a + b)) :=
  fun w ac M F => by
    have hx := F _ _ hx; have hy := F _ _ hy
    simp [execOp, hop, hx, hy, go_sem, Op.intArith]; exact IntWalk.i64_in _ h
theorem qt_sub {x y : Operand} {t u : TypeId} {a b : Int} (hop : o.op = .binOp .sub t x y u) (hx : evo e x = some (.int .i64 a)) (hy : evo e y = some (.int .i64 b)) (h : -9223372036854775808 ≤ a - b ∧ a - b ≤ 9223372036854775807) : QV w0 is o e (.int .i64 (a - b)) :=
  fun w ac M F => by
    have hx := F _ _ hx; have hy := F _ _ hy
    simp [execOp, hop, hx, hy, go_sem, Op.intArith]; exact IntWalk.i64_in _ h
theorem qt_mul {x y : Operand} {t u : TypeId} {a b : Int} (hop : o.op = .binOp .mul t x y u) (hx : evo e x = some (.int .i64 a)) (hy : evo e y = some (.int .i64 b)) (h : -9223372036854775808 ≤ a * b ∧ a * b ≤ 9223372036854775807) : QV w0 is o e (.int .i64 (a * b)) :=
  fun w ac M F => by
    have hx := F _ _ hx; have hy := F _ _ hy
    simp [execOp, hop, hx, hy, go_sem, Op.intArith]; exact IntWalk.i64_in _ h
theorem qt_conv {x : Operand} {s t : TypeId} {a : Int} (hop : o.op = .convert s t x) (hx : evo e x = some (.int .i64 a)) (hs : Try.prog.underlying s = some (.int .i64)) (ht : Try.prog.underlying t = some (.int .i64)) (h : -9223372036854775808 ≤ a ∧ a ≤ 9223372036854775807) : QV w0 is o e (.int .i64 a) :=
  fun w ac M F => by
    have hx := F _ _ hx
    simp [execOp, hop, hx, convert, run_underlying hs, run_underlying ht, Conv.intToInt]; exact IntWalk.i64_in _ h
theorem qt_extract {x : Operand} {n : Nat} {vs : List Value} (hop : o.op = .extract x n) (hx : evo e x = some (.tuple vs.toArray)) (hv : vs[n]? = some v) : QV w0 is o e v :=
  fun w ac M F => by
    have hx := F _ _ hx
    simp [execOp, hop, hx, Instr.extract, hv]
/-- A type of structs or arrays. -/
def aggT : TypeDesc → Bool | .struct _ => true | .array _ _ => true | _ => false
/-- A value is a slice of n elements. -/
def LenV (v : Value) (n : Nat) : Prop := ∃ a cap, v = .slice a n cap
theorem lenV_rd {w : World} {xs : List Int} (h : Rd w v xs) : LenV v xs.length := rd_form h
theorem lenV_rd2 {w : World} {xs : List (List Int)} (h : Rd2 w v xs) : LenV v xs.length := rd2_form h
theorem lenV_own1 {n : Nat} {xs : List Int} (h : is[n]? = some (own1I v xs)) {w : World} (M : Mem w0 w is) : LenV v xs.length := rd_form (mem_own1 M h).rd
theorem lenV_nil : LenV (.slice none 0 0) 0 := ⟨none, 0, rfl⟩
theorem qt_len {x : Operand} {t : TypeId} {n : Nat} (hop : o.op = .call { callee := .builtin .len, args := #[x], argTypes := #[t] }) (hx : evo e x = some (v)) (ht : Try.prog.underlying t = some (.slice (Try.prog.elem t))) (hl : ∀ w, Mem w0 w is → LenV v n) : QV w0 is o e (.int .i64 (n : Int)) :=
  fun w ac M F => by
    have hx := F _ _ hx
    obtain ⟨a, cap, rfl⟩ := hl w M
    simp [execOp, hop, hx, resolve, invoke, builtin, run_len_slice _ _ _ _ _ _ ht]
    rfl
/-- The address of an element. -/
def eltP (v : Value) (i : Int) : Value := match v with | .slice (some a) _ _ => .pointer (some ⟨a.block, a.off + i.toNat, none⟩) | _ => .pointer none
/-- A value is a slice of n elements, from a block's own place on. -/
def LenA (v : Value) (n : Nat) : Prop := ∃ a cap, v = .slice a n cap ∧ (0 < n → ∃ b off, a = some ⟨b, off, none⟩)
theorem lenA_rd {w : World} {xs : List Int} (h : Rd w v xs) : LenA v xs.length := by
  obtain ⟨a, cap, hv, _, hc⟩ := h
  exact ⟨a, cap, hv, fun h0 => let ⟨b, off, ha, _⟩ := hc 0 h0; ⟨b, off, ha⟩⟩
theorem lenA_rd2 {w : World} {xs : List (List Int)} (h : Rd2 w v xs) : LenA v xs.length := by
  obtain ⟨a, cap, hv, _, hc⟩ := h
  exact ⟨a, cap, hv, fun h0 => let ⟨b, off, ha, _⟩ := hc 0 h0; ⟨b, off, ha⟩⟩
theorem lenA_own1 {n : Nat} {xs : List Int} (h : is[n]? = some (own1I v xs)) {w : World} (M : Mem w0 w is) : LenA v xs.length := lenA_rd (mem_own1 M h).rd
theorem qt_index {x y : Operand} {t : TypeId} {n : Nat} {i : Int} (hop : o.op = .indexAddr t x y) (hx : evo e x = some (v)) (hy : evo e y = some (.int .i64 i)) (ht : Try.prog.underlying t = some (.slice (Try.prog.elem t)))
    (hs : (Try.prog.info? (Try.prog.elem t)).map (fun i => i.size) = some 1) (hl : ∀ w, Mem w0 w is → LenA v n) (h0 : 0 ≤ i) (h1 : i < (n : Int)) : QV w0 is o e (eltP v i) :=
  fun w ac M F => by
    have hx := F _ _ hx; have hy := F _ _ hy
    obtain ⟨a, cap, rfl, ha⟩ := hl w M
    obtain ⟨b, off, rfl⟩ := ha (by omega)
    obtain ⟨inf, hi, hz⟩ := Option.map_eq_some_iff.1 hs
    simp [execOp, hop, hx, hy, run_indexAt_slice _ _ _ _ _ _ _ ht, h0, h1, sizeOf, typeInfo, hi, hz, eltP, Addr.add]
theorem run_load1 {t : TypeId} {a : Addr} {w : World} {td : TypeDesc} (ht : Try.prog.underlying t = some td) (hd : aggT td = false) (hc : w.cell? a = some v) :
    (Instr.loadAt t (.pointer (some a))).run Try.prog w = .ok v w := by
  have hagg : (isAgg t).run Try.prog w = .ok false w := by
    unfold isAgg
    rw [Sem.run_bind, run_underlying ht w]
    cases td <;> simp_all [aggT]
  simp [Instr.loadAt, Instr.sureAddr, loadVar, Sem.run_bind, hagg, hc]
theorem elt_rd {w : World} {xs : List Int} (h : Rd w v xs) {i : Int} (h0 : 0 ≤ i) (h1 : i < xs.length) : ∃ b off, eltP v i = .pointer (some ⟨b, off, none⟩) ∧ w.cell? ⟨b, off, none⟩ = some (.int .i64 (at0 xs i)) := by
  obtain ⟨a, cap, hv, _, hc⟩ := h
  obtain ⟨b, off, ha, _, hcell⟩ := hc i.toNat (by omega)
  subst ha; subst hv
  exact ⟨b, off + i.toNat, rfl, hcell i.toNat (by omega)⟩
theorem qt_load1 {x : Operand} {t : TypeId} {u : Value} {xs : List Int} {i : Int} {td : TypeDesc} (hop : o.op = .load t x) (hx : evo e x = some (eltP u i)) (ht : Try.prog.underlying t = some td) (hd : aggT td = false)
    (hr : ∀ w, Mem w0 w is → Rd w u xs) (h0 : 0 ≤ i) (h1 : i < xs.length) : QV w0 is o e (.int .i64 (at0 xs i)) :=
  fun w ac M F => by
    have hx := F _ _ hx
    obtain ⟨b, off, he, hc⟩ := elt_rd (hr w M) h0 h1
    simp [execOp, hop, hx, he, run_load1 ht hd hc]
theorem row2_of {xs : List (List Int)} {i : Int} : row2 xs i = xs.getD i.toNat [] := rfl
theorem qt_load2 {x : Operand} {t : TypeId} {u : Value} {xs : List (List Int)} {i : Int} {td : TypeDesc} (hop : o.op = .load t x) (hx : evo e x = some (eltP u i)) (ht : Try.prog.underlying t = some td) (hd : aggT td = false)
    (hr : Rd2 w0 u xs) (h0 : 0 ≤ i) (h1 : i < xs.length) : ∃ r, Rd w0 r (row2 xs i) ∧ QV w0 is o e r := by
  obtain ⟨a, cap, hv, _, hc⟩ := hr
  obtain ⟨b, off, ha, hb, hcell⟩ := hc i.toNat (by omega)
  subst ha; subst hv
  obtain ⟨r, hr1, hr2⟩ := hcell i.toNat (by omega)
  refine ⟨r, hr2, fun w ac M F => ?_⟩
  have hx := F _ _ hx
  have hc2 : w.cell? ⟨b, off + i.toNat, none⟩ = some r := (M.1.cell (p := ⟨b, off + i.toNat, none⟩) hb).trans hr1
  simp [execOp, hop, hx, eltP, run_load1 ht hd hc2]
/-- A cell of a block of the list. -/
theorem qt_loadB {x : Operand} {t tb : TypeId} {n B j : Nat} {cs : List Value} {td : TypeDesc} (hop : o.op = .load t x) (hx : evo e x = some (.pointer (some ⟨B, j, none⟩))) (ht : Try.prog.underlying t = some td) (hd : aggT td = false)
    (hi : is[n]? = some (bxI B tb cs)) (hv : cs[j]? = some v) : QV w0 is o e v :=
  fun w ac M F => by
    have hx := F _ _ hx
    have hc := bx_cell (mem_bx M hi) j hv
    simp [execOp, hop, hx, run_load1 ht hd hc]
/-- A struct out of a block of the list. -/
theorem qt_loadS {x : Operand} {t tb : TypeId} {n B : Nat} {cs : List Value} {td : TypeDesc} (hop : o.op = .load t x) (hx : evo e x = some (.pointer (some ⟨B, 0, none⟩))) (ht : Try.prog.underlying t = some td) (hd : aggT td = true)
    (hs : (Try.prog.info? t).map (·.size) = some cs.length) (hi : is[n]? = some (bxI B tb cs)) : QV w0 is o e (.agg cs.toArray) :=
  fun w ac M F => by
    have hx := F _ _ hx
    have hc : w.heap[B]? = some (.cells cs.toArray tb (0, 0)) := mem_bx M hi
    simp [execOp, hop, hx, Instr.loadAt, Instr.sureAddr, run_loadVar_row w B tb t cs.toArray (0, 0) td hc ht (by cases td <;> simp_all [aggT]) (by simpa using hs)]
theorem qt_field {x : Operand} {s : TypeId} {n B j : Nat} {fs : Array Field} {f : Field} (hop : o.op = .fieldAddr s x n) (hx : evo e x = some (.pointer (some ⟨B, j, none⟩))) (hs : Try.prog.underlying s = some (.struct fs)) (hf : fs[n]? = some f)
    {z off : Nat} (hz : (Try.prog.info? f.type).map (·.size) = some (z + 1)) (ho : f.offset = off) : QV w0 is o e (.pointer (some ⟨B, j + off, none⟩)) :=
  fun w ac M F => by
    have hx := F _ _ hx
    obtain ⟨inf, hi, hz'⟩ := Option.map_eq_some_iff.1 hz
    simp [execOp, hop, hx, Instr.fieldAt, run_underlying hs, hf, Instr.sureAddr, fieldPlace, sizeOf, typeInfo, hi, hz', Addr.add, ho]
/-- A call that hands a value back and leaves all as it was. -/
theorem qt_call {f : FuncId} {fn : Func} {ags : Array Operand} {ts : Array TypeId} {vs : List Value} (hop : o.op = .call { callee := .value (.func f), args := ags, argTypes := ts }) (hfn : Try.prog.funcs[f]? = some fn) (hb : fn.body.isNone = false) (hn : (fn.name == "runtime.NumGoroutine") = false)
    (hargs : evoL e ags.toList = some vs) (hc : ∀ w, Mem w0 w is → Calls Try.prog f vs.toArray w (fun e w' => e = .returned v ∧ Below w.heap.size w w')) : QT w0 is N o e v := by
  intro w ac M F
  unfold Oper.quietAt
  have hrun : (execOp ac.eval o).run Try.prog w = .ok (.enter f vs.toArray) w := by
    have hb' : ¬ fn.body = none := fun h => by rw [h] at hb; simp at hb
    have hn' : ¬ fn.name = "runtime.NumGoroutine" := by simpa using hn
    have ha : ags.map ac.eval = vs.toArray := by
      have := fit_evals F hargs
      rw [← this]; apply Array.toList_inj.1; simp
    simp [execOp, hop, resolve, Act.eval, Deferred.ofValue, invoke, callFunc, hfn, hn', hb', ha]
  rw [hrun]
  exact ⟨rfl, (hc w M).mono fun e w' h => ⟨h.1, mem_keep M h.2⟩⟩
end
end Go.Proofs.Ytakifeiemcldlaa
