
/- The rules of a walk in blocks of its own: what the exact laws call. -/
import Derived.Test.YtakifeiemcldlaaRul5
import Derived.Test.YtakifeiemcldlaaLawC2
namespace Go.Proofs.Ytakifeiemcldlaa
open Go.RowKit
section
variable {w0 : World} {is : List Itm} {ops : Array Oper} {Q : Exit → Act → World → Prop} {o : Oper} {rest : List Oper} {N : Nat} {e : Env} {v : Value} {d : Nat} {K : Act → World → Prop}
variable {f : FuncId} {fn : Func} {ags : Array Operand} {ts : Array TypeId} {vs : List Value}
theorem qt_lss_t {x y : Operand} {t u : TypeId} {k : IntKind} {a b : Int} (hop : o.op = .binOp .lss t x y u) (hx : evo e x = some (.int k a)) (hy : evo e y = some (.int k b)) (h : a < b) : QV w0 is o e (.bool true) := by
  have := qt_lss (w0 := w0) (is := is) hop hx hy; rwa [decide_eq_true h] at this
theorem qt_lss_f {x y : Operand} {t u : TypeId} {k : IntKind} {a b : Int} (hop : o.op = .binOp .lss t x y u) (hx : evo e x = some (.int k a)) (hy : evo e y = some (.int k b)) (h : ¬ a < b) : QV w0 is o e (.bool false) := by
  have := qt_lss (w0 := w0) (is := is) hop hx hy; rwa [decide_eq_false h] at this
theorem qt_gtr_t {x y : Operand} {t u : TypeId} {k : IntKind} {a b : Int} (hop : o.op = .binOp .gtr t x y u) (hx : evo e x = some (.int k a)) (hy : evo e y = some (.int k b)) (h : b < a) : QV w0 is o e (.bool true) := by
  have := qt_gtr (w0 := w0) (is := is) hop hx hy; rwa [decide_eq_true h] at this
theorem qt_gtr_f {x y : Operand} {t u : TypeId} {k : IntKind} {a b : Int} (hop : o.op = .binOp .gtr t x y u) (hx : evo e x = some (.int k a)) (hy : evo e y = some (.int k b)) (h : ¬ b < a) : QV w0 is o e (.bool false) := by
  have := qt_gtr (w0 := w0) (is := is) hop hx hy; rwa [decide_eq_false h] at this
theorem qt_neB {x y : Operand} {t u : TypeId} {b : Bool} (hop : o.op = .binOp .neq t x y u) (hx : evo e x = some (.bool b)) (hy : evo e y = some (.bool b)) (ht : Try.prog.underlying t = some .bool) : QV w0 is o e (.bool false) := by
  intro w ρ M F
  have hx := F _ _ hx; have hy := F _ _ hy
  simp [execOp, hop, hx, hy, eqGuard, binOp, run_equal_bool w t b b ht]
theorem go_callL1 {xs : List Int} (hd : o.dst = some d) (hN : Nat.blt d N = true) (hop : o.op = .call { callee := .value (.func f), args := ags, argTypes := ts }) (hfn : Try.prog.funcs[f]? = some fn) (hb : fn.body.isNone = false) (hn : (fn.name == "runtime.NumGoroutine") = false)
    (hargs : evoL e ags.toList = some vs) (hc : ∀ w, Mem w0 w is → Calls Try.prog f vs.toArray w (RetL w xs)) (hk : ∀ a cap, xs.length ≤ 17592186044415 → GK w0 (is ++ [own1I (.slice a xs.length cap) xs]) N K ((d, .slice a xs.length cap) :: e)) : GO w0 is N o e Q K := by
  intro w a M F
  refine go_call hd hN F hop hfn hb hn hargs (hc w M) fun e' w' hR => ?_
  obtain ⟨v, rfl, hs, hbl⟩ := hR
  have hl := hs.2
  obtain ⟨va, vc, rfl, _⟩ := sl_form hs
  exact ⟨_, rfl, fun a F => hk va vc hl w' a (mem_new M hbl (own1_of hs)) F⟩
theorem go_callLI1 {xs : List Int} {c : Int} (hd : o.dst = some d) (hN : Nat.blt d N = true) (hop : o.op = .call { callee := .value (.func f), args := ags, argTypes := ts }) (hfn : Try.prog.funcs[f]? = some fn) (hb : fn.body.isNone = false) (hn : (fn.name == "runtime.NumGoroutine") = false)
    (hargs : evoL e ags.toList = some vs) (hc : ∀ w, Mem w0 w is → Calls Try.prog f vs.toArray w (RetLI w xs c)) (hk : ∀ a cap, xs.length ≤ 17592186044415 → GK w0 (is ++ [own1I (.slice a xs.length cap) xs]) N K ((d, .tuple #[.slice a xs.length cap, .int .i64 c]) :: e)) : GO w0 is N o e Q K := by
  intro w a M F
  refine go_call hd hN F hop hfn hb hn hargs (hc w M) fun e' w' hR => ?_
  obtain ⟨v, rfl, hs, hbl⟩ := hR
  have hl := hs.2
  obtain ⟨va, vc, rfl, _⟩ := sl_form hs
  exact ⟨_, rfl, fun a F => hk va vc hl w' a (mem_new M hbl (own1_of hs)) F⟩
theorem go_callR1 {xs : List (List Int)} (hd : o.dst = some d) (hN : Nat.blt d N = true) (hop : o.op = .call { callee := .value (.func f), args := ags, argTypes := ts }) (hfn : Try.prog.funcs[f]? = some fn) (hb : fn.body.isNone = false) (hn : (fn.name == "runtime.NumGoroutine") = false)
    (hargs : evoL e ags.toList = some vs) (hc : ∀ w, Mem w0 w is → Calls Try.prog f vs.toArray w (RetR w xs)) (hk : ∀ a cap, GK w0 (is ++ [own2I (.slice a xs.length cap) xs]) N K ((d, .slice a xs.length cap) :: e)) : GO w0 is N o e Q K := by
  intro w a M F
  refine go_call hd hN F hop hfn hb hn hargs (hc w M) fun e' w' hR => ?_
  obtain ⟨v, rfl, hs, hbl⟩ := hR
  obtain ⟨va, vc, rfl⟩ := rd2_form (sl2_rd hs)
  exact ⟨_, rfl, fun a F => hk va vc w' a (mem_new M hbl (own2_of hs)) F⟩
theorem go_callRI1 {xs : List (List Int)} {c : Int} (hd : o.dst = some d) (hN : Nat.blt d N = true) (hop : o.op = .call { callee := .value (.func f), args := ags, argTypes := ts }) (hfn : Try.prog.funcs[f]? = some fn) (hb : fn.body.isNone = false) (hn : (fn.name == "runtime.NumGoroutine") = false)
    (hargs : evoL e ags.toList = some vs) (hc : ∀ w, Mem w0 w is → Calls Try.prog f vs.toArray w (RetRI w xs c)) (hk : ∀ a cap, GK w0 (is ++ [own2I (.slice a xs.length cap) xs]) N K ((d, .tuple #[.slice a xs.length cap, .int .i64 c]) :: e)) : GO w0 is N o e Q K := by
  intro w a M F
  refine go_call hd hN F hop hfn hb hn hargs (hc w M) fun e' w' hR => ?_
  obtain ⟨v, rfl, hs, hbl⟩ := hR
  obtain ⟨va, vc, rfl⟩ := rd2_form (sl2_rd hs)
  exact ⟨_, rfl, fun a F => hk va vc w' a (mem_new M hbl (own2_of hs)) F⟩
theorem go_callC1 {c : Cat} (hd : o.dst = some d) (hN : Nat.blt d N = true) (hop : o.op = .call { callee := .value (.func f), args := ags, argTypes := ts }) (hfn : Try.prog.funcs[f]? = some fn) (hb : fn.body.isNone = false) (hn : (fn.name == "runtime.NumGoroutine") = false)
    (hargs : evoL e ags.toList = some vs) (hc : ∀ w, Mem w0 w is → Calls Try.prog f vs.toArray w (RetC w c)) (hk : ∀ a1 k1 a2 k2 a3 k3 a4 k4, GK w0 (is ++ [ownCI (.agg #[.int .i64 c.ob, .slice a1 c.s.length k1, .slice a2 c.t.length k2, .slice a3 c.e.length k3, .slice a4 c.m.length k4]) c]) N K ((d, .agg #[.int .i64 c.ob, .slice a1 c.s.length k1, .slice a2 c.t.length k2, .slice a3 c.e.length k3, .slice a4 c.m.length k4]) :: e)) : GO w0 is N o e Q K := by
  intro w a M F
  refine go_call hd hN F hop hfn hb hn hargs (hc w M) fun e' w' hR => ?_
  obtain ⟨v, rfl, hs, hbl⟩ := hR
  obtain ⟨a1, a2, a3, a4, k1, k2, k3, k4, rfl⟩ := RdC.form hs.rd
  exact ⟨_, rfl, fun a F => hk a1 k1 a2 k2 a3 k3 a4 k4 w' a (mem_new M hbl hs) F⟩
theorem go_callCI1 {c : Cat} {n : Int} (hd : o.dst = some d) (hN : Nat.blt d N = true) (hop : o.op = .call { callee := .value (.func f), args := ags, argTypes := ts }) (hfn : Try.prog.funcs[f]? = some fn) (hb : fn.body.isNone = false) (hn : (fn.name == "runtime.NumGoroutine") = false)
    (hargs : evoL e ags.toList = some vs) (hc : ∀ w, Mem w0 w is → Calls Try.prog f vs.toArray w (RetCI w c n)) (hk : ∀ a1 k1 a2 k2 a3 k3 a4 k4, GK w0 (is ++ [ownCI (.agg #[.int .i64 c.ob, .slice a1 c.s.length k1, .slice a2 c.t.length k2, .slice a3 c.e.length k3, .slice a4 c.m.length k4]) c]) N K ((d, .tuple #[.agg #[.int .i64 c.ob, .slice a1 c.s.length k1, .slice a2 c.t.length k2, .slice a3 c.e.length k3, .slice a4 c.m.length k4], .int .i64 n]) :: e)) : GO w0 is N o e Q K := by
  intro w a M F
  refine go_call hd hN F hop hfn hb hn hargs (hc w M) fun e' w' hR => ?_
  obtain ⟨v, rfl, hs, hbl⟩ := hR
  obtain ⟨a1, a2, a3, a4, k1, k2, k3, k4, rfl⟩ := RdC.form hs.rd
  exact ⟨_, rfl, fun a F => hk a1 k1 a2 k2 a3 k3 a4 k4 w' a (mem_new M hbl hs) F⟩
/-- A call that writes one thing of the list. -/
theorem go_mark {i : Itm} (j : Itm) {n : Nat} {r : Value} (hd : o.dst = some d) (hN : Nat.blt d N = true) (hop : o.op = .call { callee := .value (.func f), args := ags, argTypes := ts }) (hfn : Try.prog.funcs[f]? = some fn) (hb : fn.body.isNone = false) (hn : (fn.name == "runtime.NumGoroutine") = false)
    (hargs : evoL e ags.toList = some vs) (hi : is[n]? = some i) (hc : ∀ w S, i.p w S → Calls Try.prog f vs.toArray w (fun e w' => e = .returned r ∧ j.p w' S ∧ FrS S w w')) (hk : GK w0 (is.set n j) N K ((d, r) :: e)) : GO w0 is N o e Q K := by
  intro w a M F
  obtain ⟨S, hS, hp, hset⟩ := mem_set M hi
  refine go_call hd hN F hop hfn hb hn hargs (hc w S hp) fun e' w' hR => ?_
  obtain ⟨rfl, hj, hf⟩ := hR
  exact ⟨r, rfl, fun a F => hk w' a (hset w' j hf (j.loc.keep (fun k _ h => .inl h) agree_refl hj)) F⟩
end
theorem sz1_le (w : World) (v : Value) (xs : List Int) (left : Int) (h : In w v xs) (h0 : 0 ≤ left) (h1 : left ≤ 1048576) (hl : (xs.length : Int) ≤ left) : Calls Try.prog 48 #[v, .int .i64 left] w (RetI w (left - xs.length)) :=
  (sz_any w v xs left h h0 h1).mono fun e w' hR => by rw [if_pos hl] at hR; exact ⟨hR.1, by rw [← hR.2]; exact Below.refl _ _⟩
theorem sz1_gt (w : World) (v : Value) (xs : List Int) (left : Int) (h : In w v xs) (h0 : 0 ≤ left) (h1 : left ≤ 1048576) (hl : ¬ (xs.length : Int) ≤ left) : Calls Try.prog 48 #[v, .int .i64 left] w (RetI w (-1)) :=
  (sz_any w v xs left h h0 h1).mono fun e w' hR => by rw [if_neg hl] at hR; exact ⟨hR.1, by rw [← hR.2]; exact Below.refl _ _⟩
theorem sz2_le (w : World) (v : Value) (rows : List (List Int)) (left : Int) (h : In2 w v rows) (h0 : 0 ≤ left) (h1 : left ≤ 1048576) (hl : ((rows.length + offR rows rows.length : Nat) : Int) ≤ left) : Calls Try.prog 49 #[v, .int .i64 left] w (RetI w (left - ((rows.length + offR rows rows.length : Nat) : Int))) :=
  (sz2_any w v rows left h h0 h1).mono fun e w' hR => by rw [if_pos hl] at hR; exact hR
theorem sz2_gt (w : World) (v : Value) (rows : List (List Int)) (left : Int) (h : In2 w v rows) (h0 : 0 ≤ left) (h1 : left ≤ 1048576) (hl : ¬ ((rows.length + offR rows rows.length : Nat) : Int) ≤ left) : Calls Try.prog 49 #[v, .int .i64 left] w (RetI w (-1)) :=
  (sz2_any w v rows left h h0 h1).mono fun e w' hR => by rw [if_neg hl] at hR; exact hR
theorem szC_le (w : World) (v : Value) (c : Cat) (left : Int) (h : InC w v c) (h0 : 0 ≤ left) (h1 : left ≤ 1048576) (hl : ((szM c : Nat) : Int) ≤ left) : Calls Try.prog 15 #[v, .int .i64 left] w (RetI w (left - ((szM c : Nat) : Int))) :=
  (szC_any w v c left h h0 h1).mono fun e w' hR => by rw [if_pos hl] at hR; exact hR
theorem szC_gt (w : World) (v : Value) (c : Cat) (left : Int) (h : InC w v c) (h0 : 0 ≤ left) (h1 : left ≤ 1048576) (hl : ¬ ((szM c : Nat) : Int) ≤ left) : Calls Try.prog 15 #[v, .int .i64 left] w (RetI w (-1)) :=
  (szC_any w v c left h h0 h1).mono fun e w' hR => by rw [if_neg hl] at hR; exact hR
end Go.Proofs.Ytakifeiemcldlaa
