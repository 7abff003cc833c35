import Derived.Test.YtbiplocgenppoaaC11
import Derived.Test.YtbiplocgenppoaaC10
import Derived.Test.YtbiplocgenppoaaC12
import Derived.Laws.Bits64b
import Derived.StillTailTactics
import Derived.Test.YtbiplocgenppoaaC1
import Derived.Test.YtbiplocgenppoaaC9
import Derived.RangeFuncNested
import Derived.Test.YtbiplocgenppoaaC4
set_option maxHeartbeats 800000
set_option maxRecDepth 100000
set_option linter.unusedSimpArgs false
set_option linter.unusedVariables false
set_option linter.unusedSectionVars false
namespace Go.Proofs.Ytbiplocgenppoaa
open _root_.Go.Proofs.Try
open Go.RowKit
def CallsV (v : Value) (vs : List Value) (w : World) (R : Ending → World → Prop) : Prop :=
  ∃ (f : FuncId) (us : Array Value), ((Deferred.ofValue v vs.toArray >>= fun d => invoke d.target d.args : Sem Next).run Try.prog w = .ok (.enter f us) w) ∧ Calls Try.prog f us w R
theorem callsV_f {f : FuncId} {fn : Func} {bnd vs caps : List Value} {w : World} {R : Ending → World → Prop} (hfn : Try.prog.funcs[f]? = some fn) (hb : fn.body.isNone = false) (hn : (fn.name == "runtime.NumGoroutine") = false)
    (hc : Calls Try.prog f (bnd ++ vs ++ caps).toArray w R) : CallsV (.func (.func f) bnd.toArray caps.toArray) vs w R := by
  refine ⟨f, (bnd ++ vs ++ caps).toArray, ?_, hc⟩
  have hb' : ¬ fn.body = none := fun h => by rw [h] at hb; simp at hb
  have hn' : ¬ fn.name = "runtime.NumGoroutine" := by simpa using hn
  simp [Deferred.ofValue, invoke, callFunc, hfn, hn', hb']
section
variable {w0 : World} {is : List Itm} {ops : Array Oper} {Q : Exit → Act → World → Prop} {o : Oper} {N : Frm} {e : Env} {v u : Value} {d : Nat} {K : Act → World → Prop} {f : FuncId} {fn : Func} {ags : Array Operand} {ts : Array TypeId} {vs : List Value}
theorem run_enterV {x : Operand} {R : Ending → World → Prop} (hop : o.op = .call { callee := .value x, args := ags, argTypes := ts }) (hx : evo e x = some u) (hargs : evoL e ags.toList = some vs) {w : World} {a : Act} (F : Fit N e a) (hc : CallsV u vs w R) :
    ∃ f us, (execOp a.eval o).run Try.prog w = .ok (.enter f us) w ∧ Calls Try.prog f us w R := by
  obtain ⟨f, us, h1, h2⟩ := hc
  refine ⟨f, us, ?_, h2⟩
  have ha : ags.map a.eval = vs.toArray := by
    have := fit_evals F hargs
    rw [← this]; apply Array.toList_inj.1; simp
  have hx' := fit_eval F hx
  simp only [execOp, hop, resolve, hx', ha]
  exact h1
theorem qt_callV {x : Operand} (hop : o.op = .call { callee := .value x, args := ags, argTypes := ts }) (hx : evo e x = some u) (hargs : evoL e ags.toList = some vs)
    (hc : ∀ w, Mem w0 w is → CallsV u vs w (fun e w' => e = .returned v ∧ Below w.heap.size w w')) : QT w0 is N o e v := by
  intro w ac M F
  unfold Oper.quietAt
  obtain ⟨f, us, h1, h2⟩ := run_enterV hop hx hargs F (hc w M)
  rw [h1]
  exact ⟨rfl, h2.mono fun e w' h => ⟨h.1, mem_keep M h.2⟩⟩
theorem go_callV {w : World} {a : Act} {x : Operand} {R : Ending → World → Prop} (hd : o.dst = some d) (hN : Nat.blt d N = true) (F : Fit N e a) (hop : o.op = .call { callee := .value x, args := ags, argTypes := ts }) (hx : evo e x = some u) (hargs : evoL e ags.toList = some vs)
    (hc : CallsV u vs w R) (hk : ∀ e' w', R e' w' → ∃ v, e' = .returned v ∧ ∀ a, Fit N ((d, v) :: e) a → K a w') : o.wp Try.prog a w K Q := by
  unfold Oper.wp
  obtain ⟨f, us, h1, h2⟩ := run_enterV hop hx hargs F hc
  rw [h1, Oper.upon_enter]
  refine h2.mono fun e' w' h => ?_
  obtain ⟨v, rfl, h2⟩ := hk e' w' h
  show K (Act.put _ o.dst v) w'
  rw [hd]
  exact h2 _ (fit_put F hN)
theorem go_callVL {x : Operand} {xs : List Int} (hd : o.dst = some d) (hN : Nat.blt d N = true) (hop : o.op = .call { callee := .value x, args := ags, argTypes := ts }) (hx : evo e x = some u) (hargs : evoL e ags.toList = some vs)
    (hc : ∀ w, Mem w0 w is → CallsV u vs w (RetL w xs)) (hk : ∀ a cap, GK w0 (is ++ [own1I (.slice a xs.length cap) xs]) N K ((d, .slice a xs.length cap) :: e)) : GO w0 is N o e Q K := by
  intro w a M F
  refine go_callV hd hN F hop hx hargs (hc w M) fun e' w' hR => ?_
  obtain ⟨v, rfl, hs, hb⟩ := hR
  obtain ⟨va, vc, rfl, _⟩ := sl_form hs
  exact ⟨_, rfl, fun a F => hk va vc w' a (mem_new M hb ⟨hs.mono (Nat.zero_le _), fun q hq => (hs.1.lt q hq).1⟩) F⟩
end
theorem fv_loc (w0 : World) (Sp : World → Prop) : Loc (fun w S => ∀ w', Below w0.heap.size w0 w' → (∀ k, k < w.heap.size → S k → w'.heap[k]? = w.heap[k]?) → Sp w') where
  keep {w w' S S'} hs ha h := fun w'' hb hk => h w'' hb fun k h1 h2 => by
    have e := ha k h1 h2
    refine (hk k ?_ (hs k h1 h2)).trans e
    rw [Array.getElem?_eq_getElem h1] at e
    exact (Array.getElem?_eq_some_iff.1 e).1
def fvI (w0 : World) (Sp : World → Prop) : Itm := ⟨_, fv_loc w0 Sp⟩
theorem mem_fv {w0 w : World} {is : List Itm} {n : Nat} {Sp : World → Prop} (M : Mem w0 w is) (h : is[n]? = some (fvI w0 Sp)) {w' : World} (hb : Below w.heap.size w w') : Sp w' := by
  obtain ⟨S, _, hp⟩ := mem_get M h
  exact hp w' (M.1.trans (hb.mono M.1.size)) fun k hk _ => hb.block k hk
theorem mem_fv0 {w0 w : World} {is : List Itm} {n : Nat} {Sp : World → Prop} (M : Mem w0 w is) (h : is[n]? = some (fvI w0 Sp)) : Sp w := mem_fv M h (Below.refl _ _)
def IsFn (v : Value) : Prop := ∃ (f : Fn) (a b : Array Value), v = .func f a b
theorem IsFn.cells {v : Value} (h : IsFn v) : v.cells = #[v] := by obtain ⟨f, a, b, rfl⟩ := h; rfl
theorem IsFn.one {v : Value} (h : IsFn v) : v.oneCell' = true := by obtain ⟨f, a, b, rfl⟩ := h; rfl
def SpI (m : Nat) (φ : Int → Int) (w : World) (v : Value) : Prop := IsFn v ∧ ∀ g : Int, 0 ≤ g → g < m → CallsV v [.int .i64 g] w (RetI w (φ g))
def RetFv (W0 W : World) (Sp : World → Value → Prop) (e : Ending) (w' : World) : Prop :=
  ∃ v, e = .returned v ∧ (∀ w'', Below W0.heap.size W0 w'' → (∀ k, W.heap.size ≤ k → k < w'.heap.size → w''.heap[k]? = w'.heap[k]?) → Sp w'' v) ∧ Below W.heap.size W w'
section
variable {w0 : World} {is : List Itm} {ops : Array Oper} {Q : Exit → Act → World → Prop} {o : Oper} {N : Frm} {e : Env} {v u : Value} {d : Nat} {K : Act → World → Prop} {f : FuncId} {fn : Func} {ags : Array Operand} {ts : Array TypeId} {vs : List Value}
theorem mem_newFv {w w' : World} {Sp : World → Value → Prop} (M : Mem w0 w is) (hs : ∀ w'', Below w0.heap.size w0 w'' → (∀ k, w.heap.size ≤ k → k < w'.heap.size → w''.heap[k]? = w'.heap[k]?) → Sp w'' v) (hb : Below w.heap.size w w') : Mem w0 w' (is ++ [fvI w0 (fun w => Sp w v)]) :=
  mem_new M hb fun w'' h1 h2 => hs w'' h1 fun k h3 h4 => h2 k h4 h3
theorem go_callFv {Sp : World → Value → Prop} (hd : o.dst = some d) (hN : Nat.blt d N = true) (hop : o.op = .call { callee := .value (.func f), args := ags, argTypes := ts }) (hfn : Try.prog.funcs[f]? = some fn) (hb : fn.body.isNone = false) (hn : (fn.name == "runtime.NumGoroutine") = false)
    (hargs : evoL e ags.toList = some vs) (hc : ∀ w, Mem w0 w is → Calls Try.prog f vs.toArray w (RetFv w0 w Sp)) (hk : ∀ v, GK w0 (is ++ [fvI w0 (fun w => Sp w v)]) N K ((d, v) :: e)) : GO w0 is N o e Q K := by
  intro w a M F
  refine go_call hd hN F hop hfn hb hn hargs (hc w M) fun e' w' hR => ?_
  obtain ⟨v, rfl, hs, hb⟩ := hR
  exact ⟨_, rfl, fun a F => hk v w' a (mem_newFv M hs hb) F⟩
end
def RdV (w : World) (v : Value) (us : List Value) : Prop :=
  ∃ (a : Option Addr) (cap : Nat), v = .slice a us.length cap ∧ us.length ≤ 17592186044415 ∧
    ∀ j, j < us.length → ∃ b off, a = some ⟨b, off, none⟩ ∧ b < w.heap.size ∧ ∀ i, i < us.length → w.cell? ⟨b, off + i, none⟩ = some (us.getD i undef)
theorem rdV_below {w w' : World} {v : Value} {us : List Value} (hb : Below w.heap.size w w') (h : RdV w v us) : RdV w' v us := by
  obtain ⟨a, cap, hv, hl, hc⟩ := h
  refine ⟨a, cap, hv, hl, fun j hj => ?_⟩
  obtain ⟨b, off, ha, hbs, hcell⟩ := hc j hj
  exact ⟨b, off, ha, Nat.lt_of_lt_of_le hbs hb.size, fun i hi => (hb.cell (p := ⟨b, off + i, none⟩) hbs).trans (hcell i hi)⟩
theorem mem_rdV {w0 w : World} {is : List Itm} {v : Value} {us : List Value} (M : Mem w0 w is) (h : RdV w0 v us) : RdV w v us := rdV_below M.1 h
theorem rdV_form {w : World} {v : Value} {us : List Value} (h : RdV w v us) : ∃ a cap, v = .slice a us.length cap := by
  obtain ⟨a, cap, hv, _⟩ := h; exact ⟨a, cap, hv⟩
theorem lenV_V {w : World} {v : Value} {us : List Value} (h : RdV w v us) : LenV v us.length := rdV_form h
theorem lenA_V {w : World} {v : Value} {us : List Value} (h : RdV w v us) : LenA v us.length := by
  obtain ⟨a, cap, hv, _, hc⟩ := h
  exact ⟨a, cap, hv, fun h0 => let ⟨b, off, ha, _⟩ := hc 0 h0; ⟨b, off, ha⟩⟩
theorem qt_loadV {w0 : World} {is : List Itm} {o : Oper} {e : Env} {x : Operand} {t : TypeId} {u : Value} {us : List Value} {i : Int} {td : TypeDesc} (hop : o.op = .load t x) (hx : evo e x = some (eltP u i)) (ht : Try.prog.underlying t = some td) (hd : aggT td = false)
    (hr : ∀ w, Mem w0 w is → RdV w u us) (h0 : 0 ≤ i) (h1 : i < us.length) : QV w0 is o e (us.getD i.toNat undef) :=
  fun w ac M F => by
    have hx := F _ _ hx
    obtain ⟨a, cap, hv, _, hc⟩ := hr w M
    obtain ⟨b, off, ha, hb, hcell⟩ := hc i.toNat (by omega)
    subst ha; subst hv
    have hc2 := hcell i.toNat (by omega)
    simp [execOp, hop, hx, eltP, run_load1 ht hd hc2]
theorem rdV_bx {w : World} {B : Nat} {t : TypeId} {u : Value} (h : Bx w B t [u]) : RdV w (.slice (some ⟨B, 0, none⟩) 1 1) [u] := by
  refine ⟨_, _, rfl, by simp, fun j _ => ⟨B, 0, rfl, bx_lt h, fun i hi => ?_⟩⟩
  have : i = 0 := by simpa using hi
  subst this
  exact bx_cell h 0 rfl
theorem ulEV : Try.prog.underlying 102 = some (.slice (Try.prog.elem 102)) := by kernel_rfl
theorem szEV : (Try.prog.info? (Try.prog.elem 102)).map (fun i => i.size) = some 1 := by kernel_rfl
theorem ulSV : Try.prog.underlying 102 = some (.slice 77) := by kernel_rfl
theorem infoV : (Try.prog.info? 77).map (fun i => (i.zero, i.size, i.bytes)) = some (some .nilFunc, 1, 8) := by kernel_rfl
section
variable {w0 : World} {is : List Itm} {Q : Exit → Act → World → Prop} {o : Oper} {N : Frm} {e : Env} {v u : Value} {d : Nat} {K : Act → World → Prop}
theorem go_sliceV1 {t : TypeId} {x : Operand} (hd : o.dst = some d) (hN : Nat.blt d N = true) (hop : o.op = .buildSlice t 1 #[(0, x)]) (hx : evo e x = some u) (ht : Try.prog.underlying t = some (.slice 77)) (hu : ∀ w, Mem w0 w is → u.cells = #[u])
    (hk : ∀ B : Nat, GK w0 (is ++ [bxI B 77 [u]]) N K ((d, .slice (some ⟨B, 0, none⟩) 1 1) :: e)) : GO w0 is N o e Q K := by
  intro w a M F
  refine go_val (v := .slice (some ⟨w.heap.size, 0, none⟩) 1 1) (w' := w.alloc (.cells #[u] 77)) hd hN F ?_ fun ac F => hk _ _ ac (mem_box M) F
  intro ρ F
  have hx := F _ _ hx
  have hu := hu w M
  obtain ⟨i, hi, hz, hs, hb⟩ := info_parts infoV
  have hc : Value.nilFunc.cells = #[Value.nilFunc] := rfl
  simp [execOp, hop, hx, hu, hc, Instr.buildSlice, run_underlying ht, sizeOf, typeInfo, hi, hs, Instr.fill, newRow, zeroValue, hz, Sem.run_bind, range1]
end
section
variable {w0 : World} {is : List Itm} {o : Oper} {e : Env}
theorem qt_fieldPair {x : Operand} {a b : Int} (hop : o.op = .field 91 x 0) (hx : evo e x = some (.agg #[.int .i64 a, .int .i64 b])) : QV w0 is o e (.int .i64 a) := fun w ρ M F => by
  have hx := F _ _ hx
  obtain ⟨i, hi, hz, hs, hb⟩ := info_parts info64
  simp [execOp, hop, hx, Instr.field, Sem.run_bind, run_underlying underlying91, part, sizeOf, typeInfo, hi, hs, asAgg]
end
theorem RdC.l1 {w : World} {c : Cat} {o a b d m : Value} (h : RdC w (.agg #[o, a, b, d, m]) c) : Rd w a c.s := by obtain ⟨vs, vt, ve, vm, hv, h1, h2, h3, h4⟩ := h; simp only [Value.agg.injEq, Array.mk.injEq, List.cons.injEq] at hv; obtain ⟨_, rfl, rfl, rfl, rfl, _⟩ := hv; exact h1
theorem RdC.l2 {w : World} {c : Cat} {o a b d m : Value} (h : RdC w (.agg #[o, a, b, d, m]) c) : Rd w b c.t := by obtain ⟨vs, vt, ve, vm, hv, h1, h2, h3, h4⟩ := h; simp only [Value.agg.injEq, Array.mk.injEq, List.cons.injEq] at hv; obtain ⟨_, rfl, rfl, rfl, rfl, _⟩ := hv; exact h2
end Go.Proofs.Ytbiplocgenppoaa
namespace Go.Proofs.Ytbiplocgenppoaa
open _root_.Go.Proofs.Try
open Go.RowKit
structure SepR (r : Int → Int → Prop) (n : Nat) (out : List (List Int)) : Prop where
  ne : ∀ i : Nat, i < out.length → row2 out (i : Int) ≠ []
  hd : ∀ i : Nat, i < out.length → ∀ x ∈ row2 out (i : Int), 0 ≤ x ∧ x < n
  sep : ∀ i j : Nat, i < j → j < out.length → ¬ (r (at0 (row2 out (i : Int)) 0) (at0 (row2 out (j : Int)) 0) ∧ r (at0 (row2 out (j : Int)) 0) (at0 (row2 out (i : Int)) 0))
theorem opp_th {c : Cat} {f g : Nat} (hf : f < c.s.length) (hg : g < c.s.length) : (oppM c).th (f : Int) (g : Int) = c.th (g : Int) (f : Int) := by
  show at0 (row2 (rowsTo _ _) (f : Int)) (g : Int) = _
  rw [rowsTo_at _ hf, tabTo_at _ hg]
theorem opp_len {c : Cat} (hS : ShapeP c) : (oppM c).s.length = c.s.length := hS.tl
theorem opp_cat {c : Cat} (hC : IsCat c) : IsCat (oppM c) := by
  have hS := hC.toShapeP
  have tl := hS.tl
  refine { toShapeP := opp_shape hS, idl := fun f hf => ?_, assoc := fun f g h hf hg hh hb => ?_ }
  · have hf' : f < c.s.length := by rw [← opp_len hS]; exact hf
    have hA := arrP hS (f := (f : Int)) (by omega) (by omega)
    have hu := unitL hC (f := (f : Int)) (by omega) (by omega)
    have i1 := hS.idn (x := at0 c.t f) hA.t0 (by have := hA.t1; have := hS.el; omega)
    have i2 := hS.idn (x := at0 c.s f) hA.s0 (by have := hA.s1; have := hS.el; omega)
    show (oppM c).th (at0 c.e (at0 c.t f)) f = f ∧ (oppM c).th f (at0 c.e (at0 c.s f)) = f
    obtain ⟨a, ha⟩ := Int.eq_ofNat_of_zero_le i1.1
    obtain ⟨b, hb⟩ := Int.eq_ofNat_of_zero_le i2.1
    rw [ha] at hu i1 ⊢
    rw [hb] at hu i2 ⊢
    rw [opp_th (by omega) hf', opp_th hf' (by omega)]
    exact ⟨hu.2, hu.1⟩
  rw [opp_len hS] at hf hg hh
  obtain ⟨e1, e2, e3⟩ := hb
  have e1' : at0 c.s (f : Int) = at0 c.t (g : Int) := e1
  have e2' : at0 c.s (g : Int) = at0 c.t (h : Int) := e2
  have t1 := th_ends hS (f := (g : Int)) (g := (f : Int)) (by omega) (by omega) (by omega) (by omega) e1'.symm
  have t2 := th_ends hS (f := (h : Int)) (g := (g : Int)) (by omega) (by omega) (by omega) (by omega) e2'.symm
  have hc := assocI hC (f := (h : Int)) (g := (g : Int)) (h := (f : Int)) (by omega) (by omega) (by omega) (by omega) (by omega) (by omega) e2'.symm e1'.symm
  rw [opp_th hf hg, opp_th hg hh] at e3
  obtain ⟨a, ha⟩ := Int.eq_ofNat_of_zero_le t1.1.1
  obtain ⟨b, hb⟩ := Int.eq_ofNat_of_zero_le t2.1.1
  rw [ha] at e3 hc t1
  rw [hb] at e3 hc t2
  rw [opp_th (by omega) hh, opp_th hf (by omega)] at e3
  exact e3 hc.symm
end Go.Proofs.Ytbiplocgenppoaa
namespace Go.Proofs.Ytbiplocgenppoaa
open _root_.Go.Proofs.Try
open Go.RowKit
theorem mono_iff {c : Cat} {f : Int} : monoP c f ↔ ∀ g h : Nat, g < c.s.length → h < c.s.length → c.th (g : Int) f ≠ -1 → c.th (g : Int) f = c.th (h : Int) f → g = h := by
  have key : monoP c f ↔ ∀ g h : Nat, h < g → g < c.s.length → c.th (g : Int) f = -1 ∨ c.th (g : Int) f ≠ c.th (h : Int) f := by
    unfold monoP cancP
    refine ⟨fun hm g h hg hn => ?_, fun hm g h hg hn => ⟨bef c f, List.mem_singleton.2 rfl, hm g h hg hn⟩⟩
    obtain ⟨φ, hφ, hq⟩ := hm g h hg hn
    rw [List.mem_singleton.1 hφ] at hq
    exact hq
  rw [key]
  constructor
  · intro hm g h hg hh h1 he
    rcases Nat.lt_trichotomy g h with hl | hl | hl
    · rcases hm h g hl hh with h2 | h2
      · exact absurd (he.trans h2) h1
      exact absurd he.symm h2
    · exact hl
    rcases hm g h hl hg with h2 | h2
    · exact absurd h2 h1
    exact absurd he h2
  intro hm g h hl hg
  by_cases h1 : c.th (g : Int) f = -1
  · exact .inl h1
  refine .inr fun he => ?_
  have := hm g h hg (by omega) h1 he
  omega
theorem mono_opp {c : Cat} (hS : ShapeP c) {f : Int} (f0 : 0 ≤ f) (f1 : f < c.s.length) : epiP (oppM c) f ↔ monoP c f := by
  obtain ⟨a, rfl⟩ := Int.eq_ofNat_of_zero_le f0
  have hl : (oppM c).s.length = c.s.length := hS.tl
  have hth : ∀ g : Nat, g < c.s.length → beh (oppM c) (a : Int) (g : Int) = bef c (a : Int) (g : Int) := fun g hg => by
    show at0 (row2 (oppM c).m (a : Int)) (g : Int) = c.th (g : Int) (a : Int)
    show at0 (row2 (rowsTo (fun f => tabTo (fun g => c.th g f) c.s.length) c.s.length) (a : Int)) (g : Int) = _
    rw [rowsTo_at _ (show a < c.s.length by omega), tabTo_at _ hg]
  unfold epiP monoP cancP
  rw [hl]
  constructor
  · intro h g x hx hg
    obtain ⟨φ, hφ, hq⟩ := h g x hx hg
    rw [List.mem_singleton.1 hφ, hth g hg, hth x (by omega)] at hq
    exact ⟨_, List.mem_singleton.2 rfl, hq⟩
  intro h g x hx hg
  obtain ⟨φ, hφ, hq⟩ := h g x hx hg
  rw [List.mem_singleton.1 hφ] at hq
  exact ⟨_, List.mem_singleton.2 rfl, by rw [hth g hg, hth x (by omega)]; exact hq⟩
theorem ret_mono {c : Cat} (hC : IsCat c) {f : Int} (f0 : 0 ≤ f) (f1 : f < c.s.length) (h : 0 < (retL c f).length) : monoP c f := by
  have hS := hC.toShapeP
  obtain ⟨r, hr⟩ := List.exists_mem_of_length_pos h
  obtain ⟨j, hj, hj2, rfl⟩ := sol_mem.1 hr
  have hq := (ret_iff hS f0 f1 (g := (j : Int)) (by omega) (by omega)).2 hj2
  refine mono_iff.2 fun g x hg hx h1 he => ?_
  have e1 := th_m1 hS (f := (g : Int)) (g := f) (by omega) (by omega) f0 f1 h1
  have e2 := th_m1 hS (f := (x : Int)) (g := f) (by omega) (by omega) f0 f1 (by rw [← he]; exact h1)
  have a1 := assocI hC (f := (g : Int)) (g := f) (h := (j : Int)) (by omega) (by omega) f0 f1 (by omega) (by omega) e1 hq.1.symm
  have a2 := assocI hC (f := (x : Int)) (g := f) (h := (j : Int)) (by omega) (by omega) f0 f1 (by omega) (by omega) e2 hq.1.symm
  rw [hq.2.2] at a1 a2
  rw [← e1, (unitL hC (f := (g : Int)) (by omega) (by omega)).2] at a1
  rw [← e2, (unitL hC (f := (x : Int)) (by omega) (by omega)).2] at a2
  rw [he] at a1
  omega
theorem mono_comp {c : Cat} (hC : IsCat c) {f g : Int} (f0 : 0 ≤ f) (f1 : f < c.s.length) (g0 : 0 ≤ g) (g1 : g < c.s.length) (e : at0 c.t f = at0 c.s g) (hf : monoP c f) (hg : monoP c g) : monoP c (c.th f g) := by
  have hS := hC.toShapeP
  have hth := th_ends hS f0 f1 g0 g1 e
  refine mono_iff.2 fun a b ha hb h1 he => ?_
  have e1 := th_m1 hS (f := (a : Int)) (g := c.th f g) (by omega) (by omega) hth.1.1 hth.1.2 h1
  have e2 := th_m1 hS (f := (b : Int)) (g := c.th f g) (by omega) (by omega) hth.1.1 hth.1.2 (by rw [← he]; exact h1)
  rw [hth.2.1] at e1 e2
  have t1 := th_ends hS (f := (a : Int)) (g := f) (by omega) (by omega) f0 f1 e1
  have t2 := th_ends hS (f := (b : Int)) (g := f) (by omega) (by omega) f0 f1 e2
  have a1 := assocI hC (f := (a : Int)) (g := f) (h := g) (by omega) (by omega) f0 f1 g0 g1 e1 e
  have a2 := assocI hC (f := (b : Int)) (g := f) (h := g) (by omega) (by omega) f0 f1 g0 g1 e2 e
  obtain ⟨p, hp⟩ := Int.eq_ofNat_of_zero_le t1.1.1
  obtain ⟨q, hq⟩ := Int.eq_ofNat_of_zero_le t2.1.1
  have hpq : p = q := mono_iff.1 hg p q (by have := t1.1.2; omega) (by have := t2.1.2; omega) (by rw [← hp, a1]; exact h1) (by rw [← hp, ← hq, a1, a2]; exact he)
  exact mono_iff.1 hf a b ha hb (by have := t1.1.1; omega) (by rw [hp, hq, hpq])
theorem mono_back {c : Cat} (hC : IsCat c) {f g : Int} (f0 : 0 ≤ f) (f1 : f < c.s.length) (g0 : 0 ≤ g) (g1 : g < c.s.length) (e : at0 c.t f = at0 c.s g) (h : monoP c (c.th f g)) : monoP c f := by
  have hS := hC.toShapeP
  have hth := th_ends hS f0 f1 g0 g1 e
  refine mono_iff.2 fun a b ha hb h1 he => ?_
  have e1 := th_m1 hS (f := (a : Int)) (g := f) (by omega) (by omega) f0 f1 h1
  have e2 := th_m1 hS (f := (b : Int)) (g := f) (by omega) (by omega) f0 f1 (by rw [← he]; exact h1)
  have a1 := assocI hC (f := (a : Int)) (g := f) (h := g) (by omega) (by omega) f0 f1 g0 g1 e1 e
  have a2 := assocI hC (f := (b : Int)) (g := f) (h := g) (by omega) (by omega) f0 f1 g0 g1 e2 e
  have t3 := th_ends hS (f := (a : Int)) (g := c.th f g) (by omega) (by omega) hth.1.1 hth.1.2 (by rw [hth.2.1]; exact e1)
  exact mono_iff.1 h a b ha hb (by have := t3.1.1; omega) (by rw [← a1, ← a2, he])
theorem can_e {c : Cat} {f e : Int} {m : Bool} (h : fIsMono c f = (m, e)) (he : ¬ e = 0) : m = false := by
  by_cases hE : arrErr c [f] = 0
  · rw [IsMono_t hE] at h; exact absurd (Prod.mk.inj h).2.symm he
  rw [IsMono_e hE] at h; exact (Prod.mk.inj h).1.symm
theorem can_0 {c : Cat} {f e : Int} {m : Bool} (h : fIsMono c f = (m, e)) (he : e = 0) : arrErr c [f] = 0 ∧ m = bP (monoP c f) := by
  by_cases hE : arrErr c [f] = 0
  · rw [IsMono_t hE] at h; exact ⟨hE, (Prod.mk.inj h).1.symm⟩
  rw [IsMono_e hE] at h; exact absurd ((Prod.mk.inj h).2.trans he) hE
end Go.Proofs.Ytbiplocgenppoaa
namespace Go.Proofs.Ytbiplocgenppoaa
open _root_.Go.Proofs.Try
open Go.RowKit
theorem u64_nat (z : Int) : ∃ y : Nat, IntKind.u64.wrap z = (y : Int) ∧ y < 18446744073709551616 := by
  have h : IntKind.u64.wrap z = z % 18446744073709551616 := rfl
  refine ⟨(z % 18446744073709551616).toNat, by rw [h]; omega, by omega⟩
theorem mask24 (y : Nat) (hy : y < 18446744073709551616) : ∃ m : Nat, bits .and .u64 ((y : Int) / 8589934592) 16777215 = (m : Int) ∧ m ≤ 16777215 := by
  refine ⟨(y / 8589934592) &&& 16777215, ?_, Nat.and_le_right⟩
  have := bits_and_u64_nat (y / 8589934592) 16777215 (by omega) (by omega)
  simpa using this
theorem src_put {w : World} {g i : Nat} {u : Value} {cs : Array Value} {t : TypeId} (hg : w.heap[g]? = some (.cells cs t (0, 0))) : w.grownBy (w.setCell ⟨g, i, none⟩ u) (some g) :=
  ⟨rfl, rfl, rfl, by simp, fun k _ hk => heap_setCell_other w ⟨g, i, none⟩ k u (fun e => hk (by rw [e]))⟩
def InB (w : World) (v : Value) : Prop :=
  ∃ (a : Option Addr) (len cap : Nat), v = .slice a len cap ∧ len ≤ 9223372036854775807 ∧
    ∀ j, j < len → ∃ b off, a = some ⟨b, off, none⟩ ∧ b < w.heap.size ∧ ∀ i, i < len → ∃ x : Int, w.cell? ⟨b, off + i, none⟩ = some (.int .u8 x) ∧ 0 ≤ x ∧ x < 256
theorem inb_below {w w' : World} {v : Value} (hb : Below w.heap.size w w') (h : InB w v) : InB w' v := by
  obtain ⟨a, len, cap, hv, hl, hc⟩ := h
  refine ⟨a, len, cap, hv, hl, fun j hj => ?_⟩
  obtain ⟨b, off, ha, hbs, hcell⟩ := hc j hj
  refine ⟨b, off, ha, Nat.lt_of_lt_of_le hbs hb.size, fun i hi => ?_⟩
  obtain ⟨x, hx, hx0, hx1⟩ := hcell i hi
  exact ⟨x, (hb.cell (p := ⟨b, off + i, none⟩) hbs).trans hx, hx0, hx1⟩
theorem code_up {w w' : World} {a : Option Addr} {len : Nat} (hb : Below w.heap.size w w')
    (hc : ∀ j, j < len → ∃ b off, a = some ⟨b, off, none⟩ ∧ b < w.heap.size ∧ ∀ i, i < len → ∃ x : Int, w.cell? ⟨b, off + i, none⟩ = some (.int .u8 x) ∧ 0 ≤ x ∧ x < 256) :
    ∀ j, j < len → ∃ b off, a = some ⟨b, off, none⟩ ∧ b < w.heap.size ∧ ∀ i, i < len → ∃ x : Int, w'.cell? ⟨b, off + i, none⟩ = some (.int .u8 x) ∧ 0 ≤ x ∧ x < 256 := fun j hj => by
  obtain ⟨b, off, ha, hbs, hcell⟩ := hc j hj
  refine ⟨b, off, ha, hbs, fun i hi => ?_⟩
  obtain ⟨x, hx, hx0, hx1⟩ := hcell i hi
  exact ⟨x, (hb.cell (p := ⟨b, off + i, none⟩) hbs).trans hx, hx0, hx1⟩
theorem below_src {w a b : World} {g : Nat} (h : Below w.heap.size w a) (hg : w.heap.size ≤ g) (k : a.grownBy b (some g)) : Below w.heap.size w b :=
  h.grown k h.size fun j hj => by have : g = j := by simpa using hj
                                  omega
end Go.Proofs.Ytbiplocgenppoaa
namespace Go.Proofs.Ytbiplocgenppoaa
open _root_.Go.Proofs.Try
open Go.RowKit
def SrcX (a : Option Addr) (len cap : Nat) (w : World) (g : Nat) (v : Value) : Prop :=
  ∃ (p : Nat) (h : Int), v = .pointer (some ⟨g, 0, none⟩) ∧ w.heap[g]? = some (.cells #[.slice a len cap, .int .i64 p, .int .u64 h] 81 (0, 0)) ∧
    len ≤ 9223372036854775807 ∧ p ≤ len ∧ 0 ≤ h ∧ h < 18446744073709551616 ∧
    ∀ j, j < len → ∃ b off, a = some ⟨b, off, none⟩ ∧ b < g ∧ ∀ i, i < len → ∃ x : Int, w.cell? ⟨b, off + i, none⟩ = some (.int .u8 x) ∧ 0 ≤ x ∧ x < 256
theorem src_reX {w w' : World} {g len cap p : Nat} {a : Option Addr} {h : Int} (hgr : w.grownBy w' (some g)) (hg : w'.heap[g]? = some (.cells #[.slice a len cap, .int .i64 p, .int .u64 h] 81 (0, 0)))
    (hl : len ≤ 9223372036854775807) (hp : p ≤ len) (h0 : 0 ≤ h) (h1 : h < 18446744073709551616)
    (hc : ∀ j, j < len → ∃ b off, a = some ⟨b, off, none⟩ ∧ b < g ∧ ∀ i, i < len → ∃ x : Int, w.cell? ⟨b, off + i, none⟩ = some (.int .u8 x) ∧ 0 ≤ x ∧ x < 256) : SrcX a len cap w' g (.pointer (some ⟨g, 0, none⟩)) := by
  refine ⟨p, h, rfl, hg, hl, hp, h0, h1, fun j hj => ?_⟩
  obtain ⟨b, off, ha, hb, hcell⟩ := hc j hj
  refine ⟨b, off, ha, hb, fun i hi => ?_⟩
  obtain ⟨x, hx, hx0, hx1⟩ := hcell i hi
  exact ⟨x, hgr.cell hx (by simp; omega), hx0, hx1⟩
theorem next_anyX (a : Option Addr) (len cap : Nat) (w : World) (g : Nat) (v : Value) (n : Int) (h : SrcX a len cap w g v) (hn : n ≤ 9223372036854775807) :
    Calls Try.prog 51 #[v, .int .i64 n] w (fun e w' => ∃ r : Int, e = .returned (.int .i64 r) ∧ 0 ≤ r ∧ (r < n ∨ r = 0) ∧ SrcX a len cap w' g v ∧ w.grownBy w' (some g)) := by
  have H := h
  obtain ⟨p, x, rfl, hg, hl, hp, hx0, hx1, hc⟩ := h
  by_cases h1 : n < 1
  · clear hg hc
    have H := Lib.hid H
    go_enter func51, Try.ntmps51
    go_wp2
    go_ret
    exact ⟨0, rfl, by omega, .inr rfl, H.out, grown_refl _ _⟩
  have HC := Lib.hid hc; clear hc H
  have c2 : w.cell? ⟨g, 2, none⟩ = some (.int .u64 x) := by rw [cell_of_row w g 2 _ _ (0, 0) hg]; rfl
  have fr := frozen_of_row w g 2 _ _ hg
  obtain ⟨y, hy, hy1⟩ := u64_nat (IntKind.u64.wrap (x * 6364136223846793005) + 1442695040888963407)
  obtain ⟨m, hm, hm1⟩ := mask24 y hy1
  have hm2 := Go.IntWalk.wrap64_in (m : Int) ⟨by omega, by omega⟩
  have HG := Lib.hid hg; clear hg
  go_enter func51, Try.ntmps51
  go_wp2
  have hg1 : (w.setCell ⟨g, 2, none⟩ (.int .u64 (y : Int))).heap[g]? = some (.cells #[.slice a len cap, .int .i64 p, .int .u64 y] 81 (0, 0)) := heap_setCell_same w g 2 _ _ _ HG.out
  have hgr := src_put (i := 2) (u := .int .u64 (y : Int)) HG.out
  generalize w.setCell ⟨g, 2, none⟩ (.int .u64 (y : Int)) = w1 at hg1 hgr ⊢
  clear fr c2 hy hm hm2
  have d0 : w1.cell? ⟨g, 0, none⟩ = some (.slice a len cap) := by rw [cell_of_row w1 g 0 _ _ (0, 0) hg1]; rfl
  have d1 : w1.cell? ⟨g, 1, none⟩ = some (.int .i64 p) := by rw [cell_of_row w1 g 1 _ _ (0, 0) hg1]; rfl
  have fr := frozen_of_row w1 g 1 _ _ hg1
  have HG1 := Lib.hid hg1; have HGR := Lib.hid hgr; clear hg1 hgr
  by_cases hlt : p < len
  · obtain ⟨b, off, rfl, hb, hcell⟩ := HC.out p hlt
    obtain ⟨z, hz, hz0, hz1⟩ := hcell p hlt
    have d2 : w1.cell? ⟨b, off + p, none⟩ = some (.int .u8 z) := HGR.out.cell hz (by simp; omega)
    have hz2 := Go.IntWalk.wrap64_in z ⟨by omega, by omega⟩
    have hz3 := Go.IntWalk.wrap64_in (m + z) ⟨by omega, by omega⟩
    clear hcell
    go_quiet (fail)
    go_wp2
    go_quiet (fail)
    go_wp2
    go_ret
    have hgr := fun q => grown_trans (grown_quiet HGR.out q) (src_put (w := w1.drewN q) (i := 1) (u := .int .i64 ((p : Int) + 1)) HG1.out)
    exact ⟨_, rfl, Int.emod_nonneg _ (by omega), .inl (Int.emod_lt_of_pos _ (by omega)), src_reX (hgr _) (p := p + 1) (heap_setCell_same _ g 1 _ _ _ HG1.out) hl hlt (Int.natCast_nonneg y) (by omega) HC.out, hgr _⟩
  go_quiet (fail)
  go_wp2
  go_ret
  have hgr := fun q => grown_quiet HGR.out q
  exact ⟨_, rfl, Int.emod_nonneg _ (by omega), .inl (Int.emod_lt_of_pos _ (by omega)), src_reX (hgr _) HG1.out hl hp (Int.natCast_nonneg y) (by omega) HC.out, hgr _⟩
theorem pick_anyX (a : Option Addr) (len cap : Nat) (w : World) (g : Nat) (v u : Value) (xs : List Int) (h : SrcX a len cap w g v) (hu : Rd w u xs) (hne : 0 < xs.length) (hq : u.ownBlock ≠ some g) :
    Calls Try.prog 52 #[v, u] w (fun e w' => ∃ r : Int, e = .returned (.int .i64 r) ∧ r ∈ xs ∧ SrcX a len cap w' g v ∧ w.grownBy w' (some g)) := by
  obtain ⟨a2, cap2, rfl, hl, hc⟩ := hu
  obtain ⟨b, off, rfl, hb, hcell⟩ := hc 0 hne
  have hne2 : b ≠ g := fun e => hq (by rw [e]; rfl)
  have HC := Lib.hid hcell; clear hcell hc hq
  go_enter func52, Try.ntmps52
  go_wp2_with fail
  refine (next_anyX _ _ _ _ g _ _ h (by omega)).mono ?_; rintro e w1 ⟨r, rfl, hr0, hr1, hs, hgr⟩
  obtain ⟨k, rfl⟩ := Int.eq_ofNat_of_zero_le hr0
  have hk : k < xs.length := by omega
  have c1 : w1.cell? ⟨b, off + k, none⟩ = some (.int .i64 (xs.getD k 0)) := hgr.cell (HC.out k hk) (by simp; omega)
  clear hr1
  go_wp2
  go_ret
  exact ⟨_, rfl, by simp, hs, hgr⟩
theorem from_anyX (a : Option Addr) (len cap : Nat) (w : World) (h : InB w (.slice a len cap)) :
    Calls Try.prog 22 #[.slice a len cap] w (fun e w' => ∃ (g : Nat) (y : Value), e = .returned y ∧ SrcX a len cap w' g y ∧ w.heap.size ≤ g ∧ Below w.heap.size w w') := by
  obtain ⟨a3, len3, cap3, he, hl, hc⟩ := h
  simp only [Value.slice.injEq] at he
  obtain ⟨rfl, rfl, rfl⟩ := he
  have HC := Lib.hid hc; clear hc
  go_enter func22, Try.ntmps22
  go_wp2
  go_loopw [4] (fun i wr => ∃ (k : Nat) (x : Int), i = .int .i64 k ∧ k ≤ len ∧ k ≤ 4096 ∧ wr.heap[w.heap.size]? = some (.cells #[.slice a len cap, .int .i64 0, .int .u64 x] 81 (0, 0)) ∧ 0 ≤ x ∧ x < 18446744073709551616 ∧ Below w.heap.size w wr) (fun i _ => 4097 - (intOf i).toNat)
  case atStart => exact ⟨0, 7019 + (len : Int), rfl, Nat.zero_le _, by omega, Array.getElem?_push_size, by omega, by omega, (Below.refl _ _).alloc (Nat.le_refl _) _⟩
  case round =>
    obtain ⟨k, x, rfl, hk, hk2, hg, hx0, hx1, hbel⟩ := hrel
    by_cases h1 : k < len
    · by_cases h2 : k < 4096
      · obtain ⟨b, off, rfl, hb, hcell⟩ := HC.out k h1
        obtain ⟨z, hz, hz0, hz1⟩ := hcell k h1
        have c1 : wr.cell? ⟨b, off + k, none⟩ = some (.int .u8 z) := (hbel.cell (p := ⟨b, off + k, none⟩) hb).trans hz
        have c2 : wr.cell? ⟨w.heap.size, 2, none⟩ = some (.int .u64 x) := by rw [cell_of_row wr _ 2 _ _ (0, 0) hg]; rfl
        have fr := frozen_of_row wr w.heap.size 2 _ _ hg
        obtain ⟨y, hy, hy1⟩ := u64_nat (IntKind.u64.wrap (IntKind.u64.wrap (x * 1099511628211) + z) + 7)
        have HG := Lib.hid hg
        clear hcell hz hg
        go_wp2
        go_still_tail 13, (by kernel_rfl)
        go_wp2
        go_roundw
        case rel => exact ⟨k + 1, (y : Int), by go_num, h1, h2, heap_setCell_same wr w.heap.size 2 _ _ _ HG.out, Int.natCast_nonneg y, by omega, (hbel.setCell (Nat.le_refl _) _).drew⟩
        case measure => simp [intOf]; omega
      have HG := Lib.hid hg; clear hg
      go_wp2
      go_ret
      exact ⟨w.heap.size, _, rfl, ⟨0, x, rfl, HG.out, hl, Nat.zero_le _, hx0, hx1, code_up hbel HC.out⟩, Nat.le_refl _, hbel⟩
    have HG := Lib.hid hg; clear hg
    go_wp2
    go_ret
    exact ⟨w.heap.size, _, rfl, ⟨0, x, rfl, HG.out, hl, Nat.zero_le _, hx0, hx1, code_up hbel HC.out⟩, Nat.le_refl _, hbel⟩
def SrcS (ca : Option Addr) (cl cc g : Nat) (w : World) (S : Nat → Prop) : Prop := S g ∧ ∃ (p : Nat) (h : Int), w.heap[g]? = some (.cells #[.slice ca cl cc, .int .i64 p, .int .u64 h] 81 (0, 0)) ∧ p ≤ cl ∧ 0 ≤ h ∧ h < 18446744073709551616
theorem srcS_loc (ca : Option Addr) (cl cc g : Nat) : Loc (SrcS ca cl cc g) where
  keep hs ha h := by
    obtain ⟨h1, p, x, hg, r⟩ := h
    have hlt := (Array.getElem?_eq_some_iff.1 hg).1
    exact ⟨hs g hlt h1, p, x, by rw [ha g hlt h1]; exact hg, r⟩
def srcI (ca : Option Addr) (cl cc g : Nat) : Itm := ⟨_, srcS_loc ca cl cc g⟩
section
variable {w0 w w' : World} {is : List Itm} {n : Nat} {ca : Option Addr} {cl cc g : Nat}
theorem src_get (hI : InB w0 (.slice ca cl cc)) (M : Mem w0 w is) (h : is[n]? = some (srcI ca cl cc g)) : SrcX ca cl cc w g (.pointer (some ⟨g, 0, none⟩)) ∧ w0.heap.size ≤ g := by
  obtain ⟨S, hS, hp⟩ := mem_get M h
  obtain ⟨h1, p, x, hg, hp1, hx0, hx1⟩ := (hp : SrcS ca cl cc g w S)
  obtain ⟨a3, l3, c3, he, hl, hc⟩ := hI
  simp only [Value.slice.injEq] at he
  obtain ⟨rfl, rfl, rfl⟩ := he
  have hgs := hS g h1
  refine ⟨⟨p, x, rfl, hg, hl, hp1, hx0, hx1, fun j hj => ?_⟩, hgs⟩
  obtain ⟨b, off, ha, hb, hcell⟩ := hc j hj
  refine ⟨b, off, ha, by omega, fun i hi => ?_⟩
  obtain ⟨z, hz, hz0, hz1⟩ := hcell i hi
  exact ⟨z, (M.1.cell (p := ⟨b, off + i, none⟩) hb).trans hz, hz0, hz1⟩
theorem srcS_of {S : Nat → Prop} (h : SrcX ca cl cc w g (.pointer (some ⟨g, 0, none⟩))) (hS : S g) : SrcS ca cl cc g w S := by
  obtain ⟨p, x, _, hg, _, hp, h0, h1, _⟩ := h
  exact ⟨hS, p, x, hg, hp, h0, h1⟩
theorem star_src {i : Itm} {S1 : Nat → Prop} : ∀ (is : List Itm) {n : Nat} {w : World} {S : Nat → Prop}, is[n]? = some (srcI ca cl cc g) → w.grownBy w' (some g) → SrcX ca cl cc w' g (.pointer (some ⟨g, 0, none⟩)) → Star is w S → Star is w' (fun k => S k ∧ k < w.heap.size)
  | [], n, _, _, h, _, _, _ => by simp at h
  | j :: is, 0, w, S, h, hg, hx, hs => by
    simp only [List.getElem?_cons_zero, Option.some.injEq] at h
    subst h
    obtain ⟨T1, T2, k1, k2, hd, h1, h2⟩ := hs
    have h1' : SrcS ca cl cc g w T1 := h1
    have hlt : g < w.heap.size := by obtain ⟨_, p, x, hgg, _⟩ := h1'; exact (Array.getElem?_eq_some_iff.1 hgg).1
    refine ⟨fun k => T1 k ∧ k < w.heap.size, fun k => T2 k ∧ k < w.heap.size, fun k h => ⟨k1 k h.1, h.2⟩, fun k h => ⟨k2 k h.1, h.2⟩, fun k a b => hd k a.1 b.1, (srcS_of hx ⟨h1'.1, hlt⟩ : SrcS ca cl cc g w' (fun k => T1 k ∧ k < w.heap.size)), ?_⟩
    exact star_keep is (fun k hk hs => ⟨hs, hk⟩) (fun k hk hs => hg.block k hk (fun e => hd g h1'.1 (by simp only [Option.some.injEq] at e; subst e; exact hs))) h2
  | j :: is, n + 1, w, S, h, hg, hx, hs => by
    obtain ⟨T1, T2, k1, k2, hd, h1, h2⟩ := hs
    have hh : is[n]? = some (srcI ca cl cc g) := by simpa using h
    obtain ⟨U, hU, hu⟩ := star_get is hh h2
    have hu' : SrcS ca cl cc g w U := hu
    refine ⟨fun k => T1 k ∧ k < w.heap.size, fun k => T2 k ∧ k < w.heap.size, fun k h => ⟨k1 k h.1, h.2⟩, fun k h => ⟨k2 k h.1, h.2⟩, fun k a b => hd k a.1 b.1, ?_, ?_⟩
    · exact j.loc.keep (fun k hk hs => ⟨hs, hk⟩) (fun k hk hs => hg.block k hk (fun e => hd k hs (by simp only [Option.some.injEq] at e; subst e; exact hU _ hu'.1))) h1
    exact star_src (i := i) (S1 := S1) is hh hg hx h2
theorem src_below (M : Mem w0 w is) (hg0 : w0.heap.size ≤ g) (hg : w.grownBy w' (some g)) : Below w0.heap.size w0 w' := below_src M.1 hg0 hg
theorem mem_src (M : Mem w0 w is) (h : is[n]? = some (srcI ca cl cc g)) (hg0 : w0.heap.size ≤ g) (hg : w.grownBy w' (some g)) (hx : SrcX ca cl cc w' g (.pointer (some ⟨g, 0, none⟩))) : Mem w0 w' is :=
  ⟨src_below M hg0 hg, star_keep is (fun k _ hk => hk.1) agree_refl (star_src (i := srcI ca cl cc g) (S1 := fun _ => True) is h hg hx M.2)⟩
end
section
variable {w0 : World} {is : List Itm} {Q : Exit → Act → World → Prop} {o : Oper} {N : Frm} {n : Nat} {e : Env} {d : Nat} {K : Act → World → Prop} {f : FuncId} {fn : Func} {ags : Array Operand} {ts : Array TypeId} {ca : Option Addr} {cl cc g : Nat}
theorem go_srcFrom (hd : o.dst = some d) (hN : Nat.blt d N = true) (hop : o.op = .call { callee := .value (.func 22), args := ags, argTypes := ts }) (hfn : Try.prog.funcs[22]? = some fn) (hb : fn.body.isNone = false) (hn : (fn.name == "runtime.NumGoroutine") = false)
    (hargs : evoL e ags.toList = some [.slice ca cl cc]) (hI : InB w0 (.slice ca cl cc))
    (hk : ∀ g : Nat, GK w0 (is ++ [srcI ca cl cc g]) N K ((d, .pointer (some ⟨g, 0, none⟩)) :: e)) : GO w0 is N o e Q K := by
  intro w a M F
  refine go_call hd hN F hop hfn hb hn hargs (from_anyX ca cl cc w (inb_below M.1 hI)) fun e' w' hR => ?_
  obtain ⟨g, y, rfl, hs, hg, hbl⟩ := hR
  have hs' := hs
  obtain ⟨p, x, rfl, hgg, _⟩ := hs'
  exact ⟨_, rfl, fun a F => hk g w' a (mem_new M hbl (srcS_of hs hg)) F⟩
theorem go_srcNext {k : Int} (hd : o.dst = some d) (hN : Nat.blt d N = true) (hop : o.op = .call { callee := .value (.func 51), args := ags, argTypes := ts }) (hfn : Try.prog.funcs[51]? = some fn) (hb : fn.body.isNone = false) (hn : (fn.name == "runtime.NumGoroutine") = false)
    (hargs : evoL e ags.toList = some [.pointer (some ⟨g, 0, none⟩), .int .i64 k]) (hI : InB w0 (.slice ca cl cc)) (hi : is[n]? = some (srcI ca cl cc g)) (hk0 : k ≤ 9223372036854775807)
    (hk : ∀ r : Nat, ((r : Int) < k ∨ (r : Int) = 0) → GK w0 is N K ((d, .int .i64 (r : Int)) :: e)) : GO w0 is N o e Q K := by
  intro w a M F
  have hs := src_get hI M hi
  refine go_call hd hN F hop hfn hb hn hargs (next_anyX ca cl cc w g _ k hs.1 hk0) fun e' w' hR => ?_
  obtain ⟨r, rfl, h0, h1, hs2, hgr⟩ := hR
  obtain ⟨r, rfl⟩ := Int.eq_ofNat_of_zero_le h0
  exact ⟨_, rfl, fun a F => hk r h1 w' a (mem_src M hi hs.2 hgr hs2) F⟩
end
end Go.Proofs.Ytbiplocgenppoaa
namespace Go.Proofs.Ytbiplocgenppoaa
open _root_.Go.Proofs.Try
open Go.RowKit
theorem tail_loc (js : List Itm) : Loc (fun w S => Star js w S) where
  keep hs ha h := star_keep js hs ha h
def tailI (js : List Itm) : Itm := ⟨_, tail_loc js⟩
theorem star_tail_in : ∀ (L : List Itm) {F : List Itm} {w : World} {S : Nat → Prop}, Star (L ++ F) w S → Star (L ++ [tailI F]) w S
  | [], F, w, S, h => ⟨S, fun _ => False, fun _ h => h, fun _ h => h.elim, fun _ _ h => h, h, trivial⟩
  | _ :: L, F, w, S, ⟨S1, S2, k1, k2, kd, h1, h2⟩ => ⟨S1, S2, k1, k2, kd, h1, star_tail_in L h2⟩
theorem star_tail_out : ∀ (L : List Itm) {F : List Itm} {w : World} {S : Nat → Prop}, Star (L ++ [tailI F]) w S → Star (L ++ F) w S
  | [], F, w, S, ⟨S1, _, k1, _, _, h1, _⟩ => star_keep F (fun k _ h => k1 k h) agree_refl h1
  | _ :: L, F, w, S, ⟨S1, S2, k1, k2, kd, h1, h2⟩ => ⟨S1, S2, k1, k2, kd, h1, star_tail_out L h2⟩
theorem star_perm {is js : List Itm} (h : is.Perm js) : ∀ {w : World} {S : Nat → Prop}, Star is w S → Star js w S := by
  induction h with
  | nil => exact fun h => h
  | cons x _ ih => rintro w S ⟨S1, S2, k1, k2, hd, h1, h2⟩; exact ⟨S1, S2, k1, k2, hd, h1, ih h2⟩
  | swap x y l =>
    rintro w S ⟨S1, S2, k1, k2, hd, h1, T1, T2, t1, t2, td, h2, h3⟩
    exact ⟨T1, fun k => S1 k ∨ T2 k, fun k h => k2 k (t1 k h), fun k h => h.elim (k1 k) (fun h => k2 k (t2 k h)), fun k a b => b.elim (fun b => hd k b (t1 k a)) (td k a), h2, S1, T2, fun k h => .inl h, fun k h => .inr h, fun k a b => hd k a (t2 k b), h1, h3⟩
  | trans _ _ ih1 ih2 => exact fun h => ih2 (ih1 h)
theorem mem_perm {w0 w : World} {is js : List Itm} (h : is.Perm js) (M : Mem w0 w is) : Mem w0 w js := ⟨M.1, star_perm h M.2⟩
theorem mem_tail_in {w0 w : World} {L F : List Itm} (M : Mem w0 w (L ++ F)) : Mem w0 w (L ++ [tailI F]) := ⟨M.1, star_tail_in L M.2⟩
theorem mem_tail_out {w0 w : World} {L F : List Itm} (M : Mem w0 w (L ++ [tailI F])) : Mem w0 w (L ++ F) := ⟨M.1, star_tail_out L M.2⟩
section
variable {w0 : World} {is : List Itm} {ops : Array Oper} {Q : Exit → Act → World → Prop} {o : Oper} {N : Frm} {e : Env} {v : Value} {d : Nat} {K : Act → World → Prop} {f : FuncId} {fn : Func} {ags : Array Operand} {ts : Array TypeId} {vs : List Value}
end
end Go.Proofs.Ytbiplocgenppoaa
namespace Go.Proofs.Ytbiplocgenppoaa
open _root_.Go.Proofs.Try
open Go.RowKit
theorem mem_mid {w0 w : World} {i : Itm} {F J : List Itm} (M : Mem w0 w (i :: tailI F :: J)) : Mem w0 w (i :: F ++ J) := by
  have h1 : Mem w0 w ((i :: J) ++ [tailI F]) := mem_perm (List.Perm.cons i (List.perm_append_singleton (tailI F) J).symm) M
  have h2 := mem_tail_out h1
  refine mem_perm ?_ h2
  rw [List.cons_append, List.cons_append]
  exact List.Perm.cons i List.perm_append_comm
def RetM {α : Type} (w0 : World) (i : Itm) (F : List Itm) (P : α → Prop) (V : α → Value) (J : α → List Itm) (e : Ending) (w' : World) : Prop := ∃ x : α, P x ∧ e = .returned (V x) ∧ Mem w0 w' (i :: tailI F :: J x)
section
variable {w0 : World} {is : List Itm} {ops : Array Oper} {Q : Exit → Act → World → Prop} {o : Oper} {N : Frm} {e : Env} {d : Nat} {K : Act → World → Prop} {f : FuncId} {fn : Func} {ags : Array Operand} {ts : Array TypeId} {vs : List Value}
theorem go_callM {α : Type} {i : Itm} {F : List Itm} {P : α → Prop} {V : α → Value} {J : α → List Itm} (hd : o.dst = some d) (hN : Nat.blt d N = true) (hop : o.op = .call { callee := .value (.func f), args := ags, argTypes := ts }) (hfn : Try.prog.funcs[f]? = some fn) (hb : fn.body.isNone = false) (hn : (fn.name == "runtime.NumGoroutine") = false)
    (hargs : evoL e ags.toList = some vs) (his : is = i :: F) (hc : ∀ w, Mem w0 w [i, tailI F] → Calls Try.prog f vs.toArray w (RetM w0 i F P V J)) (hk : ∀ x, P x → GK w0 (i :: F ++ J x) N K ((d, V x) :: e)) : GO w0 is N o e Q K := by
  subst his
  intro w a M G
  refine go_call hd hN G hop hfn hb hn hargs (hc w (mem_tail_in (L := [i]) M)) fun e' w' hR => ?_
  obtain ⟨x, hx, rfl, M'⟩ := hR
  exact ⟨_, rfl, fun a G => hk x hx w' a (mem_mid M') G⟩
end
end Go.Proofs.Ytbiplocgenppoaa
namespace Go.Proofs.Ytbiplocgenppoaa
open _root_.Go.Proofs.Try
open Go.RowKit
section
variable {w0 : World} {is : List Itm} {Q : Exit → Act → World → Prop} {N : Frm} {e : Env}
section
variable {α β σ : Type} {g : Operand} {p gf : Nat} {assign body : Code} {fn : Func} {lb : List Value} {val : α → Value} {T : α → List Itm} {dec : α → β} {L : List β} {A B : List Itm}
  {ti : σ → List (Nat × Itm)} {inv : List α → σ → Prop} {invX : Code → List α → σ → Prop}
end
end
end Go.Proofs.Ytbiplocgenppoaa
namespace Go.Proofs.Ytbiplocgenppoaa
open _root_.Go.Proofs.Try
open Go.RowKit
section
variable {w0 : World} {is : List Itm} {ops : Array Oper} {Q : Exit → Act → World → Prop} {o : Oper} {rest : List Oper} {N : Frm} {e : Env} {v : Value} {d : Nat} {K : Act → World → Prop}
theorem go_slice3I {t : TypeId} {x0 x1 x2 : Operand} {y0 y1 y2 : Int} (hd : o.dst = some d) (hN : Nat.blt d N = true) (hop : o.op = .buildSlice t 3 #[(0, x0), (1, x1), (2, x2)]) (h0 : evo e x0 = some (.int .i64 y0)) (h1 : evo e x1 = some (.int .i64 y1)) (h2 : evo e x2 = some (.int .i64 y2)) (ht : Try.prog.underlying t = some (.slice 2))
    (hk : ∀ B : Nat, GK w0 (is ++ [own1I (.slice (some ⟨B, 0, none⟩) 3 3) [y0, y1, y2]]) N K ((d, .slice (some ⟨B, 0, none⟩) 3 3) :: e)) : GO w0 is N o e Q K := by
  intro w ac M F
  refine go_val (v := .slice (some ⟨w.heap.size, 0, none⟩) 3 3) (w' := w.alloc (.cells #[.int .i64 y0, .int .i64 y1, .int .i64 y2] 2)) hd hN F ?_ fun ac F => hk _ _ ac (mem_row (xs := [y0, y1, y2]) M (by simp)) F
  intro ρ F
  have h0 := F _ _ h0; have h1 := F _ _ h1; have h2 := F _ _ h2
  obtain ⟨i, hi, hz, hs, hb⟩ := info_parts info64
  have hr : Array.range 3 = #[0, 1, 2] := by apply Array.toList_inj.1; simp [List.range_succ]
  simp [execOp, hop, h0, h1, h2, Instr.buildSlice, run_underlying ht, sizeOf, typeInfo, hi, hs, Instr.fill, newRow, zeroValue, hz, Value.cells, Sem.run_bind, hr]
theorem go_slice4I {t : TypeId} {x0 x1 x2 x3 : Operand} {y0 y1 y2 y3 : Int} (hd : o.dst = some d) (hN : Nat.blt d N = true) (hop : o.op = .buildSlice t 4 #[(0, x0), (1, x1), (2, x2), (3, x3)]) (h0 : evo e x0 = some (.int .i64 y0)) (h1 : evo e x1 = some (.int .i64 y1)) (h2 : evo e x2 = some (.int .i64 y2)) (h3 : evo e x3 = some (.int .i64 y3)) (ht : Try.prog.underlying t = some (.slice 2))
    (hk : ∀ B : Nat, GK w0 (is ++ [own1I (.slice (some ⟨B, 0, none⟩) 4 4) [y0, y1, y2, y3]]) N K ((d, .slice (some ⟨B, 0, none⟩) 4 4) :: e)) : GO w0 is N o e Q K := by
  intro w ac M F
  refine go_val (v := .slice (some ⟨w.heap.size, 0, none⟩) 4 4) (w' := w.alloc (.cells #[.int .i64 y0, .int .i64 y1, .int .i64 y2, .int .i64 y3] 2)) hd hN F ?_ fun ac F => hk _ _ ac (mem_row (xs := [y0, y1, y2, y3]) M (by simp)) F
  intro ρ F
  have h0 := F _ _ h0; have h1 := F _ _ h1; have h2 := F _ _ h2; have h3 := F _ _ h3
  obtain ⟨i, hi, hz, hs, hb⟩ := info_parts info64
  have hr : Array.range 4 = #[0, 1, 2, 3] := by apply Array.toList_inj.1; simp [List.range_succ]
  simp [execOp, hop, h0, h1, h2, h3, Instr.buildSlice, run_underlying ht, sizeOf, typeInfo, hi, hs, Instr.fill, newRow, zeroValue, hz, Value.cells, Sem.run_bind, hr]
theorem go_slice5I {t : TypeId} {x0 x1 x2 x3 x4 : Operand} {y0 y1 y2 y3 y4 : Int} (hd : o.dst = some d) (hN : Nat.blt d N = true) (hop : o.op = .buildSlice t 5 #[(0, x0), (1, x1), (2, x2), (3, x3), (4, x4)]) (h0 : evo e x0 = some (.int .i64 y0)) (h1 : evo e x1 = some (.int .i64 y1)) (h2 : evo e x2 = some (.int .i64 y2)) (h3 : evo e x3 = some (.int .i64 y3)) (h4 : evo e x4 = some (.int .i64 y4)) (ht : Try.prog.underlying t = some (.slice 2))
    (hk : ∀ B : Nat, GK w0 (is ++ [own1I (.slice (some ⟨B, 0, none⟩) 5 5) [y0, y1, y2, y3, y4]]) N K ((d, .slice (some ⟨B, 0, none⟩) 5 5) :: e)) : GO w0 is N o e Q K := by
  intro w ac M F
  refine go_val (v := .slice (some ⟨w.heap.size, 0, none⟩) 5 5) (w' := w.alloc (.cells #[.int .i64 y0, .int .i64 y1, .int .i64 y2, .int .i64 y3, .int .i64 y4] 2)) hd hN F ?_ fun ac F => hk _ _ ac (mem_row (xs := [y0, y1, y2, y3, y4]) M (by simp)) F
  intro ρ F
  have h0 := F _ _ h0; have h1 := F _ _ h1; have h2 := F _ _ h2; have h3 := F _ _ h3; have h4 := F _ _ h4
  obtain ⟨i, hi, hz, hs, hb⟩ := info_parts info64
  have hr : Array.range 5 = #[0, 1, 2, 3, 4] := by apply Array.toList_inj.1; simp [List.range_succ]
  simp [execOp, hop, h0, h1, h2, h3, h4, Instr.buildSlice, run_underlying ht, sizeOf, typeInfo, hi, hs, Instr.fill, newRow, zeroValue, hz, Value.cells, Sem.run_bind, hr]
end
end Go.Proofs.Ytbiplocgenppoaa
