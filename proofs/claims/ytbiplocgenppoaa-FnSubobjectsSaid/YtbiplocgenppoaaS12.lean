import Derived.Test.YtbiplocgenppoaaS11
import Derived.Test.YtbiplocgenppoaaS10
set_option linter.unusedSimpArgs false
set_option linter.unusedVariables false
set_option linter.unusedSectionVars false
namespace Go.Proofs.Ytbiplocgenppoaa
open _root_.Go.Proofs.Try
open Go.RowKit
def CallsV (v : Value) (vs : List Value) (w : World) (R : Ending → World → Prop) : Prop :=
  ∃ (f : FuncId) (us : Array Value), ((Deferred.ofValue v vs.toArray >>= fun d => invoke d.target d.args : Sem Next).run Try.prog w = .ok (.enter f us) w) ∧ Calls Try.prog f us w R
theorem callsV_f {f : FuncId} {fn : Func} {bnd vs caps : List Value} {w : World} {R : Ending → World → Prop} (hfn : Try.prog.funcs[f]? = some fn) (hb : fn.body.isNone = false) (hn : (fn.name == "runtime.NumGoroutine") = false)
    (hc : Calls Try.prog f (bnd ++ vs ++ caps).toArray w R) : CallsV (.func (.func f) bnd.toArray caps.toArray) vs w R := by
  refine ⟨f, (bnd ++ vs ++ caps).toArray, ?_, hc⟩
  have hb' : ¬ fn.body = none := fun h => by rw [h] at hb; simp at hb
  have hn' : ¬ fn.name = "runtime.NumGoroutine" := by simpa using hn
  simp [Deferred.ofValue, invoke, callFunc, hfn, hn', hb']
section
variable {w0 : World} {is : List Itm} {ops : Array Oper} {Q : Exit → Act → World → Prop} {o : Oper} {N : Frm} {e : Env} {v u : Value} {d : Nat} {K : Act → World → Prop} {f : FuncId} {fn : Func} {ags : Array Operand} {ts : Array TypeId} {vs : List Value}
theorem run_enterV {x : Operand} {R : Ending → World → Prop} (hop : o.op = .call { callee := .value x, args := ags, argTypes := ts }) (hx : evo e x = some u) (hargs : evoL e ags.toList = some vs) {w : World} {a : Act} (F : Fit N e a) (hc : CallsV u vs w R) :
    ∃ f us, (execOp a.eval o).run Try.prog w = .ok (.enter f us) w ∧ Calls Try.prog f us w R := by
  obtain ⟨f, us, h1, h2⟩ := hc
  refine ⟨f, us, ?_, h2⟩
  have ha : ags.map a.eval = vs.toArray := by
    have := fit_evals F hargs
    rw [← this]; apply Array.toList_inj.1; simp
  have hx' := fit_eval F hx
  simp only [execOp, hop, resolve, hx', ha]
  exact h1
theorem qt_callV {x : Operand} (hop : o.op = .call { callee := .value x, args := ags, argTypes := ts }) (hx : evo e x = some u) (hargs : evoL e ags.toList = some vs)
    (hc : ∀ w, Mem w0 w is → CallsV u vs w (fun e w' => e = .returned v ∧ Below w.heap.size w w')) : QT w0 is N o e v := by
  intro w ac M F
  unfold Oper.quietAt
  obtain ⟨f, us, h1, h2⟩ := run_enterV hop hx hargs F (hc w M)
  rw [h1]
  exact ⟨rfl, h2.mono fun e w' h => ⟨h.1, mem_keep M h.2⟩⟩
end
theorem fv_loc (w0 : World) (Sp : World → Prop) : Loc (fun w S => ∀ w', Below w0.heap.size w0 w' → (∀ k, k < w.heap.size → S k → w'.heap[k]? = w.heap[k]?) → Sp w') where
  keep {w w' S S'} hs ha h := fun w'' hb hk => h w'' hb fun k h1 h2 => by
    have e := ha k h1 h2
    refine (hk k ?_ (hs k h1 h2)).trans e
    rw [Array.getElem?_eq_getElem h1] at e
    exact (Array.getElem?_eq_some_iff.1 e).1
def fvI (w0 : World) (Sp : World → Prop) : Itm := ⟨_, fv_loc w0 Sp⟩
theorem mem_fv {w0 w : World} {is : List Itm} {n : Nat} {Sp : World → Prop} (M : Mem w0 w is) (h : is[n]? = some (fvI w0 Sp)) {w' : World} (hb : Below w.heap.size w w') : Sp w' := by
  obtain ⟨S, _, hp⟩ := mem_get M h
  exact hp w' (M.1.trans (hb.mono M.1.size)) fun k hk _ => hb.block k hk
theorem mem_fv0 {w0 w : World} {is : List Itm} {n : Nat} {Sp : World → Prop} (M : Mem w0 w is) (h : is[n]? = some (fvI w0 Sp)) : Sp w := mem_fv M h (Below.refl _ _)
def IsFn (v : Value) : Prop := ∃ (f : Fn) (a b : Array Value), v = .func f a b
theorem IsFn.cells {v : Value} (h : IsFn v) : v.cells = #[v] := by obtain ⟨f, a, b, rfl⟩ := h; rfl
theorem IsFn.one {v : Value} (h : IsFn v) : v.oneCell' = true := by obtain ⟨f, a, b, rfl⟩ := h; rfl
def SpI (m : Nat) (φ : Int → Int) (w : World) (v : Value) : Prop := IsFn v ∧ ∀ g : Int, 0 ≤ g → g < m → CallsV v [.int .i64 g] w (RetI w (φ g))
def RetFv (W0 W : World) (Sp : World → Value → Prop) (e : Ending) (w' : World) : Prop :=
  ∃ v, e = .returned v ∧ (∀ w'', Below W0.heap.size W0 w'' → (∀ k, W.heap.size ≤ k → k < w'.heap.size → w''.heap[k]? = w'.heap[k]?) → Sp w'' v) ∧ Below W.heap.size W w'
section
variable {w0 : World} {is : List Itm} {ops : Array Oper} {Q : Exit → Act → World → Prop} {o : Oper} {N : Frm} {e : Env} {v u : Value} {d : Nat} {K : Act → World → Prop} {f : FuncId} {fn : Func} {ags : Array Operand} {ts : Array TypeId} {vs : List Value}
theorem mem_newFv {w w' : World} {Sp : World → Value → Prop} (M : Mem w0 w is) (hs : ∀ w'', Below w0.heap.size w0 w'' → (∀ k, w.heap.size ≤ k → k < w'.heap.size → w''.heap[k]? = w'.heap[k]?) → Sp w'' v) (hb : Below w.heap.size w w') : Mem w0 w' (is ++ [fvI w0 (fun w => Sp w v)]) :=
  mem_new M hb fun w'' h1 h2 => hs w'' h1 fun k h3 h4 => h2 k h4 h3
theorem go_callFv {Sp : World → Value → Prop} (hd : o.dst = some d) (hN : Nat.blt d N = true) (hop : o.op = .call { callee := .value (.func f), args := ags, argTypes := ts }) (hfn : Try.prog.funcs[f]? = some fn) (hb : fn.body.isNone = false) (hn : (fn.name == "runtime.NumGoroutine") = false)
    (hargs : evoL e ags.toList = some vs) (hc : ∀ w, Mem w0 w is → Calls Try.prog f vs.toArray w (RetFv w0 w Sp)) (hk : ∀ v, GK w0 (is ++ [fvI w0 (fun w => Sp w v)]) N K ((d, v) :: e)) : GO w0 is N o e Q K := by
  intro w a M F
  refine go_call hd hN F hop hfn hb hn hargs (hc w M) fun e' w' hR => ?_
  obtain ⟨v, rfl, hs, hb⟩ := hR
  exact ⟨_, rfl, fun a F => hk v w' a (mem_newFv M hs hb) F⟩
end
def RdV (w : World) (v : Value) (us : List Value) : Prop :=
  ∃ (a : Option Addr) (cap : Nat), v = .slice a us.length cap ∧ us.length ≤ 17592186044415 ∧
    ∀ j, j < us.length → ∃ b off, a = some ⟨b, off, none⟩ ∧ b < w.heap.size ∧ ∀ i, i < us.length → w.cell? ⟨b, off + i, none⟩ = some (us.getD i undef)
theorem rdV_below {w w' : World} {v : Value} {us : List Value} (hb : Below w.heap.size w w') (h : RdV w v us) : RdV w' v us := by
  obtain ⟨a, cap, hv, hl, hc⟩ := h
  refine ⟨a, cap, hv, hl, fun j hj => ?_⟩
  obtain ⟨b, off, ha, hbs, hcell⟩ := hc j hj
  exact ⟨b, off, ha, Nat.lt_of_lt_of_le hbs hb.size, fun i hi => (hb.cell (p := ⟨b, off + i, none⟩) hbs).trans (hcell i hi)⟩
theorem mem_rdV {w0 w : World} {is : List Itm} {v : Value} {us : List Value} (M : Mem w0 w is) (h : RdV w0 v us) : RdV w v us := rdV_below M.1 h
theorem rdV_form {w : World} {v : Value} {us : List Value} (h : RdV w v us) : ∃ a cap, v = .slice a us.length cap := by
  obtain ⟨a, cap, hv, _⟩ := h; exact ⟨a, cap, hv⟩
theorem lenV_V {w : World} {v : Value} {us : List Value} (h : RdV w v us) : LenV v us.length := rdV_form h
theorem lenA_V {w : World} {v : Value} {us : List Value} (h : RdV w v us) : LenA v us.length := by
  obtain ⟨a, cap, hv, _, hc⟩ := h
  exact ⟨a, cap, hv, fun h0 => let ⟨b, off, ha, _⟩ := hc 0 h0; ⟨b, off, ha⟩⟩
theorem qt_loadV {w0 : World} {is : List Itm} {o : Oper} {e : Env} {x : Operand} {t : TypeId} {u : Value} {us : List Value} {i : Int} {td : TypeDesc} (hop : o.op = .load t x) (hx : evo e x = some (eltP u i)) (ht : Try.prog.underlying t = some td) (hd : aggT td = false)
    (hr : ∀ w, Mem w0 w is → RdV w u us) (h0 : 0 ≤ i) (h1 : i < us.length) : QV w0 is o e (us.getD i.toNat undef) :=
  fun w ac M F => by
    have hx := F _ _ hx
    obtain ⟨a, cap, hv, _, hc⟩ := hr w M
    obtain ⟨b, off, ha, hb, hcell⟩ := hc i.toNat (by omega)
    subst ha; subst hv
    have hc2 := hcell i.toNat (by omega)
    simp [execOp, hop, hx, eltP, run_load1 ht hd hc2]
theorem rdV_bx {w : World} {B : Nat} {t : TypeId} {u : Value} (h : Bx w B t [u]) : RdV w (.slice (some ⟨B, 0, none⟩) 1 1) [u] := by
  refine ⟨_, _, rfl, by simp, fun j _ => ⟨B, 0, rfl, bx_lt h, fun i hi => ?_⟩⟩
  have : i = 0 := by simpa using hi
  subst this
  exact bx_cell h 0 rfl
theorem ulEV : Try.prog.underlying 102 = some (.slice (Try.prog.elem 102)) := by kernel_rfl
theorem szEV : (Try.prog.info? (Try.prog.elem 102)).map (fun i => i.size) = some 1 := by kernel_rfl
theorem ulSV : Try.prog.underlying 102 = some (.slice 77) := by kernel_rfl
theorem infoV : (Try.prog.info? 77).map (fun i => (i.zero, i.size, i.bytes)) = some (some .nilFunc, 1, 8) := by kernel_rfl
section
variable {w0 : World} {is : List Itm} {Q : Exit → Act → World → Prop} {o : Oper} {N : Frm} {e : Env} {v u : Value} {d : Nat} {K : Act → World → Prop}
theorem go_sliceV1 {t : TypeId} {x : Operand} (hd : o.dst = some d) (hN : Nat.blt d N = true) (hop : o.op = .buildSlice t 1 #[(0, x)]) (hx : evo e x = some u) (ht : Try.prog.underlying t = some (.slice 77)) (hu : ∀ w, Mem w0 w is → u.cells = #[u])
    (hk : ∀ B : Nat, GK w0 (is ++ [bxI B 77 [u]]) N K ((d, .slice (some ⟨B, 0, none⟩) 1 1) :: e)) : GO w0 is N o e Q K := by
  intro w a M F
  refine go_val (v := .slice (some ⟨w.heap.size, 0, none⟩) 1 1) (w' := w.alloc (.cells #[u] 77)) hd hN F ?_ fun ac F => hk _ _ ac (mem_box M) F
  intro ρ F
  have hx := F _ _ hx
  have hu := hu w M
  obtain ⟨i, hi, hz, hs, hb⟩ := info_parts infoV
  have hc : Value.nilFunc.cells = #[Value.nilFunc] := rfl
  simp [execOp, hop, hx, hu, hc, Instr.buildSlice, run_underlying ht, sizeOf, typeInfo, hi, hs, Instr.fill, newRow, zeroValue, hz, Sem.run_bind, range1]
end
section
variable {w0 : World} {is : List Itm} {o : Oper} {e : Env}
theorem qt_fieldPair {x : Operand} {a b : Int} (hop : o.op = .field 91 x 0) (hx : evo e x = some (.agg #[.int .i64 a, .int .i64 b])) : QV w0 is o e (.int .i64 a) := fun w ρ M F => by
  have hx := F _ _ hx
  obtain ⟨i, hi, hz, hs, hb⟩ := info_parts info64
  simp [execOp, hop, hx, Instr.field, Sem.run_bind, run_underlying underlying91, part, sizeOf, typeInfo, hi, hs, asAgg]
theorem qt_fieldPair2 {x : Operand} {a b : Int} (hop : o.op = .field 91 x 1) (hx : evo e x = some (.agg #[.int .i64 a, .int .i64 b])) : QV w0 is o e (.int .i64 b) := fun w ρ M F => by
  have hx := F _ _ hx
  obtain ⟨i, hi, hz, hs, hb⟩ := info_parts info64
  simp [execOp, hop, hx, Instr.field, Sem.run_bind, run_underlying underlying91, part, sizeOf, typeInfo, hi, hs, asAgg]
end
theorem gc_rebase {w0 : World} {is : List Itm} {N : Frm} {c : Code} {Q : Exit → Act → World → Prop} {e : Env} (h : ∀ w1, Mem w0 w1 is → GC w1 [] N c Q e) : GC w0 is N c Q e := fun w a M F => h w M w a (mem_nil w) F
theorem gc_seqR {w0 : World} {is : List Itm} {N : Frm} {x y : Code} {Q : Exit → Act → World → Prop} {e : Env} (h : ∀ K : Act → World → Prop, (∀ {w1 : World} (is : List Itm) (e : Env), GC w1 is N y Q e → GK w1 is N K e) → GC w0 is N x (Exit.then K Q) e) : GC w0 is N (.seq x y) Q e :=
  fun w a M F R => wpIn_seq (h _ (fun _ _ hy w a M F => hy w a M F (rdy_r R)) w a M F (rdy_l R))
theorem qt_makeB {w0 : World} {is : List Itm} {o : Oper} {e : Env} {r : Value} {f : Fn} {x : Operand} (hop : o.op = .makeFunc f #[x] #[]) (hx : evo e x = some r) : QV w0 is o e (.func f #[r] #[]) := fun w ρ M F => by
  have hx := F _ _ hx
  simp [execOp, hop, hx, Instr.makeFunc]
theorem RdC.l1 {w : World} {c : Cat} {o a b d m : Value} (h : RdC w (.agg #[o, a, b, d, m]) c) : Rd w a c.s := by obtain ⟨vs, vt, ve, vm, hv, h1, h2, h3, h4⟩ := h; simp only [Value.agg.injEq, Array.mk.injEq, List.cons.injEq] at hv; obtain ⟨_, rfl, rfl, rfl, rfl, _⟩ := hv; exact h1
theorem RdC.l2 {w : World} {c : Cat} {o a b d m : Value} (h : RdC w (.agg #[o, a, b, d, m]) c) : Rd w b c.t := by obtain ⟨vs, vt, ve, vm, hv, h1, h2, h3, h4⟩ := h; simp only [Value.agg.injEq, Array.mk.injEq, List.cons.injEq] at hv; obtain ⟨_, rfl, rfl, rfl, rfl, _⟩ := hv; exact h2
end Go.Proofs.Ytbiplocgenppoaa
namespace Go.Proofs.Ytbiplocgenppoaa
open _root_.Go.Proofs.Try
open Go.RowKit
def belP (c : Cat) (m n : Int) : Prop := ∃ k : Nat, k < c.s.length ∧ bef c n (k : Int) = m
def mutR (r : Int → Int → Prop) (m : Int) (l : List Int) : Prop := r m (at0 l 0) ∧ r (at0 l 0) m
noncomputable def addR (r : Int → Int → Prop) (out : List (List Int)) (m : Int) : List (List Int) := match firstN (fun i => mutR r m (row2 out (i : Int))) out.length with
  | some i => out.set i (row2 out (i : Int) ++ [m])
  | none => out ++ [[m]]
noncomputable def clsR (r : Int → Int → Prop) (xs : List Int) : List (List Int) := xs.foldl (addR r) []
theorem clsR_app (r : Int → Int → Prop) (xs : List Int) (m : Int) : clsR r (xs ++ [m]) = addR r (clsR r xs) m := by simp [clsR]
theorem addR_old {r : Int → Int → Prop} {out : List (List Int)} {m : Int} {i : Nat} (hi : i < out.length) (h : mutR r m (row2 out (i : Int))) (h2 : ∀ j : Nat, j < i → ¬ mutR r m (row2 out (j : Int))) : addR r out m = out.set i (row2 out (i : Int) ++ [m]) := by
  unfold addR; rw [firstN_some hi h h2]
theorem addR_new {r : Int → Int → Prop} {out : List (List Int)} {m : Int} (h : ∀ j : Nat, j < out.length → ¬ mutR r m (row2 out (j : Int))) : addR r out m = out ++ [[m]] := by
  unfold addR; rw [firstN_none h]
structure SepR (r : Int → Int → Prop) (n : Nat) (out : List (List Int)) : Prop where
  ne : ∀ i : Nat, i < out.length → row2 out (i : Int) ≠ []
  hd : ∀ i : Nat, i < out.length → ∀ x ∈ row2 out (i : Int), 0 ≤ x ∧ x < n
  sep : ∀ i j : Nat, i < j → j < out.length → ¬ (r (at0 (row2 out (i : Int)) 0) (at0 (row2 out (j : Int)) 0) ∧ r (at0 (row2 out (j : Int)) 0) (at0 (row2 out (i : Int)) 0))
theorem sep_zero (r : Int → Int → Prop) (n : Nat) : SepR r n [] := ⟨fun i h => absurd h (by simp), fun i h => absurd h (by simp), fun i j _ h => absurd h (by simp)⟩
theorem row2_app {out : List (List Int)} {l : List Int} {i : Nat} (h : i < out.length) : row2 (out ++ [l]) (i : Int) = row2 out (i : Int) := by
  unfold row2; rw [Int.toNat_natCast, List.getD_eq_getElem?_getD, List.getD_eq_getElem?_getD, List.getElem?_append_left h]
theorem row2_new {out : List (List Int)} {l : List Int} : row2 (out ++ [l]) (out.length : Int) = l := by
  unfold row2; rw [Int.toNat_natCast, List.getD_eq_getElem?_getD, List.getElem?_append_right (Nat.le_refl _)]; simp
theorem row2_set {out : List (List Int)} {l : List Int} {i j : Nat} (hi : i < out.length) : row2 (out.set i l) (j : Int) = if i = j then l else row2 out (j : Int) := by
  unfold row2; rw [Int.toNat_natCast, List.getD_eq_getElem?_getD, List.getElem?_set]
  by_cases h : i = j
  · subst h; simp [hi]
  simp [h]
theorem at0_head {l : List Int} {m : Int} (h : l ≠ []) : at0 (l ++ [m]) 0 = at0 l 0 := by
  cases l with
  | nil => exact absurd rfl h
  | cons a l => rfl
theorem head_in {l : List Int} (h : l ≠ []) : at0 l 0 ∈ l := by
  cases l with
  | nil => exact absurd rfl h
  | cons a l => exact List.mem_cons_self ..
theorem sep_add {r : Int → Int → Prop} {n : Nat} {out : List (List Int)} {m : Int} (h : SepR r n out) (m0 : 0 ≤ m) (m1 : m < n) : SepR r n (addR r out m) := by
  by_cases hx : ∃ i, i < out.length ∧ mutR r m (row2 out (i : Int)) ∧ ∀ j : Nat, j < i → ¬ mutR r m (row2 out (j : Int))
  · obtain ⟨i, hi, h1, h2⟩ := hx
    rw [addR_old hi h1 h2]
    have hh : ∀ j : Nat, j < out.length → at0 (row2 (out.set i (row2 out (i : Int) ++ [m])) (j : Int)) 0 = at0 (row2 out (j : Int)) 0 := fun j hj => by
      rw [row2_set hi]
      split
      · rename_i e; subst e; exact at0_head (h.ne i hi)
      rfl
    refine ⟨fun j hj => ?_, fun j hj => ?_, fun a b hab hb => ?_⟩
    · rw [row2_set hi]; split
      · simp
      exact h.ne j (by simpa using hj)
    · rw [row2_set hi]; split
      · intro x hx
        rcases List.mem_append.1 hx with hx | hx
        · exact h.hd i hi x hx
        rw [List.mem_singleton.1 hx]; exact ⟨m0, m1⟩
      exact h.hd j (by simpa using hj)
    have hb' : b < out.length := by simpa using hb
    rw [hh a (by omega), hh b hb']
    exact h.sep a b hab hb'
  have hno : ∀ j : Nat, j < out.length → ¬ mutR r m (row2 out (j : Int)) := fun j hj hm => by
    have := leastN_spec (p := fun j => j < out.length ∧ mutR r m (row2 out (j : Int))) ⟨hj, hm⟩
    refine hx ⟨_, this.1.1, this.1.2, fun i hi hc => ?_⟩
    have := (leastN_spec (p := fun j => j < out.length ∧ mutR r m (row2 out (j : Int))) (n := i) ⟨by have := this.1.1; omega, hc⟩).2
    omega
  rw [addR_new hno]
  refine ⟨fun j hj => ?_, fun j hj => ?_, fun a b hab hb => ?_⟩
  · rcases Nat.lt_or_ge j out.length with h1 | h1
    · rw [row2_app h1]; exact h.ne j h1
    obtain rfl : j = out.length := by simp at hj; omega
    rw [row2_new]; simp
  · rcases Nat.lt_or_ge j out.length with h1 | h1
    · rw [row2_app h1]; exact h.hd j h1
    obtain rfl : j = out.length := by simp at hj; omega
    rw [row2_new]; intro x hx; rw [List.mem_singleton.1 hx]; exact ⟨m0, m1⟩
  rcases Nat.lt_or_ge b out.length with h1 | h1
  · rw [row2_app h1, row2_app (by omega)]; exact h.sep a b hab h1
  obtain rfl : b = out.length := by simp at hb; omega
  rw [row2_new, row2_app hab]
  intro hc
  exact hno a hab ⟨hc.2, hc.1⟩
def TransR (r : Int → Int → Prop) (n : Nat) : Prop := ∀ a b d : Int, 0 ≤ a → a < n → 0 ≤ b → b < n → 0 ≤ d → d < n → r a b → r b d → r a d
theorem sep_one {r : Int → Int → Prop} {n : Nat} {out : List (List Int)} {m : Int} (h : SepR r n out) (ht : TransR r n) (m0 : 0 ≤ m) (m1 : m < n) {i j : Nat} (hi : i < out.length) (hj : j < out.length) (h1 : mutR r m (row2 out (i : Int))) (h2 : mutR r m (row2 out (j : Int))) : i = j := by
  have key : ∀ a b : Nat, a < b → b < out.length → mutR r m (row2 out (a : Int)) → mutR r m (row2 out (b : Int)) → False := fun a b hab hb ha hb2 => by
    have ra := h.hd a (by omega) _ (head_in (h.ne a (by omega)))
    have rb := h.hd b hb _ (head_in (h.ne b hb))
    exact h.sep a b hab hb ⟨ht _ m _ ra.1 ra.2 m0 m1 rb.1 rb.2 ha.2 hb2.1, ht _ m _ rb.1 rb.2 m0 m1 ra.1 ra.2 hb2.2 ha.1⟩
  rcases Nat.lt_trichotomy i j with h3 | h3 | h3
  · exact (key i j h3 hj h1 h2).elim
  · exact h3
  exact (key j i h3 hi h2 h1).elim
noncomputable def nxR (r : Int → Int → Prop) (out : List (List Int)) (m : Int) (i : Nat) : List Int := bif bP (mutR r m (row2 out (i : Int))) then row2 out (i : Int) ++ [m] else row2 out (i : Int)
theorem nx_t {r : Int → Int → Prop} {out : List (List Int)} {m : Int} {i : Nat} (h : mutR r m (row2 out (i : Int))) : row2 out (i : Int) ++ [m] = nxR r out m i := by unfold nxR; rw [bP_t h]; rfl
theorem nx_f {r : Int → Int → Prop} {out : List (List Int)} {m : Int} {i : Nat} (h : ¬ mutR r m (row2 out (i : Int))) : row2 out (i : Int) = nxR r out m i := by unfold nxR; rw [bP_f h]; rfl
theorem rows_ext {xs ys : List (List Int)} (hl : xs.length = ys.length) (h : ∀ j : Nat, j < xs.length → row2 xs (j : Int) = row2 ys (j : Int)) : xs = ys := by
  refine List.ext_getElem hl fun j h1 h2 => ?_
  have := h j h1
  unfold row2 at this
  rw [Int.toNat_natCast, List.getD_eq_getElem?_getD, List.getD_eq_getElem?_getD, List.getElem?_eq_getElem h1, List.getElem?_eq_getElem h2] at this
  exact this
theorem nx_old {r : Int → Int → Prop} {n : Nat} {out : List (List Int)} {m : Int} (h : SepR r n out) (ht : TransR r n) (m0 : 0 ≤ m) (m1 : m < n) {i : Nat} (hi : i < out.length) (h1 : mutR r m (row2 out (i : Int))) : rowsTo (nxR r out m) out.length = addR r out m := by
  rw [addR_old hi h1 fun j hj h2 => absurd (sep_one h ht m0 m1 (by omega) hi h2 h1) (by omega)]
  refine rows_ext (by rw [rowsTo_len, List.length_set]) fun j hj => ?_
  rw [rowsTo_len] at hj
  rw [rowsTo_at _ hj, row2_set hi]
  by_cases e : i = j
  · subst e; rw [if_pos rfl, nx_t h1]
  rw [if_neg e, nx_f fun h2 => e (sep_one h ht m0 m1 hi hj h1 h2)]
theorem nx_new {r : Int → Int → Prop} {out : List (List Int)} {m : Int} (h : ∀ j : Nat, j < out.length → ¬ mutR r m (row2 out (j : Int))) : rowsTo (nxR r out m) out.length ++ [[m]] = addR r out m := by
  rw [addR_new h]
  congr 1
  refine rows_ext (rowsTo_len _ _) fun j hj => ?_
  rw [rowsTo_len] at hj
  rw [rowsTo_at _ hj, nx_f (h j hj)]
theorem bel_iff {c : Cat} (hS : ShapeP c) {m n : Int} (m0 : 0 ≤ m) (n0 : 0 ≤ n) (n1 : n < c.s.length) {k : Nat} (hk : k < c.s.length) : (at0 c.s k = at0 c.s m ∧ at0 c.t k = at0 c.s n ∧ c.th k n = m) ↔ bef c n (k : Int) = m :=
  lift_iff hS m0 n0 n1 (by omega) (by omega)
theorem bel_trans {c : Cat} (hC : IsCat c) : TransR (belP c) c.s.length := by
  rintro a b d a0 a1 b0 b1 d0 d1 ⟨k, hk, h1⟩ ⟨l, hl, h2⟩
  have e1 := (lift_iff hC.toShapeP a0 b0 b1 (h := (k : Int)) (by omega) (by omega)).2 h1
  have e2 := (lift_iff hC.toShapeP b0 d0 d1 (h := (l : Int)) (by omega) (by omega)).2 h2
  have e3 : at0 c.t (k : Int) = at0 c.s (l : Int) := by rw [e1.2.1, e2.1]
  have ht := th_ends hC.toShapeP (f := (k : Int)) (g := (l : Int)) (by omega) (by omega) (by omega) (by omega) e3
  obtain ⟨q, hq⟩ := Int.eq_ofNat_of_zero_le ht.1.1
  refine ⟨q, by omega, ?_⟩
  show c.th q d = a
  rw [← hq, assocI hC (by omega) (by omega) (by omega) (by omega) d0 d1 e3 e2.2.1, show c.th (l : Int) d = b from h2]
  exact h1
noncomputable def monL (c : Cat) (x : Int) (k : Nat) : List Int := filTo (fun f => at0 c.t (f : Int) = x ∧ monoP c (f : Int)) (fun f => (f : Int)) k
theorem monL_t {c : Cat} {x : Int} {k : Nat} (h : at0 c.t (k : Int) = x) (h2 : monoP c (k : Int)) : monL c x k ++ [(k : Int)] = monL c x (k + 1) := filTo_t (p := fun f => at0 c.t (f : Int) = x ∧ monoP c (f : Int)) ⟨h, h2⟩
theorem monL_f {c : Cat} {x : Int} {k : Nat} (h : ¬ (at0 c.t (k : Int) = x ∧ monoP c (k : Int))) : monL c x k = monL c x (k + 1) := filTo_f (p := fun f => at0 c.t (f : Int) = x ∧ monoP c (f : Int)) h
theorem monL_mem {c : Cat} {x y : Int} {k : Nat} (h : y ∈ monL c x k) : 0 ≤ y ∧ y < k := by obtain ⟨j, h1, _, rfl⟩ := filTo_mem.1 h; omega
theorem monL_len (c : Cat) (x : Int) (k : Nat) : (monL c x k).length ≤ k := filTo_len _ _ _
noncomputable def fSubobjectsOf (c : Cat) (x : Int) : List (List Int) × Int := if objErr c [x] = 0 then (clsR (belP c) (monL c x c.s.length), 0) else ([], objErr c [x])
theorem sep_cls {r : Int → Int → Prop} {n : Nat} : ∀ {xs : List Int}, (∀ x ∈ xs, 0 ≤ x ∧ x < n) → SepR r n (clsR r xs) := by
  intro xs
  have key : ∀ (xs : List Int) (out : List (List Int)), SepR r n out → (∀ x ∈ xs, 0 ≤ x ∧ x < n) → SepR r n (xs.foldl (addR r) out) := by
    intro xs
    induction xs with
    | nil => exact fun out h _ => h
    | cons a xs ih => exact fun out h hx => ih _ (sep_add h (hx a (List.mem_cons_self ..)).1 (hx a (List.mem_cons_self ..)).2) fun x hm => hx x (List.mem_cons_of_mem _ hm)
  exact key xs [] (sep_zero r n)
theorem addR_len (r : Int → Int → Prop) (out : List (List Int)) (m : Int) : (addR r out m).length ≤ out.length + 1 := by
  unfold addR; split
  · rw [List.length_set]; omega
  simp
theorem addR_row {r : Int → Int → Prop} {out : List (List Int)} {m : Int} {b : Nat} (h : ∀ i : Nat, i < out.length → (row2 out (i : Int)).length ≤ b) : ∀ i : Nat, i < (addR r out m).length → (row2 (addR r out m) (i : Int)).length ≤ b + 1 := by
  intro i hi
  unfold addR at hi ⊢
  split at hi
  · rename_i k hk
    have hkl : k < out.length := by
      unfold firstN at hk
      have := List.mem_of_find?_eq_some hk
      simpa using this
    rw [row2_set hkl]
    split
    · have := h k hkl; simp; omega
    have := h i (by simpa using hi); omega
  rename_i hk
  rcases Nat.lt_or_ge i out.length with h1 | h1
  · rw [row2_app h1]; have := h i h1; omega
  obtain rfl : i = out.length := by simp at hi; omega
  rw [row2_new]; simp
theorem cls_len (r : Int → Int → Prop) (xs : List Int) : (clsR r xs).length ≤ xs.length := by
  have key : ∀ (xs : List Int) (out : List (List Int)), (xs.foldl (addR r) out).length ≤ out.length + xs.length := by
    intro xs
    induction xs with
    | nil => intro out; simp
    | cons a xs ih => intro out; have := ih (addR r out a); have := addR_len r out a; simp only [List.foldl_cons, List.length_cons]; omega
  have := key xs []
  simpa [clsR] using this
theorem cls_row (r : Int → Int → Prop) (xs : List Int) : ∀ i : Nat, i < (clsR r xs).length → (row2 (clsR r xs) (i : Int)).length ≤ xs.length := by
  have key : ∀ (xs : List Int) (out : List (List Int)) (b : Nat), (∀ i : Nat, i < out.length → (row2 out (i : Int)).length ≤ b) → ∀ i : Nat, i < (xs.foldl (addR r) out).length → (row2 (xs.foldl (addR r) out) (i : Int)).length ≤ b + xs.length := by
    intro xs
    induction xs with
    | nil => intro out b h; exact h
    | cons a xs ih =>
      intro out b h i hi
      have := ih (addR r out a) (b + 1) (addR_row h) i hi
      simp only [List.foldl_cons, List.length_cons] at this ⊢; omega
  have := key xs [] 0 (fun i hi => absurd hi (by simp))
  simpa [clsR] using this
end Go.Proofs.Ytbiplocgenppoaa
namespace Go.Proofs.Ytbiplocgenppoaa
open _root_.Go.Proofs.Try
open Go.RowKit
theorem mono_iff {c : Cat} {f : Int} : monoP c f ↔ ∀ g h : Nat, g < c.s.length → h < c.s.length → c.th (g : Int) f ≠ -1 → c.th (g : Int) f = c.th (h : Int) f → g = h := by
  have key : monoP c f ↔ ∀ g h : Nat, h < g → g < c.s.length → c.th (g : Int) f = -1 ∨ c.th (g : Int) f ≠ c.th (h : Int) f := by
    unfold monoP cancP
    refine ⟨fun hm g h hg hn => ?_, fun hm g h hg hn => ⟨bef c f, List.mem_singleton.2 rfl, hm g h hg hn⟩⟩
    obtain ⟨φ, hφ, hq⟩ := hm g h hg hn
    rw [List.mem_singleton.1 hφ] at hq
    exact hq
  rw [key]
  constructor
  · intro hm g h hg hh h1 he
    rcases Nat.lt_trichotomy g h with hl | hl | hl
    · rcases hm h g hl hh with h2 | h2
      · exact absurd (he.trans h2) h1
      exact absurd he.symm h2
    · exact hl
    rcases hm g h hl hg with h2 | h2
    · exact absurd h2 h1
    exact absurd he h2
  intro hm g h hl hg
  by_cases h1 : c.th (g : Int) f = -1
  · exact .inl h1
  refine .inr fun he => ?_
  have := hm g h hg (by omega) h1 he
  omega
theorem ret_mono {c : Cat} (hC : IsCat c) {f : Int} (f0 : 0 ≤ f) (f1 : f < c.s.length) (h : 0 < (retL c f).length) : monoP c f := by
  have hS := hC.toShapeP
  obtain ⟨r, hr⟩ := List.exists_mem_of_length_pos h
  obtain ⟨j, hj, hj2, rfl⟩ := sol_mem.1 hr
  have hq := (ret_iff hS f0 f1 (g := (j : Int)) (by omega) (by omega)).2 hj2
  refine mono_iff.2 fun g x hg hx h1 he => ?_
  have e1 := th_m1 hS (f := (g : Int)) (g := f) (by omega) (by omega) f0 f1 h1
  have e2 := th_m1 hS (f := (x : Int)) (g := f) (by omega) (by omega) f0 f1 (by rw [← he]; exact h1)
  have a1 := assocI hC (f := (g : Int)) (g := f) (h := (j : Int)) (by omega) (by omega) f0 f1 (by omega) (by omega) e1 hq.1.symm
  have a2 := assocI hC (f := (x : Int)) (g := f) (h := (j : Int)) (by omega) (by omega) f0 f1 (by omega) (by omega) e2 hq.1.symm
  rw [hq.2.2] at a1 a2
  rw [← e1, (unitL hC (f := (g : Int)) (by omega) (by omega)).2] at a1
  rw [← e2, (unitL hC (f := (x : Int)) (by omega) (by omega)).2] at a2
  rw [he] at a1
  omega
end Go.Proofs.Ytbiplocgenppoaa
namespace Go.Proofs.Ytbiplocgenppoaa
open _root_.Go.Proofs.Try
open Go.RowKit
theorem tail_loc (js : List Itm) : Loc (fun w S => Star js w S) where
  keep hs ha h := star_keep js hs ha h
def tailI (js : List Itm) : Itm := ⟨_, tail_loc js⟩
theorem star_tail_in : ∀ (L : List Itm) {F : List Itm} {w : World} {S : Nat → Prop}, Star (L ++ F) w S → Star (L ++ [tailI F]) w S
  | [], F, w, S, h => ⟨S, fun _ => False, fun _ h => h, fun _ h => h.elim, fun _ _ h => h, h, trivial⟩
  | _ :: L, F, w, S, ⟨S1, S2, k1, k2, kd, h1, h2⟩ => ⟨S1, S2, k1, k2, kd, h1, star_tail_in L h2⟩
theorem star_tail_out : ∀ (L : List Itm) {F : List Itm} {w : World} {S : Nat → Prop}, Star (L ++ [tailI F]) w S → Star (L ++ F) w S
  | [], F, w, S, ⟨S1, _, k1, _, _, h1, _⟩ => star_keep F (fun k _ h => k1 k h) agree_refl h1
  | _ :: L, F, w, S, ⟨S1, S2, k1, k2, kd, h1, h2⟩ => ⟨S1, S2, k1, k2, kd, h1, star_tail_out L h2⟩
theorem star_perm {is js : List Itm} (h : is.Perm js) : ∀ {w : World} {S : Nat → Prop}, Star is w S → Star js w S := by
  induction h with
  | nil => exact fun h => h
  | cons x _ ih => rintro w S ⟨S1, S2, k1, k2, hd, h1, h2⟩; exact ⟨S1, S2, k1, k2, hd, h1, ih h2⟩
  | swap x y l =>
    rintro w S ⟨S1, S2, k1, k2, hd, h1, T1, T2, t1, t2, td, h2, h3⟩
    exact ⟨T1, fun k => S1 k ∨ T2 k, fun k h => k2 k (t1 k h), fun k h => h.elim (k1 k) (fun h => k2 k (t2 k h)), fun k a b => b.elim (fun b => hd k b (t1 k a)) (td k a), h2, S1, T2, fun k h => .inl h, fun k h => .inr h, fun k a b => hd k a (t2 k b), h1, h3⟩
  | trans _ _ ih1 ih2 => exact fun h => ih2 (ih1 h)
theorem mem_perm {w0 w : World} {is js : List Itm} (h : is.Perm js) (M : Mem w0 w is) : Mem w0 w js := ⟨M.1, star_perm h M.2⟩
theorem mem_tail_in {w0 w : World} {L F : List Itm} (M : Mem w0 w (L ++ F)) : Mem w0 w (L ++ [tailI F]) := ⟨M.1, star_tail_in L M.2⟩
theorem mem_tail_out {w0 w : World} {L F : List Itm} (M : Mem w0 w (L ++ [tailI F])) : Mem w0 w (L ++ F) := ⟨M.1, star_tail_out L M.2⟩
section
variable {w0 : World} {is : List Itm} {ops : Array Oper} {Q : Exit → Act → World → Prop} {o : Oper} {N : Frm} {e : Env} {v : Value} {d : Nat} {K : Act → World → Prop} {f : FuncId} {fn : Func} {ags : Array Operand} {ts : Array TypeId} {vs : List Value}
theorem go_callF {w : World} {a : Act} {t : Nat} {caps : Array Value} {R : Ending → World → Prop} (hd : o.dst = some d) (hN : Nat.blt d N = true) (F : Fit N e a)
    (hop : o.op = .call { callee := .value (.tmp t), args := ags, argTypes := ts }) (ht : evo e (.tmp t) = some (.func (.func f) #[] caps)) (hfn : Try.prog.funcs[f]? = some fn) (hb : fn.body.isNone = false) (hn : (fn.name == "runtime.NumGoroutine") = false) (hargs : evoL e ags.toList = some vs)
    (hc : Calls Try.prog f (vs.toArray ++ caps) w R) (hk : ∀ e' w', R e' w' → ∃ v, e' = .returned v ∧ ∀ a, Fit N ((d, v) :: e) a → K a w') : o.wp Try.prog a w K Q := by
  unfold Oper.wp
  have hrun : (execOp a.eval o).run Try.prog w = .ok (.enter f (vs.toArray ++ caps)) w := by
    have hb' : ¬ fn.body = none := fun h => by rw [h] at hb; simp at hb
    have hn' : ¬ fn.name = "runtime.NumGoroutine" := by simpa using hn
    have ha : ags.map a.eval = vs.toArray := by
      have := fit_evals F hargs
      rw [← this]; apply Array.toList_inj.1; simp
    have hv : a.eval (.tmp t) = .func (.func f) #[] caps := fit_eval F ht
    simp [execOp, hop, resolve, hv, Deferred.ofValue, invoke, callFunc, hfn, hn', hb', ha]
  rw [hrun, Oper.upon_enter]
  refine hc.mono fun e' w' h => ?_
  obtain ⟨v, rfl, h2⟩ := hk e' w' h
  show K (Act.put _ o.dst v) w'
  rw [hd]
  exact h2 _ (fit_put F hN)
theorem go_clo {α β : Type} (m : Nat) {L F : List Itm} {LF : α → β → List Itm} {r : Value} {t : Nat} {caps : Array Value} {us : List Value} (hd : o.dst = some d) (hN : Nat.blt d N = true) (hop : o.op = .call { callee := .value (.tmp t), args := ags, argTypes := ts }) (ht : evo e (.tmp t) = some (.func (.func f) #[] caps)) (hfn : Try.prog.funcs[f]? = some fn) (hb : fn.body.isNone = false) (hnm : (fn.name == "runtime.NumGoroutine") = false)
    (hargs : evoL e ags.toList = some vs) (hus : vs ++ caps.toList = us) (his : is = L ++ F)
    (hc : ∀ w, Mem w0 w (L ++ [tailI F]) → Calls Try.prog f us.toArray w (fun e w' => e = .returned r ∧ ∃ x y, Mem w0 w' (LF x y))) (hLF : ∀ x y, LF x y = (LF x y).take m ++ [tailI F])
    (hk : ∀ x y, GK w0 ((LF x y).take m ++ F) N K ((d, r) :: e)) : GO w0 is N o e Q K := by
  subst his; subst hus
  intro w a M F
  have hc2 := hc w (mem_tail_in M)
  rw [show (vs ++ caps.toList).toArray = vs.toArray ++ caps by simp] at hc2
  refine go_callF hd hN F hop ht hfn hb hnm hargs hc2 fun e' w' hR => ?_
  obtain ⟨rfl, x, y, M'⟩ := hR
  rw [hLF x y] at M'
  exact ⟨r, rfl, fun a F => hk x y w' a (mem_tail_out M') F⟩
end
end Go.Proofs.Ytbiplocgenppoaa
