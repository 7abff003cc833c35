
/- Calls that change things of the caller's: a function value with what it has captured; what is not touched, as one thing. -/
import Derived.Test.YtgkfampgofjkfaaRul7
set_option linter.unusedSimpArgs false
set_option linter.unusedVariables false
set_option linter.unusedSectionVars false
namespace Go.Proofs.Ytgkfampgofjkfaa
open Go.RowKit
theorem tail_loc (js : List Itm) : Loc (fun w S => Star js w S) where
  keep hs ha h := star_keep js hs ha h
/-- Many things as one. -/
def tailI (js : List Itm) : Itm := ⟨_, tail_loc js⟩
theorem star_tail_in : ∀ (L : List Itm) {F : List Itm} {w : World} {S : Nat → Prop}, Star (L ++ F) w S → Star (L ++ [tailI F]) w S
  | [], F, w, S, h => ⟨S, fun _ => False, fun _ h => h, fun _ h => h.elim, fun _ _ h => h, h, trivial⟩
  | _ :: L, F, w, S, ⟨S1, S2, k1, k2, kd, h1, h2⟩ => ⟨S1, S2, k1, k2, kd, h1, star_tail_in L h2⟩
theorem star_tail_out : ∀ (L : List Itm) {F : List Itm} {w : World} {S : Nat → Prop}, Star (L ++ [tailI F]) w S → Star (L ++ F) w S
  | [], F, w, S, ⟨S1, _, k1, _, _, h1, _⟩ => star_keep F (fun k _ h => k1 k h) agree_refl h1
  | _ :: L, F, w, S, ⟨S1, S2, k1, k2, kd, h1, h2⟩ => ⟨S1, S2, k1, k2, kd, h1, star_tail_out L h2⟩
theorem star_perm {is js : List Itm} (h : is.Perm js) : ∀ {w : World} {S : Nat → Prop}, Star is w S → Star js w S := by
  induction h with
  | nil => exact fun h => h
  | cons x _ ih => rintro w S ⟨S1, S2, k1, k2, hd, h1, h2⟩; exact ⟨S1, S2, k1, k2, hd, h1, ih h2⟩
  | swap x y l =>
    rintro w S ⟨S1, S2, k1, k2, hd, h1, T1, T2, t1, t2, td, h2, h3⟩
    exact ⟨T1, fun k => S1 k ∨ T2 k, fun k h => k2 k (t1 k h), fun k h => h.elim (k1 k) (fun h => k2 k (t2 k h)), fun k a b => b.elim (fun b => hd k b (t1 k a)) (td k a), h2, S1, T2, fun k h => .inl h, fun k h => .inr h, fun k a b => hd k a (t2 k b), h1, h3⟩
  | trans _ _ ih1 ih2 => exact fun h => ih2 (ih1 h)
theorem mem_perm {w0 w : World} {is js : List Itm} (h : is.Perm js) (M : Mem w0 w is) : Mem w0 w js := ⟨M.1, star_perm h M.2⟩
theorem mem_tail_in {w0 w : World} {L F : List Itm} (M : Mem w0 w (L ++ F)) : Mem w0 w (L ++ [tailI F]) := ⟨M.1, star_tail_in L M.2⟩
theorem mem_tail_out {w0 w : World} {L F : List Itm} (M : Mem w0 w (L ++ [tailI F])) : Mem w0 w (L ++ F) := ⟨M.1, star_tail_out L M.2⟩
section
variable {w0 : World} {is : List Itm} {ops : Array Oper} {Q : Exit → Act → World → Prop} {o : Oper} {N : Frm} {e : Env} {v : Value} {d : Nat} {K : Act → World → Prop} {f : FuncId} {fn : Func} {ags : Array Operand} {ts : Array TypeId} {vs : List Value}
theorem go_callF {w : World} {a : Act} {t : Nat} {caps : Array Value} {R : Ending → World → Prop} (hd : o.dst = some d) (hN : Nat.blt d N = true) (F : Fit N e a)
    (hop : o.op = .call { callee := .value (.tmp t), args := ags, argTypes := ts }) (ht : evo e (.tmp t) = some (.func (.func f) #[] caps)) (hfn : Try.prog.funcs[f]? = some fn) (hb : fn.body.isNone = false) (hn : (fn.name == "runtime.NumGoroutine") = false) (hargs : evoL e ags.toList = some vs)
    (hc : Calls Try.prog f (vs.toArray ++ caps) w R) (hk : ∀ e' w', R e' w' → ∃ v, e' = .returned v ∧ ∀ a, Fit N ((d, v) :: e) a → K a w') : o.wp Try.prog a w K Q := by
  unfold Oper.wp
  have hrun : (execOp a.eval o).run Try.prog w = .ok (.enter f (vs.toArray ++ caps)) w := by
    have hb' : ¬ fn.body = none := fun h => by rw [h] at hb; simp at hb
    have hn' : ¬ fn.name = "runtime.NumGoroutine" := by simpa using hn
    have ha : ags.map a.eval = vs.toArray := by
      have := fit_evals F hargs
      rw [← this]; apply Array.toList_inj.1; simp
    have hv : a.eval (.tmp t) = .func (.func f) #[] caps := fit_eval F ht
    simp [execOp, hop, resolve, hv, Deferred.ofValue, invoke, callFunc, hfn, hn', hb', ha]
  rw [hrun, Oper.upon_enter]
  refine hc.mono fun e' w' h => ?_
  obtain ⟨v, rfl, h2⟩ := hk e' w' h
  show K (Act.put _ o.dst v) w'
  rw [hd]
  exact h2 _ (fit_put F hN)
/-- A function value is called: it changes the first things, and leaves those of F. -/
theorem go_clo {α β : Type} (m : Nat) {L F : List Itm} {LF : α → β → List Itm} {r : Value} {t : Nat} {caps : Array Value} {us : List Value} (hd : o.dst = some d) (hN : Nat.blt d N = true) (hop : o.op = .call { callee := .value (.tmp t), args := ags, argTypes := ts }) (ht : evo e (.tmp t) = some (.func (.func f) #[] caps)) (hfn : Try.prog.funcs[f]? = some fn) (hb : fn.body.isNone = false) (hnm : (fn.name == "runtime.NumGoroutine") = false)
    (hargs : evoL e ags.toList = some vs) (hus : vs ++ caps.toList = us) (his : is = L ++ F)
    (hc : ∀ w, Mem w0 w (L ++ [tailI F]) → Calls Try.prog f us.toArray w (fun e w' => e = .returned r ∧ ∃ x y, Mem w0 w' (LF x y))) (hLF : ∀ x y, LF x y = (LF x y).take m ++ [tailI F])
    (hk : ∀ x y, GK w0 ((LF x y).take m ++ F) N K ((d, r) :: e)) : GO w0 is N o e Q K := by
  subst his; subst hus
  intro w a M F
  have hc2 := hc w (mem_tail_in M)
  rw [show (vs ++ caps.toList).toArray = vs.toArray ++ caps by simp] at hc2
  refine go_callF hd hN F hop ht hfn hb hnm hargs hc2 fun e' w' hR => ?_
  obtain ⟨rfl, x, y, M'⟩ := hR
  rw [hLF x y] at M'
  exact ⟨r, rfl, fun a F => hk x y w' a (mem_tail_out M') F⟩
end
end Go.Proofs.Ytgkfampgofjkfaa
