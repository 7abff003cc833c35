
/- A reader of a value that is passed on as a function: its error, its copy. -/
import Derived.Test.YtgkfampgofjkfaaFv
import Derived.Test.YtgkfampgofjkfaaGrid
set_option linter.unusedSimpArgs false
set_option linter.unusedVariables false
set_option linter.unusedSectionVars false
namespace Go.Proofs.Ytgkfampgofjkfaa
open Go.RowKit


/-- The error of a reader: nothing else comes back. -/
def ZeroC (W : World) (n : Int) (e : Ending) (w' : World) : Prop := e = .returned (.tuple #[.agg #[.int .i64 0, .slice none 0 0, .slice none 0 0, .slice none 0 0, .slice none 0 0], .int .i64 n]) ∧ Below W.heap.size W w'
section
variable {w0 : World} {is : List Itm} {ops : Array Oper} {Q : Exit → Act → World → Prop} {o : Oper} {rest : List Oper} {N : Frm} {n m : Nat} {e : Env} {v u : Value} {d : Nat} {K : Act → World → Prop} {f : FuncId} {fn : Func} {ags : Array Operand} {ts : Array TypeId} {vs : List Value}
theorem go_callVCI {x : Operand} {c : Cat} {n : Int} (hd : o.dst = some d) (hN : Nat.blt d N = true) (hop : o.op = .call { callee := .value x, args := ags, argTypes := ts }) (hx : evo e x = some u)
    (hargs : evoL e ags.toList = some vs) (hc : ∀ w, Mem w0 w is → CallsV u vs w (RetCI w c n)) (hk : ∀ a1 k1 a2 k2 a3 k3 a4 k4 uu, GK w0 (is ++ [own1I (.slice a1 c.s.length k1) c.s, own1I (.slice a2 c.t.length k2) c.t, own1I (.slice a3 c.e.length k3) c.e, own2U (.slice a4 c.m.length k4) uu c.m]) N K ((d, .tuple #[.agg #[.int .i64 c.ob, .slice a1 c.s.length k1, .slice a2 c.t.length k2, .slice a3 c.e.length k3, .slice a4 c.m.length k4], .int .i64 n]) :: e)) : GO w0 is N o e Q K := by
  intro w a M F
  refine go_callV hd hN F hop hx hargs (hc w M) fun e' w' hR => ?_
  obtain ⟨v, rfl, hs, hbl⟩ := hR
  obtain ⟨a1, a2, a3, a4, k1, k2, k3, k4, uu, rfl, hst⟩ := star_ownC hs
  exact ⟨_, rfl, fun a F => hk a1 k1 a2 k2 a3 k3 a4 k4 uu w' a (mem_news M hbl hst) F⟩
end
theorem retCI_zero {W w' : World} {n : Int} {e : Ending} (h : ZeroC W n e w') : RetCI W cat0 n e w' := ⟨_, h.1, ownC_zero _ _, h.2⟩
theorem retCCI_half {W w' : World} {c : Cat} {n : Int} {vs vt ve vm : Value} {u1 : List Value} {is : List Itm} (M : Mem W w' (own1I vs c.s :: own1I vt c.t :: own1I ve c.e :: own2U vm u1 c.m :: is)) :
    RetCCI W c cat0 n (.returned (.tuple #[.agg #[.int .i64 c.ob, vs, vt, ve, vm], .agg #[.int .i64 0, .slice none 0 0, .slice none 0 0, .slice none 0 0, .slice none 0 0], .int .i64 n])) w' :=
  ⟨_, _, _, fun _ => False, rfl, ownC_starS M.2, ownC_zero _ _, fun k h => h, fun k h => h.elim, fun k _ h => h, M.1⟩

end Go.Proofs.Ytgkfampgofjkfaa
