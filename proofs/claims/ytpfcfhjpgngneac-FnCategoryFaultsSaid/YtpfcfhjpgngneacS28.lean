import Derived.Test.YtpfcfhjpgngneacS4
import Derived.Test.YtpfcfhjpgngneacS27
import Derived.Test.YtpfcfhjpgngneacS11
import Derived.Test.YtpfcfhjpgngneacS5
set_option linter.unusedSimpArgs false
set_option linter.unusedVariables false
set_option linter.unusedSectionVars false
namespace Go.Proofs.Ytpfcfhjpgngneac
open Go.RowKit
theorem star_rdC {F : List Itm} {w : World} {S : Nat → Prop} {c : Cat} {vs vt ve vm : Value} {us : List Value} (a b d g : Nat) (h1 : F[a]? = some (own1I vs c.s)) (h2 : F[b]? = some (own1I vt c.t)) (h3 : F[d]? = some (own1I ve c.e)) (h4 : F[g]? = some (own2U vm us c.m)) (h : Star F w S) : RdC w (.agg #[.int .i64 c.ob, vs, vt, ve, vm]) c := by
 obtain ⟨S1, _, p1⟩ := star_get F h1 h
 obtain ⟨S2, _, p2⟩ := star_get F h2 h
 obtain ⟨S3, _, p3⟩ := star_get F h3 h
 obtain ⟨S4, _, p4⟩ := star_get F h4 h
 exact ⟨vs, vt, ve, vm, rfl, Own1.rd p1, Own1.rd p2, Own1.rd p3, Own2.rd (S := S4) ⟨us, p4⟩⟩
def RetMHV {α : Type} (w0 : World) (i : Itm) (F : List Itm) (P : Cat → α → Prop) (V : α → Value → Value) (e : Ending) (w' : World) : Prop := ∃ (c : Cat) (v : Value) (x : α), P c x ∧ e = .returned (V x v) ∧ Mem w0 w' [i, tailI F, heldI (fun w => RdC w v c)]
section
variable {w0 : World} {is : List Itm} {Q : Exit → Act → World → Prop} {o : Oper} {N : Nat} {e : Env} {d : Nat} {K : Act → World → Prop} {f : FuncId} {fn : Func} {ags : Array Operand} {ts : Array TypeId} {vs : List Value}
theorem go_callMHV {α : Type} {i : Itm} {F : List Itm} {P : Cat → α → Prop} {V : α → Value → Value} (hd : o.dst = some d) (hN : Nat.blt d N = true) (hop : o.op = .call { callee := .value (.func f), args := ags, argTypes := ts }) (hfn : Try.prog.funcs[f]? = some fn) (hb : fn.body.isNone = false) (hn : (fn.name == "runtime.NumGoroutine") = false)
  (hargs : evoL e ags.toList = some vs) (his : is = i :: F) (hc : ∀ w, Mem w0 w [i, tailI F] → Calls Try.prog f vs.toArray w (RetMHV w0 i F P V))
  (hk : ∀ (c : Cat) (x : α) (a1 a2 a3 a4 : Option Addr) (k1 k2 k3 k4 : Nat), P c x → GK w0 (is ++ [heldI fun w => RdC w (.agg #[.int .i64 c.ob, .slice a1 c.s.length k1, .slice a2 c.t.length k2, .slice a3 c.e.length k3, .slice a4 c.m.length k4]) c]) N K ((d, V x (.agg #[.int .i64 c.ob, .slice a1 c.s.length k1, .slice a2 c.t.length k2, .slice a3 c.e.length k3, .slice a4 c.m.length k4])) :: e)) : GO w0 is N o e Q K := by
 subst his
 intro w a M G
 refine go_call hd hN G hop hfn hb hn hargs (hc w (mem_tail_in (L := [i]) M)) fun e' w' hR => ?_
 obtain ⟨c, v, x, hP, rfl, M'⟩ := hR
 obtain ⟨a1, a2, a3, a4, k1, k2, k3, k4, rfl, _⟩ := (mem_held (n := 2) M' rfl).lists
 exact ⟨_, rfl, fun a G => hk c x a1 a2 a3 a4 k1 k2 k3 k4 hP w' a (mem_mid (J := [heldI fun w => RdC w _ c]) M') G⟩
theorem go_callMH {i : Itm} {F : List Itm} {P : Cat → Prop} (hd : o.dst = some d) (hN : Nat.blt d N = true) (hop : o.op = .call { callee := .value (.func f), args := ags, argTypes := ts }) (hfn : Try.prog.funcs[f]? = some fn) (hb : fn.body.isNone = false) (hn : (fn.name == "runtime.NumGoroutine") = false)
  (hargs : evoL e ags.toList = some vs) (his : is = i :: F) (hc : ∀ w, Mem w0 w [i, tailI F] → Calls Try.prog f vs.toArray w (RetMH w0 i F P))
  (hk : ∀ (c : Cat) (a1 a2 a3 a4 : Option Addr) (k1 k2 k3 k4 : Nat), P c → GK w0 (is ++ [heldI fun w => RdC w (.agg #[.int .i64 c.ob, .slice a1 c.s.length k1, .slice a2 c.t.length k2, .slice a3 c.e.length k3, .slice a4 c.m.length k4]) c]) N K ((d, .agg #[.int .i64 c.ob, .slice a1 c.s.length k1, .slice a2 c.t.length k2, .slice a3 c.e.length k3, .slice a4 c.m.length k4]) :: e)) : GO w0 is N o e Q K :=
 go_callMHV (α := Unit) (P := fun c _ => P c) (V := fun _ v => v) hd hN hop hfn hb hn hargs his (fun w M => (hc w M).mono fun e w1 h => by obtain ⟨c, v, hP, he, M'⟩ := h; exact ⟨c, v, (), hP, he, M'⟩) fun c _ => hk c
end
end Go.Proofs.Ytpfcfhjpgngneac
set_option linter.unusedSimpArgs false
set_option linter.unusedVariables false
set_option linter.unusedSectionVars false
namespace Go.Proofs.Ytpfcfhjpgngneac
open Go.RowKit
end Go.Proofs.Ytpfcfhjpgngneac
set_option linter.unusedSimpArgs false
set_option linter.unusedVariables false
set_option linter.unusedSectionVars false
namespace Go.Proofs.Ytpfcfhjpgngneac
open Go.RowKit
def RetHV {α : Type} (W : World) (P : Cat → α → Prop) (V : α → Value → Value) (e : Ending) (w' : World) : Prop := ∃ (c : Cat) (v : Value) (x : α), P c x ∧ e = .returned (V x v) ∧ Below W.heap.size W w' ∧ (heldI fun w => RdC w v c).p w' (fun k => W.heap.size ≤ k)
theorem mem_heldP {w0 w : World} {is : List Itm} {n : Nat} {φ : World → Prop} (M : Mem w0 w is) (h : is[n]? = some (heldI φ)) : (heldI φ).p w (fun k => w0.heap.size ≤ k) := by
 obtain ⟨S, hS, hb⟩ := mem_get M h
 exact (held_loc φ).keep (fun k _ hk => hS k hk) agree_refl hb
section
variable {w0 : World} {is : List Itm} {Q : Exit → Act → World → Prop} {o : Oper} {N : Nat} {e : Env} {d : Nat} {K : Act → World → Prop} {f : FuncId} {fn : Func} {ags : Array Operand} {ts : Array TypeId} {vs : List Value}
theorem go_callHV {α : Type} {P : Cat → α → Prop} {V : α → Value → Value} (hd : o.dst = some d) (hN : Nat.blt d N = true) (hop : o.op = .call { callee := .value (.func f), args := ags, argTypes := ts }) (hfn : Try.prog.funcs[f]? = some fn) (hb : fn.body.isNone = false) (hn : (fn.name == "runtime.NumGoroutine") = false)
  (hargs : evoL e ags.toList = some vs) (hc : ∀ w, Mem w0 w is → Calls Try.prog f vs.toArray w (RetHV w P V))
  (hk : ∀ (c : Cat) (x : α) (a1 a2 a3 a4 : Option Addr) (k1 k2 k3 k4 : Nat), P c x → GK w0 (is ++ [heldI fun w => RdC w (.agg #[.int .i64 c.ob, .slice a1 c.s.length k1, .slice a2 c.t.length k2, .slice a3 c.e.length k3, .slice a4 c.m.length k4]) c]) N K ((d, V x (.agg #[.int .i64 c.ob, .slice a1 c.s.length k1, .slice a2 c.t.length k2, .slice a3 c.e.length k3, .slice a4 c.m.length k4])) :: e)) : GO w0 is N o e Q K := by
 intro w a M G
 refine go_call hd hN G hop hfn hb hn hargs (hc w M) fun e' w' hR => ?_
 obtain ⟨c, v, x, hP, rfl, hbl, hp⟩ := hR
 obtain ⟨a1, a2, a3, a4, k1, k2, k3, k4, rfl, _⟩ := ((hp : ∀ w2, Agree _ w' w2 → RdC w2 v c) w' agree_refl).lists
 exact ⟨_, rfl, fun a G => hk c x a1 a2 a3 a4 k1 k2 k3 k4 hP w' a (mem_new M hbl hp) G⟩
end
end Go.Proofs.Ytpfcfhjpgngneac
