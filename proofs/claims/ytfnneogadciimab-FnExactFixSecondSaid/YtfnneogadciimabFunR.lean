
/- Functors as results: what a call hands back, one or two of them, and its error. -/
import Derived.Test.YtfnneogadciimabFun
import Derived.Test.YtfnneogadciimabZer
import Derived.Test.YtfnneogadciimabClo2
set_option linter.unusedSimpArgs false
set_option linter.unusedVariables false
set_option linter.unusedSectionVars false
namespace Go.Proofs.Ytfnneogadciimab
open Go.RowKit


/-- A run of things put in front. -/
theorem mem_block {w0 w : World} {is : List Itm} (k n : Nat) (M : Mem w0 w is) : Mem w0 w ((is.drop k).take n ++ (is.take k ++ (is.drop k).drop n)) := by
  refine mem_perm ?_ M
  have h : (is.take k ++ ((is.drop k).take n ++ (is.drop k).drop n)).Perm ((is.drop k).take n ++ (is.take k ++ (is.drop k).drop n)) := by
    rw [← List.append_assoc, ← List.append_assoc]; exact List.perm_append_comm.append_right _
  rwa [List.take_append_drop, List.take_append_drop] at h
def fct0 : Fct := ⟨cat0, cat0, [], []⟩
theorem ownF_zero (w : World) (S : Nat → Prop) : OwnF (.agg #[.int .i64 0, .slice none 0 0, .slice none 0 0, .slice none 0 0, .slice none 0 0, .int .i64 0, .slice none 0 0, .slice none 0 0, .slice none 0 0, .slice none 0 0, .slice none 0 0, .slice none 0 0]) fct0 w S := by
  have n1 : Own1 (.slice none 0 0) [] w (fun _ => False) := own1_nil _ _
  have n2 : Own2U (.slice none 0 0) [] [] w (fun _ => False) := ⟨rfl, by simp, World.ownsRow_nil w 0 _ 1, fun i hi => by simp at hi, fun i j _ hj => by simp at hj, fun q hq => by simp [Value.ownBlock] at hq⟩
  have hd1 : ∀ k : Nat, (fun _ => False) k → S k := fun k h => h.elim
  refine ⟨_, _, _, _, _, _, _, _, _, _, [], [], rfl, ?_⟩
  have st : ∀ (i : Itm) (is : List Itm), i.p w (fun _ => False) → Star is w S → Star (i :: is) w S := fun i is h h2 => ⟨fun _ => False, S, fun k h => h.elim, fun k h => h, fun k h => h.elim, h, h2⟩
  exact st _ _ n1 (st _ _ n1 (st _ _ n1 (st _ _ n2 (st _ _ n1 (st _ _ n1 (st _ _ n1 (st _ _ n2 (st _ _ n1 (st _ _ n1 trivial)))))))))
theorem star_ownF {w : World} {S : Nat → Prop} {v : Value} {F : Fct} (h : OwnF v F w S) : ∃ (x1 x2 x3 x4 x5 x6 x7 x8 x9 x10 : Option Addr) (k1 k2 k3 k4 k5 k6 k7 k8 k9 k10 : Nat) (us ut : List Value), v = .agg #[.int .i64 F.S.ob, .slice x1 F.S.s.length k1, .slice x2 F.S.t.length k2, .slice x3 F.S.e.length k3, .slice x4 F.S.m.length k4, .int .i64 F.T.ob, .slice x5 F.T.s.length k5, .slice x6 F.T.t.length k6, .slice x7 F.T.e.length k7, .slice x8 F.T.m.length k8, .slice x9 F.o.length k9, .slice x10 F.a.length k10] ∧ Star [own1I (.slice x1 F.S.s.length k1) F.S.s, own1I (.slice x2 F.S.t.length k2) F.S.t, own1I (.slice x3 F.S.e.length k3) F.S.e, own2U (.slice x4 F.S.m.length k4) us F.S.m, own1I (.slice x5 F.T.s.length k5) F.T.s, own1I (.slice x6 F.T.t.length k6) F.T.t, own1I (.slice x7 F.T.e.length k7) F.T.e, own2U (.slice x8 F.T.m.length k8) ut F.T.m, own1I (.slice x9 F.o.length k9) F.o, own1I (.slice x10 F.a.length k10) F.a] w S := by
  obtain ⟨s1, s2, s3, s4, t1, t2, t3, t4, vo, va, us, ut, rfl, h⟩ := h
  obtain ⟨x1, k1, rfl⟩ := rd_form (starF_1 (n := 0) h rfl)
  obtain ⟨x2, k2, rfl⟩ := rd_form (starF_1 (n := 1) h rfl)
  obtain ⟨x3, k3, rfl⟩ := rd_form (starF_1 (n := 2) h rfl)
  obtain ⟨x4, k4, rfl⟩ := rd2_form (starF_2 (n := 3) h rfl)
  obtain ⟨x5, k5, rfl⟩ := rd_form (starF_1 (n := 4) h rfl)
  obtain ⟨x6, k6, rfl⟩ := rd_form (starF_1 (n := 5) h rfl)
  obtain ⟨x7, k7, rfl⟩ := rd_form (starF_1 (n := 6) h rfl)
  obtain ⟨x8, k8, rfl⟩ := rd2_form (starF_2 (n := 7) h rfl)
  obtain ⟨x9, k9, rfl⟩ := rd_form (starF_1 (n := 8) h rfl)
  obtain ⟨x10, k10, rfl⟩ := rd_form (starF_1 (n := 9) h rfl)
  exact ⟨x1, x2, x3, x4, x5, x6, x7, x8, x9, x10, k1, k2, k3, k4, k5, k6, k7, k8, k9, k10, us, ut, rfl, h⟩
def RetFI (W : World) (F : Fct) (n : Int) (e : Ending) (w' : World) : Prop := ∃ v, e = .returned (.tuple #[v, .int .i64 n]) ∧ OwnF v F w' (fun k => W.heap.size ≤ k) ∧ Below W.heap.size W w'
def RetFFI (W : World) (F G : Fct) (n : Int) (e : Ending) (w' : World) : Prop := ∃ (vf vg : Value) (S1 S2 : Nat → Prop), e = .returned (.tuple #[vf, vg, .int .i64 n]) ∧ OwnF vf F w' S1 ∧ OwnF vg G w' S2 ∧ (∀ k, S1 k → W.heap.size ≤ k) ∧ (∀ k, S2 k → W.heap.size ≤ k) ∧ (∀ k, S1 k → ¬ S2 k) ∧ Below W.heap.size W w'
def ZeroF (W : World) (n : Int) (e : Ending) (w' : World) : Prop := e = .returned (.tuple #[.agg #[.int .i64 0, .slice none 0 0, .slice none 0 0, .slice none 0 0, .slice none 0 0, .int .i64 0, .slice none 0 0, .slice none 0 0, .slice none 0 0, .slice none 0 0, .slice none 0 0, .slice none 0 0], .int .i64 n]) ∧ Below W.heap.size W w'
theorem ownF_mem {W w' : World} {F : Fct} {s1 s2 s3 s4 t1 t2 t3 t4 vo va : Value} {us ut : List Value} {is : List Itm} (M : Mem W w' (own1I s1 F.S.s :: own1I s2 F.S.t :: own1I s3 F.S.e :: own2U s4 us F.S.m :: own1I t1 F.T.s :: own1I t2 F.T.t :: own1I t3 F.T.e :: own2U t4 ut F.T.m :: own1I vo F.o :: own1I va F.a :: is)) : OwnF (.agg #[.int .i64 F.S.ob, s1, s2, s3, s4, .int .i64 F.T.ob, t1, t2, t3, t4, vo, va]) F w' (fun k => W.heap.size ≤ k) :=
  ⟨_, _, _, _, _, _, _, _, _, _, _, _, rfl, (mem_take 10 M).2⟩
theorem retFI_star {W w' : World} {F : Fct} {n : Int} {s1 s2 s3 s4 t1 t2 t3 t4 vo va : Value} {us ut : List Value} {is : List Itm} (M : Mem W w' (own1I s1 F.S.s :: own1I s2 F.S.t :: own1I s3 F.S.e :: own2U s4 us F.S.m :: own1I t1 F.T.s :: own1I t2 F.T.t :: own1I t3 F.T.e :: own2U t4 ut F.T.m :: own1I vo F.o :: own1I va F.a :: is)) : RetFI W F n (.returned (.tuple #[.agg #[.int .i64 F.S.ob, s1, s2, s3, s4, .int .i64 F.T.ob, t1, t2, t3, t4, vo, va], .int .i64 n])) w' :=
  ⟨_, rfl, ownF_mem M, M.1⟩
theorem retFn_star {W w' : World} {F : Fct} {s1 s2 s3 s4 t1 t2 t3 t4 vo va : Value} {us ut : List Value} {is : List Itm} (M : Mem W w' (own1I s1 F.S.s :: own1I s2 F.S.t :: own1I s3 F.S.e :: own2U s4 us F.S.m :: own1I t1 F.T.s :: own1I t2 F.T.t :: own1I t3 F.T.e :: own2U t4 ut F.T.m :: own1I vo F.o :: own1I va F.a :: is)) : RetFn W F (.returned (.agg #[.int .i64 F.S.ob, s1, s2, s3, s4, .int .i64 F.T.ob, t1, t2, t3, t4, vo, va])) w' :=
  ⟨_, rfl, ownF_mem M, M.1⟩
theorem retFI_zero {W w' : World} {n : Int} (hb : Below W.heap.size W w') : RetFI W fct0 n (.returned (.tuple #[.agg #[.int .i64 0, .slice none 0 0, .slice none 0 0, .slice none 0 0, .slice none 0 0, .int .i64 0, .slice none 0 0, .slice none 0 0, .slice none 0 0, .slice none 0 0, .slice none 0 0, .slice none 0 0], .int .i64 n])) w' := ⟨_, rfl, ownF_zero _ _, hb⟩
theorem retFFI_zero {W w' : World} {n : Int} (hb : Below W.heap.size W w') : RetFFI W fct0 fct0 n (.returned (.tuple #[.agg #[.int .i64 0, .slice none 0 0, .slice none 0 0, .slice none 0 0, .slice none 0 0, .int .i64 0, .slice none 0 0, .slice none 0 0, .slice none 0 0, .slice none 0 0, .slice none 0 0, .slice none 0 0], .agg #[.int .i64 0, .slice none 0 0, .slice none 0 0, .slice none 0 0, .slice none 0 0, .int .i64 0, .slice none 0 0, .slice none 0 0, .slice none 0 0, .slice none 0 0, .slice none 0 0, .slice none 0 0], .int .i64 n])) w' :=
  ⟨_, _, fun _ => False, fun _ => False, rfl, ownF_zero _ _, ownF_zero _ _, fun k h => h.elim, fun k h => h.elim, fun k h => h.elim, hb⟩
theorem ownF_starS {w : World} {S : Nat → Prop} {F : Fct} {s1 s2 s3 s4 t1 t2 t3 t4 vo va : Value} {us ut : List Value} {is : List Itm} (h : Star (own1I s1 F.S.s :: own1I s2 F.S.t :: own1I s3 F.S.e :: own2U s4 us F.S.m :: own1I t1 F.T.s :: own1I t2 F.T.t :: own1I t3 F.T.e :: own2U t4 ut F.T.m :: own1I vo F.o :: own1I va F.a :: is) w S) : OwnF (.agg #[.int .i64 F.S.ob, s1, s2, s3, s4, .int .i64 F.T.ob, t1, t2, t3, t4, vo, va]) F w S :=
  ⟨_, _, _, _, _, _, _, _, _, _, _, _, rfl, star_take _ 10 h⟩
theorem retFFI_star {W w' : World} {F G : Fct} {n : Int} {s1 s2 s3 s4 t1 t2 t3 t4 vo va p1 p2 p3 p4 q1 q2 q3 q4 wo wa : Value} {us ut vs vt : List Value} {is : List Itm} (M : Mem W w' (own1I s1 F.S.s :: own1I s2 F.S.t :: own1I s3 F.S.e :: own2U s4 us F.S.m :: own1I t1 F.T.s :: own1I t2 F.T.t :: own1I t3 F.T.e :: own2U t4 ut F.T.m :: own1I vo F.o :: own1I va F.a :: own1I p1 G.S.s :: own1I p2 G.S.t :: own1I p3 G.S.e :: own2U p4 vs G.S.m :: own1I q1 G.T.s :: own1I q2 G.T.t :: own1I q3 G.T.e :: own2U q4 vt G.T.m :: own1I wo G.o :: own1I wa G.a :: is)) :
    RetFFI W F G n (.returned (.tuple #[.agg #[.int .i64 F.S.ob, s1, s2, s3, s4, .int .i64 F.T.ob, t1, t2, t3, t4, vo, va], .agg #[.int .i64 G.S.ob, p1, p2, p3, p4, .int .i64 G.T.ob, q1, q2, q3, q4, wo, wa], .int .i64 n])) w' := by
  obtain ⟨S1, S2, k1, k2, kd, h1, h2⟩ := star_unapp [own1I s1 F.S.s, own1I s2 F.S.t, own1I s3 F.S.e, own2U s4 us F.S.m, own1I t1 F.T.s, own1I t2 F.T.t, own1I t3 F.T.e, own2U t4 ut F.T.m, own1I vo F.o, own1I va F.a] (own1I p1 G.S.s :: own1I p2 G.S.t :: own1I p3 G.S.e :: own2U p4 vs G.S.m :: own1I q1 G.T.s :: own1I q2 G.T.t :: own1I q3 G.T.e :: own2U q4 vt G.T.m :: own1I wo G.o :: own1I wa G.a :: is) M.2
  exact ⟨_, _, S1, S2, rfl, ownF_starS h1, ownF_starS h2, k1, k2, kd, M.1⟩
section
variable {w0 : World} {is : List Itm} {ops : Array Oper} {Q : Exit → Act → World → Prop} {o : Oper} {rest : List Oper} {N : Frm} {n m : Nat} {e : Env} {v u : Value} {d : Nat} {K : Act → World → Prop} {f : FuncId} {fn : Func} {ags : Array Operand} {ts : Array TypeId} {vs0 : List Value}
theorem go_callFn {F : Fct} (hd : o.dst = some d) (hN : Nat.blt d N = true) (hop : o.op = .call { callee := .value (.func f), args := ags, argTypes := ts }) (hfn : Try.prog.funcs[f]? = some fn) (hb : fn.body.isNone = false) (hn : (fn.name == "runtime.NumGoroutine") = false)
    (hargs : evoL e ags.toList = some vs0) (hc : ∀ w, Mem w0 w is → Calls Try.prog f vs0.toArray w (RetFn w F))
    (hk : ∀ x1 k1 x2 k2 x3 k3 x4 k4 x5 k5 x6 k6 x7 k7 x8 k8 x9 k9 x10 k10 us ut, GK w0 (is ++ [own1I (.slice x1 F.S.s.length k1) F.S.s, own1I (.slice x2 F.S.t.length k2) F.S.t, own1I (.slice x3 F.S.e.length k3) F.S.e, own2U (.slice x4 F.S.m.length k4) us F.S.m, own1I (.slice x5 F.T.s.length k5) F.T.s, own1I (.slice x6 F.T.t.length k6) F.T.t, own1I (.slice x7 F.T.e.length k7) F.T.e, own2U (.slice x8 F.T.m.length k8) ut F.T.m, own1I (.slice x9 F.o.length k9) F.o, own1I (.slice x10 F.a.length k10) F.a]) N K ((d, .agg #[.int .i64 F.S.ob, .slice x1 F.S.s.length k1, .slice x2 F.S.t.length k2, .slice x3 F.S.e.length k3, .slice x4 F.S.m.length k4, .int .i64 F.T.ob, .slice x5 F.T.s.length k5, .slice x6 F.T.t.length k6, .slice x7 F.T.e.length k7, .slice x8 F.T.m.length k8, .slice x9 F.o.length k9, .slice x10 F.a.length k10]) :: e)) : GO w0 is N o e Q K := by
  intro w a M _F
  refine go_call hd hN _F hop hfn hb hn hargs (hc w M) fun e' w' hR => ?_
  obtain ⟨v, rfl, hs, hbl⟩ := hR
  obtain ⟨x1, x2, x3, x4, x5, x6, x7, x8, x9, x10, k1, k2, k3, k4, k5, k6, k7, k8, k9, k10, us, ut, rfl, hst⟩ := star_ownF hs
  exact ⟨_, rfl, fun a F => hk x1 k1 x2 k2 x3 k3 x4 k4 x5 k5 x6 k6 x7 k7 x8 k8 x9 k9 x10 k10 us ut w' a (mem_news M hbl hst) F⟩
theorem go_callFI {F : Fct} {n : Int} (hd : o.dst = some d) (hN : Nat.blt d N = true) (hop : o.op = .call { callee := .value (.func f), args := ags, argTypes := ts }) (hfn : Try.prog.funcs[f]? = some fn) (hb : fn.body.isNone = false) (hn : (fn.name == "runtime.NumGoroutine") = false)
    (hargs : evoL e ags.toList = some vs0) (hc : ∀ w, Mem w0 w is → Calls Try.prog f vs0.toArray w (RetFI w F n))
    (hk : ∀ x1 k1 x2 k2 x3 k3 x4 k4 x5 k5 x6 k6 x7 k7 x8 k8 x9 k9 x10 k10 us ut, GK w0 (is ++ [own1I (.slice x1 F.S.s.length k1) F.S.s, own1I (.slice x2 F.S.t.length k2) F.S.t, own1I (.slice x3 F.S.e.length k3) F.S.e, own2U (.slice x4 F.S.m.length k4) us F.S.m, own1I (.slice x5 F.T.s.length k5) F.T.s, own1I (.slice x6 F.T.t.length k6) F.T.t, own1I (.slice x7 F.T.e.length k7) F.T.e, own2U (.slice x8 F.T.m.length k8) ut F.T.m, own1I (.slice x9 F.o.length k9) F.o, own1I (.slice x10 F.a.length k10) F.a]) N K ((d, .tuple #[.agg #[.int .i64 F.S.ob, .slice x1 F.S.s.length k1, .slice x2 F.S.t.length k2, .slice x3 F.S.e.length k3, .slice x4 F.S.m.length k4, .int .i64 F.T.ob, .slice x5 F.T.s.length k5, .slice x6 F.T.t.length k6, .slice x7 F.T.e.length k7, .slice x8 F.T.m.length k8, .slice x9 F.o.length k9, .slice x10 F.a.length k10], .int .i64 n]) :: e)) : GO w0 is N o e Q K := by
  intro w a M _F
  refine go_call hd hN _F hop hfn hb hn hargs (hc w M) fun e' w' hR => ?_
  obtain ⟨v, rfl, hs, hbl⟩ := hR
  obtain ⟨x1, x2, x3, x4, x5, x6, x7, x8, x9, x10, k1, k2, k3, k4, k5, k6, k7, k8, k9, k10, us, ut, rfl, hst⟩ := star_ownF hs
  exact ⟨_, rfl, fun a F => hk x1 k1 x2 k2 x3 k3 x4 k4 x5 k5 x6 k6 x7 k7 x8 k8 x9 k9 x10 k10 us ut w' a (mem_news M hbl hst) F⟩
theorem go_callVFI {F : Fct} {n : Int} {x : Operand} (hd : o.dst = some d) (hN : Nat.blt d N = true) (hop : o.op = .call { callee := .value x, args := ags, argTypes := ts }) (hx : evo e x = some u)
    (hargs : evoL e ags.toList = some vs0) (hc : ∀ w, Mem w0 w is → CallsV u vs0 w (RetFI w F n))
    (hk : ∀ x1 k1 x2 k2 x3 k3 x4 k4 x5 k5 x6 k6 x7 k7 x8 k8 x9 k9 x10 k10 us ut, GK w0 (is ++ [own1I (.slice x1 F.S.s.length k1) F.S.s, own1I (.slice x2 F.S.t.length k2) F.S.t, own1I (.slice x3 F.S.e.length k3) F.S.e, own2U (.slice x4 F.S.m.length k4) us F.S.m, own1I (.slice x5 F.T.s.length k5) F.T.s, own1I (.slice x6 F.T.t.length k6) F.T.t, own1I (.slice x7 F.T.e.length k7) F.T.e, own2U (.slice x8 F.T.m.length k8) ut F.T.m, own1I (.slice x9 F.o.length k9) F.o, own1I (.slice x10 F.a.length k10) F.a]) N K ((d, .tuple #[.agg #[.int .i64 F.S.ob, .slice x1 F.S.s.length k1, .slice x2 F.S.t.length k2, .slice x3 F.S.e.length k3, .slice x4 F.S.m.length k4, .int .i64 F.T.ob, .slice x5 F.T.s.length k5, .slice x6 F.T.t.length k6, .slice x7 F.T.e.length k7, .slice x8 F.T.m.length k8, .slice x9 F.o.length k9, .slice x10 F.a.length k10], .int .i64 n]) :: e)) : GO w0 is N o e Q K := by
  intro w a M _F
  refine go_callV hd hN _F hop hx hargs (hc w M) fun e' w' hR => ?_
  obtain ⟨v, rfl, hs, hbl⟩ := hR
  obtain ⟨x1, x2, x3, x4, x5, x6, x7, x8, x9, x10, k1, k2, k3, k4, k5, k6, k7, k8, k9, k10, us, ut, rfl, hst⟩ := star_ownF hs
  exact ⟨_, rfl, fun a F => hk x1 k1 x2 k2 x3 k3 x4 k4 x5 k5 x6 k6 x7 k7 x8 k8 x9 k9 x10 k10 us ut w' a (mem_news M hbl hst) F⟩
theorem go_callFFI {F G : Fct} {n : Int} (hd : o.dst = some d) (hN : Nat.blt d N = true) (hop : o.op = .call { callee := .value (.func f), args := ags, argTypes := ts }) (hfn : Try.prog.funcs[f]? = some fn) (hb : fn.body.isNone = false) (hn : (fn.name == "runtime.NumGoroutine") = false)
    (hargs : evoL e ags.toList = some vs0) (hc : ∀ w, Mem w0 w is → Calls Try.prog f vs0.toArray w (RetFFI w F G n))
    (hk : ∀ x1 k1 x2 k2 x3 k3 x4 k4 x5 k5 x6 k6 x7 k7 x8 k8 x9 k9 x10 k10 us ut y1 j1 y2 j2 y3 j3 y4 j4 y5 j5 y6 j6 y7 j7 y8 j8 y9 j9 y10 j10 vs vt, GK w0 (is ++ [own1I (.slice x1 F.S.s.length k1) F.S.s, own1I (.slice x2 F.S.t.length k2) F.S.t, own1I (.slice x3 F.S.e.length k3) F.S.e, own2U (.slice x4 F.S.m.length k4) us F.S.m, own1I (.slice x5 F.T.s.length k5) F.T.s, own1I (.slice x6 F.T.t.length k6) F.T.t, own1I (.slice x7 F.T.e.length k7) F.T.e, own2U (.slice x8 F.T.m.length k8) ut F.T.m, own1I (.slice x9 F.o.length k9) F.o, own1I (.slice x10 F.a.length k10) F.a, own1I (.slice y1 G.S.s.length j1) G.S.s, own1I (.slice y2 G.S.t.length j2) G.S.t, own1I (.slice y3 G.S.e.length j3) G.S.e, own2U (.slice y4 G.S.m.length j4) vs G.S.m, own1I (.slice y5 G.T.s.length j5) G.T.s, own1I (.slice y6 G.T.t.length j6) G.T.t, own1I (.slice y7 G.T.e.length j7) G.T.e, own2U (.slice y8 G.T.m.length j8) vt G.T.m, own1I (.slice y9 G.o.length j9) G.o, own1I (.slice y10 G.a.length j10) G.a]) N K ((d, .tuple #[.agg #[.int .i64 F.S.ob, .slice x1 F.S.s.length k1, .slice x2 F.S.t.length k2, .slice x3 F.S.e.length k3, .slice x4 F.S.m.length k4, .int .i64 F.T.ob, .slice x5 F.T.s.length k5, .slice x6 F.T.t.length k6, .slice x7 F.T.e.length k7, .slice x8 F.T.m.length k8, .slice x9 F.o.length k9, .slice x10 F.a.length k10], .agg #[.int .i64 G.S.ob, .slice y1 G.S.s.length j1, .slice y2 G.S.t.length j2, .slice y3 G.S.e.length j3, .slice y4 G.S.m.length j4, .int .i64 G.T.ob, .slice y5 G.T.s.length j5, .slice y6 G.T.t.length j6, .slice y7 G.T.e.length j7, .slice y8 G.T.m.length j8, .slice y9 G.o.length j9, .slice y10 G.a.length j10], .int .i64 n]) :: e)) : GO w0 is N o e Q K := by
  intro w a M _F
  refine go_call hd hN _F hop hfn hb hn hargs (hc w M) fun e' w' hR => ?_
  obtain ⟨vf, vg, S1, S2, rfl, h1, h2, s1, s2, sd, hbl⟩ := hR
  obtain ⟨x1, x2, x3, x4, x5, x6, x7, x8, x9, x10, k1, k2, k3, k4, k5, k6, k7, k8, k9, k10, us, ut, rfl, hst⟩ := star_ownF h1
  obtain ⟨y1, y2, y3, y4, y5, y6, y7, y8, y9, y10, j1, j2, j3, j4, j5, j6, j7, j8, j9, j10, vs, vt, rfl, hst'⟩ := star_ownF h2
  exact ⟨_, rfl, fun a F => hk x1 k1 x2 k2 x3 k3 x4 k4 x5 k5 x6 k6 x7 k7 x8 k8 x9 k9 x10 k10 us ut y1 j1 y2 j2 y3 j3 y4 j4 y5 j5 y6 j6 y7 j7 y8 j8 y9 j9 y10 j10 vs vt w' a (mem_news M hbl (star_app _ _ s1 s2 sd hst hst')) F⟩
end
theorem retFFI_half {W w' : World} {F : Fct} {n : Int} {s1 s2 s3 s4 t1 t2 t3 t4 vo va : Value} {us ut : List Value} {is : List Itm} (M : Mem W w' (own1I s1 F.S.s :: own1I s2 F.S.t :: own1I s3 F.S.e :: own2U s4 us F.S.m :: own1I t1 F.T.s :: own1I t2 F.T.t :: own1I t3 F.T.e :: own2U t4 ut F.T.m :: own1I vo F.o :: own1I va F.a :: is)) : RetFFI W F fct0 n (.returned (.tuple #[.agg #[.int .i64 F.S.ob, s1, s2, s3, s4, .int .i64 F.T.ob, t1, t2, t3, t4, vo, va], .agg #[.int .i64 0, .slice none 0 0, .slice none 0 0, .slice none 0 0, .slice none 0 0, .int .i64 0, .slice none 0 0, .slice none 0 0, .slice none 0 0, .slice none 0 0, .slice none 0 0, .slice none 0 0], .int .i64 n])) w' :=
  ⟨_, _, _, fun _ => False, rfl, ownF_starS M.2, ownF_zero _ _, fun k h => h, fun k h => h.elim, fun k _ h => h, M.1⟩
theorem retFI_of0 {W w' : World} {n : Int} {e : Ending} (h : ZeroF W n e w') : RetFI W fct0 n e w' := by rw [h.1]; exact retFI_zero h.2
theorem bt_Functor {ob ob' : Int} {a1 a2 a3 a4 a5 a6 a7 a8 a9 a10 : Option Addr} {n1 n2 n3 n4 n5 n6 n7 n8 n9 n10 k1 k2 k3 k4 k5 k6 k7 k8 k9 k10 : Nat} : Try.prog.built 32 [(0, .agg #[.int .i64 ob, .slice a1 n1 k1, .slice a2 n2 k2, .slice a3 n3 k3, .slice a4 n4 k4]), (1, .agg #[.int .i64 ob', .slice a5 n5 k5, .slice a6 n6 k6, .slice a7 n7 k7, .slice a8 n8 k8]), (2, .slice a9 n9 k9), (3, .slice a10 n10 k10)] = some #[.int .i64 ob, .slice a1 n1 k1, .slice a2 n2 k2, .slice a3 n3 k3, .slice a4 n4 k4, .int .i64 ob', .slice a5 n5 k5, .slice a6 n6 k6, .slice a7 n7 k7, .slice a8 n8 k8, .slice a9 n9 k9, .slice a10 n10 k10] := by kernel_rfl
theorem bt0_Functor : Try.prog.built 32 [] = some #[.int .i64 0, .slice none 0 0, .slice none 0 0, .slice none 0 0, .slice none 0 0, .int .i64 0, .slice none 0 0, .slice none 0 0, .slice none 0 0, .slice none 0 0, .slice none 0 0, .slice none 0 0] := by kernel_rfl

end Go.Proofs.Ytfnneogadciimab
