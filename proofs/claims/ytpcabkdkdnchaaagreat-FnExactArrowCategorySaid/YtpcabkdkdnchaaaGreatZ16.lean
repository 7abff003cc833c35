import Derived.Test.YtpcabkdkdnchaaaGreatZ12
import Derived.Test.YtpcabkdkdnchaaaGreatZ15
set_option linter.unusedSimpArgs false
set_option linter.unusedVariables false
set_option linter.unusedSectionVars false
namespace Go.Proofs.YtpcabkdkdnchaaaGreat
open Go.RowKit
theorem mem_block {w0 w : World} {is : List Itm} (k n : Nat) (M : Mem w0 w is) : Mem w0 w ((is.drop k).take n ++ (is.take k ++ (is.drop k).drop n)) := by
  refine mem_perm ?_ M
  have h : (is.take k ++ ((is.drop k).take n ++ (is.drop k).drop n)).Perm ((is.drop k).take n ++ (is.take k ++ (is.drop k).drop n)) := by
    rw [← List.append_assoc, ← List.append_assoc]; exact List.perm_append_comm.append_right _
  rwa [List.take_append_drop, List.take_append_drop] at h
def fct0 : Fct := ⟨cat0, cat0, [], []⟩
theorem ownF_zero (w : World) (S : Nat → Prop) : OwnF (.agg #[.int .i64 0, .slice none 0 0, .slice none 0 0, .slice none 0 0, .slice none 0 0, .int .i64 0, .slice none 0 0, .slice none 0 0, .slice none 0 0, .slice none 0 0, .slice none 0 0, .slice none 0 0]) fct0 w S := by
  have n1 : Own1 (.slice none 0 0) [] w (fun _ => False) := own1_nil _ _
  have n2 : Own2U (.slice none 0 0) [] [] w (fun _ => False) := ⟨rfl, by simp, World.ownsRow_nil w 0 _ 1, fun i hi => by simp at hi, fun i j _ hj => by simp at hj, fun q hq => by simp [Value.ownBlock] at hq⟩
  have hd1 : ∀ k : Nat, (fun _ => False) k → S k := fun k h => h.elim
  refine ⟨_, _, _, _, _, _, _, _, _, _, [], [], rfl, ?_⟩
  have st : ∀ (i : Itm) (is : List Itm), i.p w (fun _ => False) → Star is w S → Star (i :: is) w S := fun i is h h2 => ⟨fun _ => False, S, fun k h => h.elim, fun k h => h, fun k h => h.elim, h, h2⟩
  exact st _ _ n1 (st _ _ n1 (st _ _ n1 (st _ _ n2 (st _ _ n1 (st _ _ n1 (st _ _ n1 (st _ _ n2 (st _ _ n1 (st _ _ n1 trivial)))))))))
theorem star_ownF {w : World} {S : Nat → Prop} {v : Value} {F : Fct} (h : OwnF v F w S) : ∃ (x1 x2 x3 x4 x5 x6 x7 x8 x9 x10 : Option Addr) (k1 k2 k3 k4 k5 k6 k7 k8 k9 k10 : Nat) (us ut : List Value), v = .agg #[.int .i64 F.S.ob, .slice x1 F.S.s.length k1, .slice x2 F.S.t.length k2, .slice x3 F.S.e.length k3, .slice x4 F.S.m.length k4, .int .i64 F.T.ob, .slice x5 F.T.s.length k5, .slice x6 F.T.t.length k6, .slice x7 F.T.e.length k7, .slice x8 F.T.m.length k8, .slice x9 F.o.length k9, .slice x10 F.a.length k10] ∧ Star [own1I (.slice x1 F.S.s.length k1) F.S.s, own1I (.slice x2 F.S.t.length k2) F.S.t, own1I (.slice x3 F.S.e.length k3) F.S.e, own2U (.slice x4 F.S.m.length k4) us F.S.m, own1I (.slice x5 F.T.s.length k5) F.T.s, own1I (.slice x6 F.T.t.length k6) F.T.t, own1I (.slice x7 F.T.e.length k7) F.T.e, own2U (.slice x8 F.T.m.length k8) ut F.T.m, own1I (.slice x9 F.o.length k9) F.o, own1I (.slice x10 F.a.length k10) F.a] w S := by
  obtain ⟨s1, s2, s3, s4, t1, t2, t3, t4, vo, va, us, ut, rfl, h⟩ := h
  obtain ⟨x1, k1, rfl⟩ := rd_form (starF_1 (n := 0) h rfl)
  obtain ⟨x2, k2, rfl⟩ := rd_form (starF_1 (n := 1) h rfl)
  obtain ⟨x3, k3, rfl⟩ := rd_form (starF_1 (n := 2) h rfl)
  obtain ⟨x4, k4, rfl⟩ := rd2_form (starF_2 (n := 3) h rfl)
  obtain ⟨x5, k5, rfl⟩ := rd_form (starF_1 (n := 4) h rfl)
  obtain ⟨x6, k6, rfl⟩ := rd_form (starF_1 (n := 5) h rfl)
  obtain ⟨x7, k7, rfl⟩ := rd_form (starF_1 (n := 6) h rfl)
  obtain ⟨x8, k8, rfl⟩ := rd2_form (starF_2 (n := 7) h rfl)
  obtain ⟨x9, k9, rfl⟩ := rd_form (starF_1 (n := 8) h rfl)
  obtain ⟨x10, k10, rfl⟩ := rd_form (starF_1 (n := 9) h rfl)
  exact ⟨x1, x2, x3, x4, x5, x6, x7, x8, x9, x10, k1, k2, k3, k4, k5, k6, k7, k8, k9, k10, us, ut, rfl, h⟩
def RetFI (W : World) (F : Fct) (n : Int) (e : Ending) (w' : World) : Prop := ∃ v, e = .returned (.tuple #[v, .int .i64 n]) ∧ OwnF v F w' (fun k => W.heap.size ≤ k) ∧ Below W.heap.size W w'
def RetFFI (W : World) (F G : Fct) (n : Int) (e : Ending) (w' : World) : Prop := ∃ (vf vg : Value) (S1 S2 : Nat → Prop), e = .returned (.tuple #[vf, vg, .int .i64 n]) ∧ OwnF vf F w' S1 ∧ OwnF vg G w' S2 ∧ (∀ k, S1 k → W.heap.size ≤ k) ∧ (∀ k, S2 k → W.heap.size ≤ k) ∧ (∀ k, S1 k → ¬ S2 k) ∧ Below W.heap.size W w'
def ZeroF (W : World) (n : Int) (e : Ending) (w' : World) : Prop := e = .returned (.tuple #[.agg #[.int .i64 0, .slice none 0 0, .slice none 0 0, .slice none 0 0, .slice none 0 0, .int .i64 0, .slice none 0 0, .slice none 0 0, .slice none 0 0, .slice none 0 0, .slice none 0 0, .slice none 0 0], .int .i64 n]) ∧ Below W.heap.size W w'
theorem ownF_mem {W w' : World} {F : Fct} {s1 s2 s3 s4 t1 t2 t3 t4 vo va : Value} {us ut : List Value} {is : List Itm} (M : Mem W w' (own1I s1 F.S.s :: own1I s2 F.S.t :: own1I s3 F.S.e :: own2U s4 us F.S.m :: own1I t1 F.T.s :: own1I t2 F.T.t :: own1I t3 F.T.e :: own2U t4 ut F.T.m :: own1I vo F.o :: own1I va F.a :: is)) : OwnF (.agg #[.int .i64 F.S.ob, s1, s2, s3, s4, .int .i64 F.T.ob, t1, t2, t3, t4, vo, va]) F w' (fun k => W.heap.size ≤ k) :=
  ⟨_, _, _, _, _, _, _, _, _, _, _, _, rfl, (mem_take 10 M).2⟩
theorem retFI_star {W w' : World} {F : Fct} {n : Int} {s1 s2 s3 s4 t1 t2 t3 t4 vo va : Value} {us ut : List Value} {is : List Itm} (M : Mem W w' (own1I s1 F.S.s :: own1I s2 F.S.t :: own1I s3 F.S.e :: own2U s4 us F.S.m :: own1I t1 F.T.s :: own1I t2 F.T.t :: own1I t3 F.T.e :: own2U t4 ut F.T.m :: own1I vo F.o :: own1I va F.a :: is)) : RetFI W F n (.returned (.tuple #[.agg #[.int .i64 F.S.ob, s1, s2, s3, s4, .int .i64 F.T.ob, t1, t2, t3, t4, vo, va], .int .i64 n])) w' :=
  ⟨_, rfl, ownF_mem M, M.1⟩
theorem retFn_star {W w' : World} {F : Fct} {s1 s2 s3 s4 t1 t2 t3 t4 vo va : Value} {us ut : List Value} {is : List Itm} (M : Mem W w' (own1I s1 F.S.s :: own1I s2 F.S.t :: own1I s3 F.S.e :: own2U s4 us F.S.m :: own1I t1 F.T.s :: own1I t2 F.T.t :: own1I t3 F.T.e :: own2U t4 ut F.T.m :: own1I vo F.o :: own1I va F.a :: is)) : RetFn W F (.returned (.agg #[.int .i64 F.S.ob, s1, s2, s3, s4, .int .i64 F.T.ob, t1, t2, t3, t4, vo, va])) w' :=
  ⟨_, rfl, ownF_mem M, M.1⟩
theorem retFI_zero {W w' : World} {n : Int} (hb : Below W.heap.size W w') : RetFI W fct0 n (.returned (.tuple #[.agg #[.int .i64 0, .slice none 0 0, .slice none 0 0, .slice none 0 0, .slice none 0 0, .int .i64 0, .slice none 0 0, .slice none 0 0, .slice none 0 0, .slice none 0 0, .slice none 0 0, .slice none 0 0], .int .i64 n])) w' := ⟨_, rfl, ownF_zero _ _, hb⟩
theorem retFFI_zero {W w' : World} {n : Int} (hb : Below W.heap.size W w') : RetFFI W fct0 fct0 n (.returned (.tuple #[.agg #[.int .i64 0, .slice none 0 0, .slice none 0 0, .slice none 0 0, .slice none 0 0, .int .i64 0, .slice none 0 0, .slice none 0 0, .slice none 0 0, .slice none 0 0, .slice none 0 0, .slice none 0 0], .agg #[.int .i64 0, .slice none 0 0, .slice none 0 0, .slice none 0 0, .slice none 0 0, .int .i64 0, .slice none 0 0, .slice none 0 0, .slice none 0 0, .slice none 0 0, .slice none 0 0, .slice none 0 0], .int .i64 n])) w' :=
  ⟨_, _, fun _ => False, fun _ => False, rfl, ownF_zero _ _, ownF_zero _ _, fun k h => h.elim, fun k h => h.elim, fun k h => h.elim, hb⟩
theorem ownF_starS {w : World} {S : Nat → Prop} {F : Fct} {s1 s2 s3 s4 t1 t2 t3 t4 vo va : Value} {us ut : List Value} {is : List Itm} (h : Star (own1I s1 F.S.s :: own1I s2 F.S.t :: own1I s3 F.S.e :: own2U s4 us F.S.m :: own1I t1 F.T.s :: own1I t2 F.T.t :: own1I t3 F.T.e :: own2U t4 ut F.T.m :: own1I vo F.o :: own1I va F.a :: is) w S) : OwnF (.agg #[.int .i64 F.S.ob, s1, s2, s3, s4, .int .i64 F.T.ob, t1, t2, t3, t4, vo, va]) F w S :=
  ⟨_, _, _, _, _, _, _, _, _, _, _, _, rfl, star_take _ 10 h⟩
theorem retFFI_star {W w' : World} {F G : Fct} {n : Int} {s1 s2 s3 s4 t1 t2 t3 t4 vo va p1 p2 p3 p4 q1 q2 q3 q4 wo wa : Value} {us ut vs vt : List Value} {is : List Itm} (M : Mem W w' (own1I s1 F.S.s :: own1I s2 F.S.t :: own1I s3 F.S.e :: own2U s4 us F.S.m :: own1I t1 F.T.s :: own1I t2 F.T.t :: own1I t3 F.T.e :: own2U t4 ut F.T.m :: own1I vo F.o :: own1I va F.a :: own1I p1 G.S.s :: own1I p2 G.S.t :: own1I p3 G.S.e :: own2U p4 vs G.S.m :: own1I q1 G.T.s :: own1I q2 G.T.t :: own1I q3 G.T.e :: own2U q4 vt G.T.m :: own1I wo G.o :: own1I wa G.a :: is)) :
    RetFFI W F G n (.returned (.tuple #[.agg #[.int .i64 F.S.ob, s1, s2, s3, s4, .int .i64 F.T.ob, t1, t2, t3, t4, vo, va], .agg #[.int .i64 G.S.ob, p1, p2, p3, p4, .int .i64 G.T.ob, q1, q2, q3, q4, wo, wa], .int .i64 n])) w' := by
  obtain ⟨S1, S2, k1, k2, kd, h1, h2⟩ := star_unapp [own1I s1 F.S.s, own1I s2 F.S.t, own1I s3 F.S.e, own2U s4 us F.S.m, own1I t1 F.T.s, own1I t2 F.T.t, own1I t3 F.T.e, own2U t4 ut F.T.m, own1I vo F.o, own1I va F.a] (own1I p1 G.S.s :: own1I p2 G.S.t :: own1I p3 G.S.e :: own2U p4 vs G.S.m :: own1I q1 G.T.s :: own1I q2 G.T.t :: own1I q3 G.T.e :: own2U q4 vt G.T.m :: own1I wo G.o :: own1I wa G.a :: is) M.2
  exact ⟨_, _, S1, S2, rfl, ownF_starS h1, ownF_starS h2, k1, k2, kd, M.1⟩
section
variable {w0 : World} {is : List Itm} {ops : Array Oper} {Q : Exit → Act → World → Prop} {o : Oper} {rest : List Oper} {N : Frm} {n m : Nat} {e : Env} {v u : Value} {d : Nat} {K : Act → World → Prop} {f : FuncId} {fn : Func} {ags : Array Operand} {ts : Array TypeId} {vs0 : List Value}
theorem go_callFn {F : Fct} (hd : o.dst = some d) (hN : Nat.blt d N = true) (hop : o.op = .call { callee := .value (.func f), args := ags, argTypes := ts }) (hfn : Tryz.prog.funcs[f]? = some fn) (hb : fn.body.isNone = false) (hn : (fn.name == "runtime.NumGoroutine") = false)
    (hargs : evoL e ags.toList = some vs0) (hc : ∀ w, Mem w0 w is → Calls Tryz.prog f vs0.toArray w (RetFn w F))
    (hk : ∀ x1 k1 x2 k2 x3 k3 x4 k4 x5 k5 x6 k6 x7 k7 x8 k8 x9 k9 x10 k10 us ut, GK w0 (is ++ [own1I (.slice x1 F.S.s.length k1) F.S.s, own1I (.slice x2 F.S.t.length k2) F.S.t, own1I (.slice x3 F.S.e.length k3) F.S.e, own2U (.slice x4 F.S.m.length k4) us F.S.m, own1I (.slice x5 F.T.s.length k5) F.T.s, own1I (.slice x6 F.T.t.length k6) F.T.t, own1I (.slice x7 F.T.e.length k7) F.T.e, own2U (.slice x8 F.T.m.length k8) ut F.T.m, own1I (.slice x9 F.o.length k9) F.o, own1I (.slice x10 F.a.length k10) F.a]) N K ((d, .agg #[.int .i64 F.S.ob, .slice x1 F.S.s.length k1, .slice x2 F.S.t.length k2, .slice x3 F.S.e.length k3, .slice x4 F.S.m.length k4, .int .i64 F.T.ob, .slice x5 F.T.s.length k5, .slice x6 F.T.t.length k6, .slice x7 F.T.e.length k7, .slice x8 F.T.m.length k8, .slice x9 F.o.length k9, .slice x10 F.a.length k10]) :: e)) : GO w0 is N o e Q K := by
  intro w a M _F
  refine go_call hd hN _F hop hfn hb hn hargs (hc w M) fun e' w' hR => ?_
  obtain ⟨v, rfl, hs, hbl⟩ := hR
  obtain ⟨x1, x2, x3, x4, x5, x6, x7, x8, x9, x10, k1, k2, k3, k4, k5, k6, k7, k8, k9, k10, us, ut, rfl, hst⟩ := star_ownF hs
  exact ⟨_, rfl, fun a F => hk x1 k1 x2 k2 x3 k3 x4 k4 x5 k5 x6 k6 x7 k7 x8 k8 x9 k9 x10 k10 us ut w' a (mem_news M hbl hst) F⟩
theorem go_callFI {F : Fct} {n : Int} (hd : o.dst = some d) (hN : Nat.blt d N = true) (hop : o.op = .call { callee := .value (.func f), args := ags, argTypes := ts }) (hfn : Tryz.prog.funcs[f]? = some fn) (hb : fn.body.isNone = false) (hn : (fn.name == "runtime.NumGoroutine") = false)
    (hargs : evoL e ags.toList = some vs0) (hc : ∀ w, Mem w0 w is → Calls Tryz.prog f vs0.toArray w (RetFI w F n))
    (hk : ∀ x1 k1 x2 k2 x3 k3 x4 k4 x5 k5 x6 k6 x7 k7 x8 k8 x9 k9 x10 k10 us ut, GK w0 (is ++ [own1I (.slice x1 F.S.s.length k1) F.S.s, own1I (.slice x2 F.S.t.length k2) F.S.t, own1I (.slice x3 F.S.e.length k3) F.S.e, own2U (.slice x4 F.S.m.length k4) us F.S.m, own1I (.slice x5 F.T.s.length k5) F.T.s, own1I (.slice x6 F.T.t.length k6) F.T.t, own1I (.slice x7 F.T.e.length k7) F.T.e, own2U (.slice x8 F.T.m.length k8) ut F.T.m, own1I (.slice x9 F.o.length k9) F.o, own1I (.slice x10 F.a.length k10) F.a]) N K ((d, .tuple #[.agg #[.int .i64 F.S.ob, .slice x1 F.S.s.length k1, .slice x2 F.S.t.length k2, .slice x3 F.S.e.length k3, .slice x4 F.S.m.length k4, .int .i64 F.T.ob, .slice x5 F.T.s.length k5, .slice x6 F.T.t.length k6, .slice x7 F.T.e.length k7, .slice x8 F.T.m.length k8, .slice x9 F.o.length k9, .slice x10 F.a.length k10], .int .i64 n]) :: e)) : GO w0 is N o e Q K := by
  intro w a M _F
  refine go_call hd hN _F hop hfn hb hn hargs (hc w M) fun e' w' hR => ?_
  obtain ⟨v, rfl, hs, hbl⟩ := hR
  obtain ⟨x1, x2, x3, x4, x5, x6, x7, x8, x9, x10, k1, k2, k3, k4, k5, k6, k7, k8, k9, k10, us, ut, rfl, hst⟩ := star_ownF hs
  exact ⟨_, rfl, fun a F => hk x1 k1 x2 k2 x3 k3 x4 k4 x5 k5 x6 k6 x7 k7 x8 k8 x9 k9 x10 k10 us ut w' a (mem_news M hbl hst) F⟩
theorem go_callVFI {F : Fct} {n : Int} {x : Operand} (hd : o.dst = some d) (hN : Nat.blt d N = true) (hop : o.op = .call { callee := .value x, args := ags, argTypes := ts }) (hx : evo e x = some u)
    (hargs : evoL e ags.toList = some vs0) (hc : ∀ w, Mem w0 w is → CallsV u vs0 w (RetFI w F n))
    (hk : ∀ x1 k1 x2 k2 x3 k3 x4 k4 x5 k5 x6 k6 x7 k7 x8 k8 x9 k9 x10 k10 us ut, GK w0 (is ++ [own1I (.slice x1 F.S.s.length k1) F.S.s, own1I (.slice x2 F.S.t.length k2) F.S.t, own1I (.slice x3 F.S.e.length k3) F.S.e, own2U (.slice x4 F.S.m.length k4) us F.S.m, own1I (.slice x5 F.T.s.length k5) F.T.s, own1I (.slice x6 F.T.t.length k6) F.T.t, own1I (.slice x7 F.T.e.length k7) F.T.e, own2U (.slice x8 F.T.m.length k8) ut F.T.m, own1I (.slice x9 F.o.length k9) F.o, own1I (.slice x10 F.a.length k10) F.a]) N K ((d, .tuple #[.agg #[.int .i64 F.S.ob, .slice x1 F.S.s.length k1, .slice x2 F.S.t.length k2, .slice x3 F.S.e.length k3, .slice x4 F.S.m.length k4, .int .i64 F.T.ob, .slice x5 F.T.s.length k5, .slice x6 F.T.t.length k6, .slice x7 F.T.e.length k7, .slice x8 F.T.m.length k8, .slice x9 F.o.length k9, .slice x10 F.a.length k10], .int .i64 n]) :: e)) : GO w0 is N o e Q K := by
  intro w a M _F
  refine go_callV hd hN _F hop hx hargs (hc w M) fun e' w' hR => ?_
  obtain ⟨v, rfl, hs, hbl⟩ := hR
  obtain ⟨x1, x2, x3, x4, x5, x6, x7, x8, x9, x10, k1, k2, k3, k4, k5, k6, k7, k8, k9, k10, us, ut, rfl, hst⟩ := star_ownF hs
  exact ⟨_, rfl, fun a F => hk x1 k1 x2 k2 x3 k3 x4 k4 x5 k5 x6 k6 x7 k7 x8 k8 x9 k9 x10 k10 us ut w' a (mem_news M hbl hst) F⟩
theorem go_callFFI {F G : Fct} {n : Int} (hd : o.dst = some d) (hN : Nat.blt d N = true) (hop : o.op = .call { callee := .value (.func f), args := ags, argTypes := ts }) (hfn : Tryz.prog.funcs[f]? = some fn) (hb : fn.body.isNone = false) (hn : (fn.name == "runtime.NumGoroutine") = false)
    (hargs : evoL e ags.toList = some vs0) (hc : ∀ w, Mem w0 w is → Calls Tryz.prog f vs0.toArray w (RetFFI w F G n))
    (hk : ∀ x1 k1 x2 k2 x3 k3 x4 k4 x5 k5 x6 k6 x7 k7 x8 k8 x9 k9 x10 k10 us ut y1 j1 y2 j2 y3 j3 y4 j4 y5 j5 y6 j6 y7 j7 y8 j8 y9 j9 y10 j10 vs vt, GK w0 (is ++ [own1I (.slice x1 F.S.s.length k1) F.S.s, own1I (.slice x2 F.S.t.length k2) F.S.t, own1I (.slice x3 F.S.e.length k3) F.S.e, own2U (.slice x4 F.S.m.length k4) us F.S.m, own1I (.slice x5 F.T.s.length k5) F.T.s, own1I (.slice x6 F.T.t.length k6) F.T.t, own1I (.slice x7 F.T.e.length k7) F.T.e, own2U (.slice x8 F.T.m.length k8) ut F.T.m, own1I (.slice x9 F.o.length k9) F.o, own1I (.slice x10 F.a.length k10) F.a, own1I (.slice y1 G.S.s.length j1) G.S.s, own1I (.slice y2 G.S.t.length j2) G.S.t, own1I (.slice y3 G.S.e.length j3) G.S.e, own2U (.slice y4 G.S.m.length j4) vs G.S.m, own1I (.slice y5 G.T.s.length j5) G.T.s, own1I (.slice y6 G.T.t.length j6) G.T.t, own1I (.slice y7 G.T.e.length j7) G.T.e, own2U (.slice y8 G.T.m.length j8) vt G.T.m, own1I (.slice y9 G.o.length j9) G.o, own1I (.slice y10 G.a.length j10) G.a]) N K ((d, .tuple #[.agg #[.int .i64 F.S.ob, .slice x1 F.S.s.length k1, .slice x2 F.S.t.length k2, .slice x3 F.S.e.length k3, .slice x4 F.S.m.length k4, .int .i64 F.T.ob, .slice x5 F.T.s.length k5, .slice x6 F.T.t.length k6, .slice x7 F.T.e.length k7, .slice x8 F.T.m.length k8, .slice x9 F.o.length k9, .slice x10 F.a.length k10], .agg #[.int .i64 G.S.ob, .slice y1 G.S.s.length j1, .slice y2 G.S.t.length j2, .slice y3 G.S.e.length j3, .slice y4 G.S.m.length j4, .int .i64 G.T.ob, .slice y5 G.T.s.length j5, .slice y6 G.T.t.length j6, .slice y7 G.T.e.length j7, .slice y8 G.T.m.length j8, .slice y9 G.o.length j9, .slice y10 G.a.length j10], .int .i64 n]) :: e)) : GO w0 is N o e Q K := by
  intro w a M _F
  refine go_call hd hN _F hop hfn hb hn hargs (hc w M) fun e' w' hR => ?_
  obtain ⟨vf, vg, S1, S2, rfl, h1, h2, s1, s2, sd, hbl⟩ := hR
  obtain ⟨x1, x2, x3, x4, x5, x6, x7, x8, x9, x10, k1, k2, k3, k4, k5, k6, k7, k8, k9, k10, us, ut, rfl, hst⟩ := star_ownF h1
  obtain ⟨y1, y2, y3, y4, y5, y6, y7, y8, y9, y10, j1, j2, j3, j4, j5, j6, j7, j8, j9, j10, vs, vt, rfl, hst'⟩ := star_ownF h2
  exact ⟨_, rfl, fun a F => hk x1 k1 x2 k2 x3 k3 x4 k4 x5 k5 x6 k6 x7 k7 x8 k8 x9 k9 x10 k10 us ut y1 j1 y2 j2 y3 j3 y4 j4 y5 j5 y6 j6 y7 j7 y8 j8 y9 j9 y10 j10 vs vt w' a (mem_news M hbl (star_app _ _ s1 s2 sd hst hst')) F⟩
end
theorem retFFI_half {W w' : World} {F : Fct} {n : Int} {s1 s2 s3 s4 t1 t2 t3 t4 vo va : Value} {us ut : List Value} {is : List Itm} (M : Mem W w' (own1I s1 F.S.s :: own1I s2 F.S.t :: own1I s3 F.S.e :: own2U s4 us F.S.m :: own1I t1 F.T.s :: own1I t2 F.T.t :: own1I t3 F.T.e :: own2U t4 ut F.T.m :: own1I vo F.o :: own1I va F.a :: is)) : RetFFI W F fct0 n (.returned (.tuple #[.agg #[.int .i64 F.S.ob, s1, s2, s3, s4, .int .i64 F.T.ob, t1, t2, t3, t4, vo, va], .agg #[.int .i64 0, .slice none 0 0, .slice none 0 0, .slice none 0 0, .slice none 0 0, .int .i64 0, .slice none 0 0, .slice none 0 0, .slice none 0 0, .slice none 0 0, .slice none 0 0, .slice none 0 0], .int .i64 n])) w' :=
  ⟨_, _, _, fun _ => False, rfl, ownF_starS M.2, ownF_zero _ _, fun k h => h, fun k h => h.elim, fun k _ h => h, M.1⟩
theorem bt_Functor {ob ob' : Int} {a1 a2 a3 a4 a5 a6 a7 a8 a9 a10 : Option Addr} {n1 n2 n3 n4 n5 n6 n7 n8 n9 n10 k1 k2 k3 k4 k5 k6 k7 k8 k9 k10 : Nat} : Tryz.prog.built 31 [(0, .agg #[.int .i64 ob, .slice a1 n1 k1, .slice a2 n2 k2, .slice a3 n3 k3, .slice a4 n4 k4]), (1, .agg #[.int .i64 ob', .slice a5 n5 k5, .slice a6 n6 k6, .slice a7 n7 k7, .slice a8 n8 k8]), (2, .slice a9 n9 k9), (3, .slice a10 n10 k10)] = some #[.int .i64 ob, .slice a1 n1 k1, .slice a2 n2 k2, .slice a3 n3 k3, .slice a4 n4 k4, .int .i64 ob', .slice a5 n5 k5, .slice a6 n6 k6, .slice a7 n7 k7, .slice a8 n8 k8, .slice a9 n9 k9, .slice a10 n10 k10] := by kernel_rfl
theorem bt0_Functor : Tryz.prog.built 31 [] = some #[.int .i64 0, .slice none 0 0, .slice none 0 0, .slice none 0 0, .slice none 0 0, .int .i64 0, .slice none 0 0, .slice none 0 0, .slice none 0 0, .slice none 0 0, .slice none 0 0, .slice none 0 0] := by kernel_rfl
end Go.Proofs.YtpcabkdkdnchaaaGreat
set_option linter.unusedSimpArgs false
set_option linter.unusedVariables false
set_option linter.unusedSectionVars false
namespace Go.Proofs.YtpcabkdkdnchaaaGreat
open Go.RowKit
def mzF (F : Fct) : Nat := mzC F.S + mzC F.T + F.o.length + F.a.length
theorem mzF_le (F : Fct) : mzF F ≤ szFn F := by have h1 := mz_le F.S; have h2 := mz_le F.T; unfold mzF szFn; omega
def mkF (k0 : Int) (F : Fct) : Fct := ⟨mkC k0 F.S, mkC (k0 + (mzC F.S : Int)) F.T, upTo (k0 + (mzC F.S : Int) + (mzC F.T : Int)) F.o.length, upTo (k0 + (mzC F.S : Int) + (mzC F.T : Int) + (F.o.length : Int)) F.a.length⟩
theorem agg12 {a b c d e f g h i j k l a' b' c' d' e' f' g' h' i' j' k' l' : Value} (q : (Value.agg #[a, b, c, d, e, f, g, h, i, j, k, l]) = .agg #[a', b', c', d', e', f', g', h', i', j', k', l']) : b = b' ∧ c = c' ∧ d = d' ∧ e = e' ∧ g = g' ∧ h = h' ∧ i = i' ∧ j = j' ∧ k = k' ∧ l = l' := by
  simp only [Value.agg.injEq] at q
  have hl := congrArg Array.toList q
  simp only [List.cons.injEq, and_true] at hl
  exact ⟨hl.2.1, hl.2.2.1, hl.2.2.2.1, hl.2.2.2.2.1, hl.2.2.2.2.2.2.1, hl.2.2.2.2.2.2.2.1, hl.2.2.2.2.2.2.2.2.1, hl.2.2.2.2.2.2.2.2.2.1, hl.2.2.2.2.2.2.2.2.2.2.1, hl.2.2.2.2.2.2.2.2.2.2.2⟩
theorem star_groupC {w : World} {S : Nat → Prop} {c : Cat} {vs vt ve vm : Value} {us : List Value} {is : List Itm} (h : Star (own1I vs c.s :: own1I vt c.t :: own1I ve c.e :: own2U vm us c.m :: is) w S) : Star (ownCI (.agg #[.int .i64 c.ob, vs, vt, ve, vm]) c :: is) w S := by
  obtain ⟨S1, S2, k1, k2, kd, h1, h2⟩ := star_unapp [own1I vs c.s, own1I vt c.t, own1I ve c.e, own2U vm us c.m] is h
  exact ⟨S1, S2, k1, k2, kd, ownC_starS h1, h2⟩
theorem star_ungroupC {w : World} {S : Nat → Prop} {c : Cat} {vs vt ve vm : Value} {is : List Itm} (h : Star (ownCI (.agg #[.int .i64 c.ob, vs, vt, ve, vm]) c :: is) w S) : ∃ us, Star (own1I vs c.s :: own1I vt c.t :: own1I ve c.e :: own2U vm us c.m :: is) w S := by
  obtain ⟨S1, S2, k1, k2, kd, h1, h2⟩ := h
  obtain ⟨a1, a2, a3, a4, q1, q2, q3, q4, uu, hv, hst⟩ := starS_ownC h1
  obtain ⟨_, rfl, rfl, rfl, rfl⟩ := agg5 hv
  exact ⟨uu, star_app _ _ k1 k2 kd hst h2⟩
theorem star_tl {w : World} {i : Itm} {is js : List Itm} (hh : ∀ S, Star is w S → Star js w S) {S : Nat → Prop} (h : Star (i :: is) w S) : Star (i :: js) w S := by
  obtain ⟨S1, S2, k1, k2, kd, h1, h2⟩ := h
  exact ⟨S1, S2, k1, k2, kd, h1, hh _ h2⟩
theorem mem_openF {w0 w : World} {F : Fct} {s1 s2 s3 s4 t1 t2 t3 t4 vo va : Value} {is : List Itm} (M : Mem w0 w (ownFI (.agg #[.int .i64 F.S.ob, s1, s2, s3, s4, .int .i64 F.T.ob, t1, t2, t3, t4, vo, va]) F :: is)) : Mem w0 w (ownCI (.agg #[.int .i64 F.S.ob, s1, s2, s3, s4]) F.S :: ownCI (.agg #[.int .i64 F.T.ob, t1, t2, t3, t4]) F.T :: own1I vo F.o :: own1I va F.a :: is) := by
  obtain ⟨S1, S2, k1, k2, kd, ⟨x1, x2, x3, x4, x5, x6, x7, x8, x9, x10, us, ut, hv, h⟩, hr⟩ := M.2
  obtain ⟨rfl, rfl, rfl, rfl, rfl, rfl, rfl, rfl, rfl, rfl⟩ := agg12 hv
  refine ⟨M.1, ?_⟩
  have h2 := star_app _ _ k1 k2 kd h hr
  simp only [List.cons_append, List.nil_append] at h2
  exact star_tl (fun S h => star_groupC h) (star_groupC h2)
theorem mem_closeF {w0 w : World} {c c' : Cat} {xs ys : List Int} {s1 s2 s3 s4 t1 t2 t3 t4 vo va : Value} {is : List Itm} (M : Mem w0 w (ownCI (.agg #[.int .i64 c.ob, s1, s2, s3, s4]) c :: ownCI (.agg #[.int .i64 c'.ob, t1, t2, t3, t4]) c' :: own1I vo xs :: own1I va ys :: is)) :
    Mem w0 w (ownFI (.agg #[.int .i64 c.ob, s1, s2, s3, s4, .int .i64 c'.ob, t1, t2, t3, t4, vo, va]) ⟨c, c', xs, ys⟩ :: is) := by
  refine ⟨M.1, ?_⟩
  obtain ⟨us, h1⟩ := star_ungroupC M.2
  obtain ⟨S1, S2, k1, k2, kd, h2, h3⟩ := star_unapp [own1I s1 c.s, own1I s2 c.t, own1I s3 c.e, own2U s4 us c.m] _ h1
  obtain ⟨ut, h4⟩ := star_ungroupC h3
  have h5 := star_app _ _ k1 k2 kd h2 h4
  simp only [List.cons_append, List.nil_append] at h5
  obtain ⟨S1, S2, k1, k2, kd, h2, h3⟩ := star_unapp [own1I s1 c.s, own1I s2 c.t, own1I s3 c.e, own2U s4 us c.m, own1I t1 c'.s, own1I t2 c'.t, own1I t3 c'.e, own2U t4 ut c'.m, own1I vo xs, own1I va ys] is h5
  exact ⟨S1, S2, k1, k2, kd, ⟨_, _, _, _, _, _, _, _, _, _, us, ut, rfl, h2⟩, h3⟩
section
variable {w0 : World} {is : List Itm} {ops : Array Oper} {Q : Exit → Act → World → Prop} {o : Oper} {rest : List Oper} {N : Frm} {n m : Nat} {e : Env} {v : Value} {d : Nat} {K : Act → World → Prop} {f : FuncId} {fn : Func} {ags : Array Operand} {ts : Array TypeId} {vs : List Value}
theorem go_one {i j : Itm} {r : Value} (hd : o.dst = some d) (hN : Nat.blt d N = true) (hop : o.op = .call { callee := .value (.func f), args := ags, argTypes := ts }) (hfn : Tryz.prog.funcs[f]? = some fn) (hb : fn.body.isNone = false) (hnm : (fn.name == "runtime.NumGoroutine") = false)
    (hargs : evoL e ags.toList = some vs) (hi : is[n]? = some i) (hc : ∀ (R : Itm) w, Mem w0 w [i, R] → Calls Tryz.prog f vs.toArray w (fun e w' => e = .returned r ∧ Mem w0 w' [j, R]))
    (hk : GK w0 (is.set n j) N K ((d, r) :: e)) : GO w0 is N o e Q K := by
  intro w a M F
  have hn : n < is.length := (List.getElem?_eq_some_iff.1 hi).1
  refine go_call hd hN F hop hfn hb hnm hargs (hc (tailI (is.eraseIdx n)) w (mem_tail_in (L := [i]) (mem_pick M hi))) fun e' w' hR => ?_
  obtain ⟨rfl, M'⟩ := hR
  have M2 := mem_tail_out (L := [j]) M'
  exact ⟨r, rfl, fun a F => hk w' a ⟨M2.1, star_unpick _ hn M2.2⟩ F⟩
theorem go_callFI1 {F : Fct} {c : Int} (hd : o.dst = some d) (hN : Nat.blt d N = true) (hop : o.op = .call { callee := .value (.func f), args := ags, argTypes := ts }) (hfn : Tryz.prog.funcs[f]? = some fn) (hb : fn.body.isNone = false) (hn : (fn.name == "runtime.NumGoroutine") = false)
    (hargs : evoL e ags.toList = some vs) (hc : ∀ w, Mem w0 w is → Calls Tryz.prog f vs.toArray w (RetFI w F c))
    (hk : ∀ x1 k1 x2 k2 x3 k3 x4 k4 x5 k5 x6 k6 x7 k7 x8 k8 x9 k9 x10 k10, GK w0 (is ++ [ownFI (.agg #[.int .i64 F.S.ob, .slice x1 F.S.s.length k1, .slice x2 F.S.t.length k2, .slice x3 F.S.e.length k3, .slice x4 F.S.m.length k4, .int .i64 F.T.ob, .slice x5 F.T.s.length k5, .slice x6 F.T.t.length k6, .slice x7 F.T.e.length k7, .slice x8 F.T.m.length k8, .slice x9 F.o.length k9, .slice x10 F.a.length k10]) F]) N K
      ((d, .tuple #[.agg #[.int .i64 F.S.ob, .slice x1 F.S.s.length k1, .slice x2 F.S.t.length k2, .slice x3 F.S.e.length k3, .slice x4 F.S.m.length k4, .int .i64 F.T.ob, .slice x5 F.T.s.length k5, .slice x6 F.T.t.length k6, .slice x7 F.T.e.length k7, .slice x8 F.T.m.length k8, .slice x9 F.o.length k9, .slice x10 F.a.length k10], .int .i64 c]) :: e)) : GO w0 is N o e Q K := by
  intro w a M F
  refine go_call hd hN F hop hfn hb hn hargs (hc w M) fun e' w' hR => ?_
  obtain ⟨v, rfl, hs, hbl⟩ := hR
  obtain ⟨x1, x2, x3, x4, x5, x6, x7, x8, x9, x10, k1, k2, k3, k4, k5, k6, k7, k8, k9, k10, rfl, _⟩ := hs.rd.lists
  exact ⟨_, rfl, fun a F => hk x1 k1 x2 k2 x3 k3 x4 k4 x5 k5 x6 k6 x7 k7 x8 k8 x9 k9 x10 k10 w' a (mem_new M hbl hs) F⟩
end
set_option maxHeartbeats 1000000 in
set_option maxRecDepth 100000 in
theorem markFM_any (w0 w : World) (R : Itm) (F : Fct) (k0 : Int) (s1 s2 s3 s4 t1 t2 t3 t4 vo va : Value) (hk0 : 0 ≤ k0) (hk1 : k0 + (mzC F.S : Int) + (mzC F.T : Int) + (F.o.length : Int) + (F.a.length : Int) ≤ 1152921504606846976) (M : Mem w0 w [ownCI (.agg #[.int .i64 F.S.ob, s1, s2, s3, s4]) F.S, ownCI (.agg #[.int .i64 F.T.ob, t1, t2, t3, t4]) F.T, own1I vo F.o, own1I va F.a, R]) :
    Calls Tryz.prog 16 #[.agg #[.int .i64 F.S.ob, s1, s2, s3, s4, .int .i64 F.T.ob, t1, t2, t3, t4, vo, va], .int .i64 k0] w (fun e w' => e = .returned (.int .i64 (k0 + (mzC F.S : Int) + (mzC F.T : Int) + (F.o.length : Int) + (F.a.length : Int))) ∧ Mem w0 w' [ownCI (.agg #[.int .i64 F.S.ob, s1, s2, s3, s4]) (mkC k0 F.S), ownCI (.agg #[.int .i64 F.T.ob, t1, t2, t3, t4]) (mkC (k0 + (mzC F.S : Int)) F.T), own1I vo (upTo (k0 + (mzC F.S : Int) + (mzC F.T : Int)) F.o.length), own1I va (upTo (k0 + (mzC F.S : Int) + (mzC F.T : Int) + (F.o.length : Int)) F.a.length), R]) := by
  go_enter Tryz.func16, Tryz.ntmps16
  refine gc_enterM M (N := 22) rfl (look_cons (k := 0) rfl (look_cons (k := 1) rfl (look_nil _))) ?_
  clear M
  refine gc_seq fun K1 hK1 => ?_
  refine gc_region ?_
  refine g_op (.free rfl) fun K3 hK3 => ?_
  refine go_box rfl rfl rfl rfl rfl ?_
  intro B2
  refine hK3 _ _ ?_
  refine g_v (.free rfl) rfl rfl (qt_assign rfl rfl) ?_
  refine g_nil ?_
  refine gk_then (hK1 _ _ ?_)
  refine gc_seq fun K4 hK4 => ?_
  refine gc_region ?_
  refine g_v (.free rfl) rfl rfl (qt_field (z := 4) (off := 0) rfl rfl Tryz.underlying31 rfl (by kernel_rfl) rfl) ?_
  refine g_v (.free rfl) rfl rfl (qt_loadP (n := 5) (z := 5) rfl rfl Tryz.underlying29 rfl (by kernel_rfl) rfl (by first | decide | exact Nat.le_refl _ | simp)) ?_
  refine g_v (.free rfl) rfl rfl (qt_move rfl rfl) ?_
  refine g_op (.free rfl) fun K5 hK5 => ?_
  refine go_mark (ownCI _ (mkC _ _)) (n := 0) rfl rfl rfl Tryz.func25 rfl (by decide) rfl rfl (fun w S hS => markC_any w S _ _ _ hS (by omega) (by omega)) ?_
  refine hK5 _ _ ?_
  refine g_v (.free rfl) rfl rfl (qt_assign rfl rfl) ?_
  refine g_nil ?_
  refine gk_then (hK4 _ _ ?_)
  refine gc_seq fun K6 hK6 => ?_
  refine gc_region ?_
  refine g_v (.free rfl) rfl rfl (qt_field (z := 4) (off := 5) rfl rfl Tryz.underlying31 rfl (by kernel_rfl) rfl) ?_
  refine g_v (.free rfl) rfl rfl (qt_loadP (n := 5) (z := 5) rfl rfl Tryz.underlying29 rfl (by kernel_rfl) rfl (by first | decide | exact Nat.le_refl _ | simp)) ?_
  refine g_v (.free rfl) rfl rfl (qt_move rfl rfl) ?_
  refine g_op (.free rfl) fun K7 hK7 => ?_
  refine go_mark (ownCI _ (mkC _ _)) (n := 1) rfl rfl rfl Tryz.func25 rfl (by decide) rfl rfl (fun w S hS => markC_any w S _ _ _ hS (by omega) (by omega)) ?_
  refine hK7 _ _ ?_
  refine g_v (.free rfl) rfl rfl (qt_assign rfl rfl) ?_
  refine g_nil ?_
  refine gk_then (hK6 _ _ ?_)
  refine gc_seq fun K8 hK8 => ?_
  refine gc_region ?_
  refine g_v (.free rfl) rfl rfl (qt_field (z := 0) (off := 10) rfl rfl Tryz.underlying31 rfl (by kernel_rfl) rfl) ?_
  refine g_v (.free rfl) rfl rfl (qt_loadB (n := 5) rfl rfl Tryz.underlying22 rfl rfl rfl) ?_
  refine g_v (.free rfl) rfl rfl (qt_move rfl rfl) ?_
  refine g_op (.free rfl) fun K9 hK9 => ?_
  refine go_mark (own1I _ (upTo _ _)) (n := 2) rfl rfl rfl Tryz.func48 rfl (by decide) rfl rfl (fun w S hS => markS_any w S _ _ _ hS (by omega) (by omega)) ?_
  refine hK9 _ _ ?_
  refine g_v (.free rfl) rfl rfl (qt_assign rfl rfl) ?_
  refine g_nil ?_
  refine gk_then (hK8 _ _ ?_)
  refine gc_seq fun K10 hK10 => ?_
  refine gc_region ?_
  refine g_v (.free rfl) rfl rfl (qt_field (z := 0) (off := 11) rfl rfl Tryz.underlying31 rfl (by kernel_rfl) rfl) ?_
  refine g_v (.free rfl) rfl rfl (qt_loadB (n := 5) rfl rfl Tryz.underlying22 rfl rfl rfl) ?_
  refine g_v (.free rfl) rfl rfl (qt_move rfl rfl) ?_
  refine g_op (.free rfl) fun K11 hK11 => ?_
  refine go_mark (own1I _ (upTo _ _)) (n := 3) rfl rfl rfl Tryz.func48 rfl (by decide) rfl rfl (fun w S hS => markS_any w S _ _ _ hS (by omega) (by omega)) ?_
  refine hK11 _ _ ?_
  refine g_v (.free rfl) rfl rfl (qt_assign rfl rfl) ?_
  refine g_nil ?_
  refine gk_then (hK10 _ _ ?_)
  refine gc_seq fun K12 hK12 => ?_
  refine gc_region ?_
  refine g_v (.free rfl) rfl rfl (qt_move rfl rfl) ?_
  refine g_v (.free rfl) rfl rfl (qt_assign rfl rfl) ?_
  refine g_nil ?_
  refine gk_then (hK12 _ _ ?_)
  refine gc_ret ?_
  refine ret_1 rfl rfl  (fun w M => ?_)
  exact ⟨rfl, mem_take 5 M⟩
theorem markF1_any (w0 w : World) (R : Itm) (F : Fct) (k0 : Int) (s1 s2 s3 s4 t1 t2 t3 t4 vo va : Value) (hk0 : 0 ≤ k0) (hk1 : k0 + (mzF F : Int) ≤ 1152921504606846976) (M : Mem w0 w [ownFI (.agg #[.int .i64 F.S.ob, s1, s2, s3, s4, .int .i64 F.T.ob, t1, t2, t3, t4, vo, va]) F, R]) :
    Calls Tryz.prog 16 #[.agg #[.int .i64 F.S.ob, s1, s2, s3, s4, .int .i64 F.T.ob, t1, t2, t3, t4, vo, va], .int .i64 k0] w (fun e w' => e = .returned (.int .i64 (k0 + (mzF F : Int))) ∧ Mem w0 w' [ownFI (.agg #[.int .i64 F.S.ob, s1, s2, s3, s4, .int .i64 F.T.ob, t1, t2, t3, t4, vo, va]) (mkF k0 F), R]) := by
  have hz : (mzF F : Int) = (mzC F.S : Int) + (mzC F.T : Int) + (F.o.length : Int) + (F.a.length : Int) := by unfold mzF; omega
  refine (markFM_any w0 w R F k0 s1 s2 s3 s4 t1 t2 t3 t4 vo va hk0 (by omega) (mem_openF M)).mono fun e w' h => ?_
  obtain ⟨rfl, M'⟩ := h
  exact ⟨by rw [show k0 + (mzF F : Int) = k0 + (mzC F.S : Int) + (mzC F.T : Int) + (F.o.length : Int) + (F.a.length : Int) from by omega], mem_closeF (c := mkC k0 F.S) (c' := mkC (k0 + (mzC F.S : Int)) F.T) M'⟩
set_option maxHeartbeats 1000000 in
set_option maxRecDepth 100000 in
theorem heldFM_any (w : World) (v : Value) (F : Fct) (k0 : Int) (h : RdF w v (mkF k0 F)) (hk0 : 0 ≤ k0) (hk1 : k0 + (mzC F.S : Int) + (mzC F.T : Int) + (F.o.length : Int) + (F.a.length : Int) ≤ 1152921504606846976) :
    Calls Tryz.prog 17 #[v, .int .i64 k0] w (RetI w (k0 + (mzC F.S : Int) + (mzC F.T : Int) + (F.o.length : Int) + (F.a.length : Int))) := by
  have h0 := h
  obtain ⟨vx1, vx2, vx3, vx4, vx5, vx6, vx7, vx8, vx9, vx10, vk1, vk2, vk3, vk4, vk5, vk6, vk7, vk8, vk9, vk10, rfl, h1, h2, h3, h4, h5, h6, h7, h8, h9, h10⟩ := h.lists
  go_enter Tryz.func17, Tryz.ntmps17
  refine gc_enter (N := 30) rfl (look_cons (k := 0) rfl (look_cons (k := 1) rfl (look_nil _))) ?_
  refine gc_seq fun K1 hK1 => ?_
  refine gc_region ?_
  refine g_op (.free rfl) fun K3 hK3 => ?_
  refine go_box rfl rfl rfl rfl rfl ?_
  intro B2
  refine hK3 _ _ ?_
  refine g_v (.free rfl) rfl rfl (qt_assign rfl rfl) ?_
  refine g_nil ?_
  refine gk_then (hK1 _ _ ?_)
  refine gc_seq fun K4 hK4 => ?_
  refine gc_region ?_
  refine g_v (.free rfl) rfl rfl (qt_field (z := 4) (off := 0) rfl rfl Tryz.underlying31 rfl (by kernel_rfl) rfl) ?_
  refine g_v (.free rfl) rfl rfl (qt_loadP (n := 0) (z := 5) rfl rfl Tryz.underlying29 rfl (by kernel_rfl) rfl (by first | decide | exact Nat.le_refl _ | simp)) ?_
  refine g_v (.free rfl) rfl rfl (qt_move rfl rfl) ?_
  refine g_q (.free rfl) rfl rfl (qt_call rfl Tryz.func26 rfl (by decide) rfl (fun w M => heldC_any w _ (_) _ (rdC_mk (mem_rd M h1) (mem_rd M h2) (mem_rd M h3) (mem_rd2 M h4)) (by first | assumption | omega) (by first | assumption | omega))) ?_
  refine g_v (.free rfl) rfl rfl (qt_assign rfl rfl) ?_
  refine g_nil ?_
  refine gk_then (hK4 _ _ ?_)
  refine gc_seq fun K5 hK5 => ?_
  refine gc_seq fun K6 hK6 => ?_
  refine gc_region ?_
  refine g_v (.free rfl) rfl rfl (qt_move rfl rfl) ?_
  refine g_v (.free rfl) rfl rfl (qt_lss rfl rfl rfl) ?_
  refine g_nil ?_
  refine gk_then (hK6 _ _ ?_)
  refine gc_cond rfl (fun hc0 => ?_) (fun hc0 => ?_)
  · try simp only [decide_eq_true_eq, decide_eq_false_iff_not, Bool.not_eq_true', Bool.not_eq_false', Bool.not_eq_eq_eq_not, Bool.not_true, Bool.not_false, ne_eq, Decidable.not_not, Classical.not_not] at hc0
    exfalso; omega
  · try simp only [decide_eq_true_eq, decide_eq_false_iff_not, Bool.not_eq_true', Bool.not_eq_false', Bool.not_eq_eq_eq_not, Bool.not_true, Bool.not_false, ne_eq, Decidable.not_not, Classical.not_not] at hc0
    refine gc_skip ?_
    refine gk_then (hK5 _ _ ?_)
    refine gc_seq fun K7 hK7 => ?_
    refine gc_region ?_
    refine g_v (.free rfl) rfl rfl (qt_field (z := 4) (off := 5) rfl rfl Tryz.underlying31 rfl (by kernel_rfl) rfl) ?_
    refine g_v (.free rfl) rfl rfl (qt_loadP (n := 0) (z := 5) rfl rfl Tryz.underlying29 rfl (by kernel_rfl) rfl (by first | decide | exact Nat.le_refl _ | simp)) ?_
    refine g_v (.free rfl) rfl rfl (qt_move rfl rfl) ?_
    refine g_q (.free rfl) rfl rfl (qt_call rfl Tryz.func26 rfl (by decide) rfl (fun w M => heldC_any w _ (_) _ (rdC_mk (mem_rd M h5) (mem_rd M h6) (mem_rd M h7) (mem_rd2 M h8)) (by first | assumption | omega) (by first | assumption | omega))) ?_
    refine g_v (.free rfl) rfl rfl (qt_assign rfl rfl) ?_
    refine g_nil ?_
    refine gk_then (hK7 _ _ ?_)
    refine gc_seq fun K8 hK8 => ?_
    refine gc_seq fun K9 hK9 => ?_
    refine gc_region ?_
    refine g_v (.free rfl) rfl rfl (qt_move rfl rfl) ?_
    refine g_v (.free rfl) rfl rfl (qt_lss rfl rfl rfl) ?_
    refine g_nil ?_
    refine gk_then (hK9 _ _ ?_)
    refine gc_cond rfl (fun hc1 => ?_) (fun hc1 => ?_)
    · try simp only [decide_eq_true_eq, decide_eq_false_iff_not, Bool.not_eq_true', Bool.not_eq_false', Bool.not_eq_eq_eq_not, Bool.not_true, Bool.not_false, ne_eq, Decidable.not_not, Classical.not_not] at hc1
      exfalso; omega
    · try simp only [decide_eq_true_eq, decide_eq_false_iff_not, Bool.not_eq_true', Bool.not_eq_false', Bool.not_eq_eq_eq_not, Bool.not_true, Bool.not_false, ne_eq, Decidable.not_not, Classical.not_not] at hc1
      refine gc_skip ?_
      refine gk_then (hK8 _ _ ?_)
      refine gc_seq fun K10 hK10 => ?_
      refine gc_region ?_
      refine g_v (.free rfl) rfl rfl (qt_field (z := 0) (off := 10) rfl rfl Tryz.underlying31 rfl (by kernel_rfl) rfl) ?_
      refine g_v (.free rfl) rfl rfl (qt_loadB (n := 0) rfl rfl Tryz.underlying22 rfl rfl rfl) ?_
      refine g_v (.free rfl) rfl rfl (qt_move rfl rfl) ?_
      refine g_q (.free rfl) rfl rfl (qt_call rfl Tryz.func49 rfl (by decide) rfl (fun w M => held_any w _ _ _ (mem_rd M h9) (by first | assumption | omega) (by first | assumption | omega))) ?_
      refine g_v (.free rfl) rfl rfl (qt_assign rfl rfl) ?_
      refine g_nil ?_
      refine gk_then (hK10 _ _ ?_)
      refine gc_seq fun K11 hK11 => ?_
      refine gc_seq fun K12 hK12 => ?_
      refine gc_region ?_
      refine g_v (.free rfl) rfl rfl (qt_move rfl rfl) ?_
      refine g_v (.free rfl) rfl rfl (qt_lss rfl rfl rfl) ?_
      refine g_nil ?_
      refine gk_then (hK12 _ _ ?_)
      refine gc_cond rfl (fun hc2 => ?_) (fun hc2 => ?_)
      · try simp only [decide_eq_true_eq, decide_eq_false_iff_not, Bool.not_eq_true', Bool.not_eq_false', Bool.not_eq_eq_eq_not, Bool.not_true, Bool.not_false, ne_eq, Decidable.not_not, Classical.not_not] at hc2
        exfalso; omega
      · try simp only [decide_eq_true_eq, decide_eq_false_iff_not, Bool.not_eq_true', Bool.not_eq_false', Bool.not_eq_eq_eq_not, Bool.not_true, Bool.not_false, ne_eq, Decidable.not_not, Classical.not_not] at hc2
        refine gc_skip ?_
        refine gk_then (hK11 _ _ ?_)
        refine gc_seq fun K13 hK13 => ?_
        refine gc_region ?_
        refine g_v (.free rfl) rfl rfl (qt_field (z := 0) (off := 11) rfl rfl Tryz.underlying31 rfl (by kernel_rfl) rfl) ?_
        refine g_v (.free rfl) rfl rfl (qt_loadB (n := 0) rfl rfl Tryz.underlying22 rfl rfl rfl) ?_
        refine g_v (.free rfl) rfl rfl (qt_move rfl rfl) ?_
        refine g_q (.free rfl) rfl rfl (qt_call rfl Tryz.func49 rfl (by decide) rfl (fun w M => held_any w _ _ _ (mem_rd M h10) (by first | assumption | omega) (by first | assumption | omega))) ?_
        refine g_v (.free rfl) rfl rfl (qt_assign rfl rfl) ?_
        refine g_nil ?_
        refine gk_then (hK13 _ _ ?_)
        refine gc_seq fun K14 hK14 => ?_
        refine gc_seq fun K15 hK15 => ?_
        refine gc_region ?_
        refine g_v (.free rfl) rfl rfl (qt_move rfl rfl) ?_
        refine g_v (.free rfl) rfl rfl (qt_lss rfl rfl rfl) ?_
        refine g_nil ?_
        refine gk_then (hK15 _ _ ?_)
        refine gc_cond rfl (fun hc3 => ?_) (fun hc3 => ?_)
        · try simp only [decide_eq_true_eq, decide_eq_false_iff_not, Bool.not_eq_true', Bool.not_eq_false', Bool.not_eq_eq_eq_not, Bool.not_true, Bool.not_false, ne_eq, Decidable.not_not, Classical.not_not] at hc3
          exfalso; omega
        · try simp only [decide_eq_true_eq, decide_eq_false_iff_not, Bool.not_eq_true', Bool.not_eq_false', Bool.not_eq_eq_eq_not, Bool.not_true, Bool.not_false, ne_eq, Decidable.not_not, Classical.not_not] at hc3
          refine gc_skip ?_
          refine gk_then (hK14 _ _ ?_)
          refine gc_seq fun K16 hK16 => ?_
          refine gc_region ?_
          refine g_v (.free rfl) rfl rfl (qt_move rfl rfl) ?_
          refine g_v (.free rfl) rfl rfl (qt_assign rfl rfl) ?_
          refine g_nil ?_
          refine gk_then (hK16 _ _ ?_)
          refine gc_ret ?_
          refine ret_1 rfl rfl  (fun w M => ?_)
          exact ⟨rfl, M.1⟩
theorem heldF_any (w : World) (v : Value) (F : Fct) (k0 : Int) (h : RdF w v (mkF k0 F)) (hk0 : 0 ≤ k0) (hk1 : k0 + (mzF F : Int) ≤ 1152921504606846976) :
    Calls Tryz.prog 17 #[v, .int .i64 k0] w (RetI w (k0 + (mzF F : Int))) := by
  have hz : (mzF F : Int) = (mzC F.S : Int) + (mzC F.T : Int) + (F.o.length : Int) + (F.a.length : Int) := by unfold mzF; omega
  rw [show k0 + (mzF F : Int) = k0 + (mzC F.S : Int) + (mzC F.T : Int) + (F.o.length : Int) + (F.a.length : Int) from by omega]
  exact heldFM_any w v F k0 h hk0 (by omega)
end Go.Proofs.YtpcabkdkdnchaaaGreat
