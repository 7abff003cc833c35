
/- A functor of two variables as a value; FixFirst and FixSecond: both sides. -/
import Derived.Test.YtfnneogadciimabPrL
import Derived.Test.YtfnneogadciimabFunL
import Derived.Test.YtfnneogadciimabProdI
import Derived.Test.YtfnneogadciimabThF
set_option linter.unusedSimpArgs false
set_option linter.unusedVariables false
set_option linter.unusedSectionVars false
namespace Go.Proofs.Ytfnneogadciimab
open Go.RowKit


noncomputable def tvE (A B : Cat) (F : Fct) : Int := if twoErr A B = 0 then fctErr F else twoErr A B
noncomputable def tvA (A B : Cat) (F : Fct) : Cat := if tvE A B F = 0 then A else cat0
noncomputable def tvB (A B : Cat) (F : Fct) : Cat := if tvE A B F = 0 then B else cat0
noncomputable def tvF (A B : Cat) (F : Fct) : Fct := if tvE A B F = 0 then F else fct0
theorem tv_n1 {A B : Cat} {F : Fct} (h : ¬ twoErr A B = 0) : tvE A B F = 1 ∧ tvE A B F = twoErr A B ∧ tvA A B F = cat0 ∧ tvB A B F = cat0 ∧ tvF A B F = fct0 := by
  have h1 := (twoErr_n h).2
  have h2 : tvE A B F = twoErr A B := if_neg h
  have h3 : ¬ tvE A B F = 0 := by omega
  exact ⟨by omega, h2, if_neg h3, if_neg h3, if_neg h3⟩
theorem tv_n2 {A B : Cat} {F : Fct} (h : twoErr A B = 0) (h' : ¬ fctErr F = 0) : tvE A B F = 1 ∧ tvE A B F = fctErr F ∧ tvA A B F = cat0 ∧ tvB A B F = cat0 ∧ tvF A B F = fct0 := by
  have h1 := (fctErr_n h').2.1
  have h2 : tvE A B F = fctErr F := if_pos h
  have h3 : ¬ tvE A B F = 0 := by omega
  exact ⟨by omega, h2, if_neg h3, if_neg h3, if_neg h3⟩
theorem tv_t {A B : Cat} {F : Fct} (h : twoErr A B = 0) (h' : fctErr F = 0) : tvE A B F = 0 ∧ tvA A B F = A ∧ tvB A B F = B ∧ tvF A B F = F := by
  have h2 : tvE A B F = 0 := (if_pos h).trans h'
  exact ⟨h2, if_pos h2, if_pos h2, if_pos h2⟩
theorem fctErr_0t {F : Fct} (h : fctErr F = 0) : fIsFunctor F = true := by
  cases hh : fIsFunctor F with
  | true => rfl
  | false => rw [(fctErr_f hh).1] at h; omega
theorem tv_0 {A B : Cat} {F : Fct} (h : tvE A B F = 0) : fIsCategory A = true ∧ fIsCategory B = true ∧ fIsFunctor F = true := by
  by_cases h1 : twoErr A B = 0
  · have h2 : fctErr F = 0 := by unfold tvE at h; rwa [if_pos h1] at h
    exact ⟨(twoErr_0 h1).1, (twoErr_0 h1).2, fctErr_0t h2⟩
  · have := (tv_n1 (F := F) h1).1; omega
theorem tv_c {A B : Cat} {F : Fct} (h : tvE A B F = 0) : tvA A B F = A ∧ tvB A B F = B ∧ tvF A B F = F := ⟨if_pos h, if_pos h, if_pos h⟩
theorem tv_1 {A B : Cat} {F : Fct} (h : ¬ tvE A B F = 0) : tvE A B F = 1 ∧ ¬ (fIsCategory A = true ∧ fIsCategory B = true ∧ fIsFunctor F = true) := by
  refine ⟨?_, fun hh => h ?_⟩
  · by_cases h1 : twoErr A B = 0
    · by_cases h2 : fctErr F = 0
      · exact absurd (tv_t h1 h2).1 h
      · exact (tv_n2 h1 h2).1
    · exact (tv_n1 h1).1
  · exact (tv_t (twoErr_t hh.1 hh.2.1) (fctErr_t hh.2.2).1).1
inductive RetTV (W : World) (A B : Cat) (F : Fct) (c : Int) (e : Ending) (w' : World) : Prop where
  | mk (x1 x2 x3 x4 x5 x6 x7 x8 x9 x10 x11 x12 x13 x14 x15 x16 x17 x18 : Option Addr) (k1 k2 k3 k4 k5 k6 k7 k8 k9 k10 k11 k12 k13 k14 k15 k16 k17 k18 : Nat) (u1 u2 u3 u4 : List Value) (he : e = .returned (.tuple #[.agg #[.int .i64 A.ob, .slice x1 A.s.length k1, .slice x2 A.t.length k2, .slice x3 A.e.length k3, .slice x4 A.m.length k4, .int .i64 B.ob, .slice x5 B.s.length k5, .slice x6 B.t.length k6, .slice x7 B.e.length k7, .slice x8 B.m.length k8, .int .i64 F.S.ob, .slice x9 F.S.s.length k9, .slice x10 F.S.t.length k10, .slice x11 F.S.e.length k11, .slice x12 F.S.m.length k12, .int .i64 F.T.ob, .slice x13 F.T.s.length k13, .slice x14 F.T.t.length k14, .slice x15 F.T.e.length k15, .slice x16 F.T.m.length k16, .slice x17 F.o.length k17, .slice x18 F.a.length k18], .int .i64 c])) (hs : Star [own1I (.slice x1 A.s.length k1) A.s, own1I (.slice x2 A.t.length k2) A.t, own1I (.slice x3 A.e.length k3) A.e, own2U (.slice x4 A.m.length k4) u1 A.m, own1I (.slice x5 B.s.length k5) B.s, own1I (.slice x6 B.t.length k6) B.t, own1I (.slice x7 B.e.length k7) B.e, own2U (.slice x8 B.m.length k8) u2 B.m, own1I (.slice x9 F.S.s.length k9) F.S.s, own1I (.slice x10 F.S.t.length k10) F.S.t, own1I (.slice x11 F.S.e.length k11) F.S.e, own2U (.slice x12 F.S.m.length k12) u3 F.S.m, own1I (.slice x13 F.T.s.length k13) F.T.s, own1I (.slice x14 F.T.t.length k14) F.T.t, own1I (.slice x15 F.T.e.length k15) F.T.e, own2U (.slice x16 F.T.m.length k16) u4 F.T.m, own1I (.slice x17 F.o.length k17) F.o, own1I (.slice x18 F.a.length k18) F.a] w' (fun k => W.heap.size ≤ k)) (hb : Below W.heap.size W w') : RetTV W A B F c e w'
theorem retTV_star {W w' : World} {A B : Cat} {F : Fct} {c : Int} {x1 x2 x3 x4 x5 x6 x7 x8 x9 x10 x11 x12 x13 x14 x15 x16 x17 x18 : Option Addr} {k1 k2 k3 k4 k5 k6 k7 k8 k9 k10 k11 k12 k13 k14 k15 k16 k17 k18 : Nat} {u1 u2 u3 u4 : List Value} {is : List Itm} (M : Mem W w' (own1I (.slice x1 A.s.length k1) A.s :: own1I (.slice x2 A.t.length k2) A.t :: own1I (.slice x3 A.e.length k3) A.e :: own2U (.slice x4 A.m.length k4) u1 A.m :: own1I (.slice x5 B.s.length k5) B.s :: own1I (.slice x6 B.t.length k6) B.t :: own1I (.slice x7 B.e.length k7) B.e :: own2U (.slice x8 B.m.length k8) u2 B.m :: own1I (.slice x9 F.S.s.length k9) F.S.s :: own1I (.slice x10 F.S.t.length k10) F.S.t :: own1I (.slice x11 F.S.e.length k11) F.S.e :: own2U (.slice x12 F.S.m.length k12) u3 F.S.m :: own1I (.slice x13 F.T.s.length k13) F.T.s :: own1I (.slice x14 F.T.t.length k14) F.T.t :: own1I (.slice x15 F.T.e.length k15) F.T.e :: own2U (.slice x16 F.T.m.length k16) u4 F.T.m :: own1I (.slice x17 F.o.length k17) F.o :: own1I (.slice x18 F.a.length k18) F.a :: is)) : RetTV W A B F c (.returned (.tuple #[.agg #[.int .i64 A.ob, .slice x1 A.s.length k1, .slice x2 A.t.length k2, .slice x3 A.e.length k3, .slice x4 A.m.length k4, .int .i64 B.ob, .slice x5 B.s.length k5, .slice x6 B.t.length k6, .slice x7 B.e.length k7, .slice x8 B.m.length k8, .int .i64 F.S.ob, .slice x9 F.S.s.length k9, .slice x10 F.S.t.length k10, .slice x11 F.S.e.length k11, .slice x12 F.S.m.length k12, .int .i64 F.T.ob, .slice x13 F.T.s.length k13, .slice x14 F.T.t.length k14, .slice x15 F.T.e.length k15, .slice x16 F.T.m.length k16, .slice x17 F.o.length k17, .slice x18 F.a.length k18], .int .i64 c])) w' :=
  .mk x1 x2 x3 x4 x5 x6 x7 x8 x9 x10 x11 x12 x13 x14 x15 x16 x17 x18 k1 k2 k3 k4 k5 k6 k7 k8 k9 k10 k11 k12 k13 k14 k15 k16 k17 k18 u1 u2 u3 u4 rfl (mem_take 18 M).2 M.1
theorem retTV_zero {W w' : World} {c : Int} (hb : Below W.heap.size W w') : RetTV W cat0 cat0 fct0 c (.returned (.tuple #[.agg #[.int .i64 0, .slice none 0 0, .slice none 0 0, .slice none 0 0, .slice none 0 0, .int .i64 0, .slice none 0 0, .slice none 0 0, .slice none 0 0, .slice none 0 0, .int .i64 0, .slice none 0 0, .slice none 0 0, .slice none 0 0, .slice none 0 0, .int .i64 0, .slice none 0 0, .slice none 0 0, .slice none 0 0, .slice none 0 0, .slice none 0 0, .slice none 0 0], .int .i64 c])) w' := by
  have n1 : Own1 (.slice none 0 0) [] w' (fun _ => False) := own1_nil _ _
  have n2 : Own2U (.slice none 0 0) [] [] w' (fun _ => False) := ⟨rfl, by simp, World.ownsRow_nil w' 0 _ 1, fun i hi => by simp at hi, fun i j _ hj => by simp at hj, fun q hq => by simp [Value.ownBlock] at hq⟩
  have st : ∀ (i : Itm) (is : List Itm), i.p w' (fun _ => False) → Star is w' (fun k => W.heap.size ≤ k) → Star (i :: is) w' (fun k => W.heap.size ≤ k) := fun i is h h2 => ⟨fun _ => False, _, fun k h => h.elim, fun k h => h, fun k h => h.elim, h, h2⟩
  exact .mk none none none none none none none none none none none none none none none none none none 0 0 0 0 0 0 0 0 0 0 0 0 0 0 0 0 0 0 [] [] [] [] rfl (st _ _ n1 (st _ _ n1 (st _ _ n1 (st _ _ n2 (st _ _ n1 (st _ _ n1 (st _ _ n1 (st _ _ n2 (st _ _ n1 (st _ _ n1 (st _ _ n1 (st _ _ n2 (st _ _ n1 (st _ _ n1 (st _ _ n1 (st _ _ n2 (st _ _ n1 (st _ _ n1 (trivial))))))))))))))))))) hb
theorem bt_twoVariables {o1 o2 o3 o4 : Int} {x1 x2 x3 x4 x5 x6 x7 x8 x9 x10 x11 x12 x13 x14 x15 x16 x17 x18 : Option Addr} {n1 n2 n3 n4 n5 n6 n7 n8 n9 n10 n11 n12 n13 n14 n15 n16 n17 n18 k1 k2 k3 k4 k5 k6 k7 k8 k9 k10 k11 k12 k13 k14 k15 k16 k17 k18 : Nat} : Try.prog.built 78 [(0, .agg #[.int .i64 o1, .slice x1 n1 k1, .slice x2 n2 k2, .slice x3 n3 k3, .slice x4 n4 k4]), (1, .agg #[.int .i64 o2, .slice x5 n5 k5, .slice x6 n6 k6, .slice x7 n7 k7, .slice x8 n8 k8]), (2, .agg #[.int .i64 o3, .slice x9 n9 k9, .slice x10 n10 k10, .slice x11 n11 k11, .slice x12 n12 k12, .int .i64 o4, .slice x13 n13 k13, .slice x14 n14 k14, .slice x15 n15 k15, .slice x16 n16 k16, .slice x17 n17 k17, .slice x18 n18 k18])] = some #[.int .i64 o1, .slice x1 n1 k1, .slice x2 n2 k2, .slice x3 n3 k3, .slice x4 n4 k4, .int .i64 o2, .slice x5 n5 k5, .slice x6 n6 k6, .slice x7 n7 k7, .slice x8 n8 k8, .int .i64 o3, .slice x9 n9 k9, .slice x10 n10 k10, .slice x11 n11 k11, .slice x12 n12 k12, .int .i64 o4, .slice x13 n13 k13, .slice x14 n14 k14, .slice x15 n15 k15, .slice x16 n16 k16, .slice x17 n17 k17, .slice x18 n18 k18] := by kernel_rfl
theorem bt0_twoVariables : Try.prog.built 78 [] = some #[.int .i64 0, .slice none 0 0, .slice none 0 0, .slice none 0 0, .slice none 0 0, .int .i64 0, .slice none 0 0, .slice none 0 0, .slice none 0 0, .slice none 0 0, .int .i64 0, .slice none 0 0, .slice none 0 0, .slice none 0 0, .slice none 0 0, .int .i64 0, .slice none 0 0, .slice none 0 0, .slice none 0 0, .slice none 0 0, .slice none 0 0, .slice none 0 0] := by kernel_rfl
def RetOA (W : World) (o1 : Int) (b1 b2 b3 b4 : Value) (o2 : Int) (t1 t2 t3 t4 : Value) (xs ys : List Int) (e : Ending) (w' : World) : Prop :=
  ∃ (x1 : Option Addr) (k1 : Nat) (x2 : Option Addr) (k2 : Nat), e = .returned (.agg #[.int .i64 o1, b1, b2, b3, b4, .int .i64 o2, t1, t2, t3, t4, .slice x1 xs.length k1, .slice x2 ys.length k2]) ∧ Star [own1I (.slice x1 xs.length k1) xs, own1I (.slice x2 ys.length k2) ys] w' (fun k => W.heap.size ≤ k) ∧ Below W.heap.size W w'
theorem retOA_star {W w' : World} {o1 o2 : Int} {b1 b2 b3 b4 t1 t2 t3 t4 : Value} {xs ys : List Int} {x1 x2 : Option Addr} {k1 k2 : Nat} {is : List Itm} (M : Mem W w' (own1I (.slice x1 xs.length k1) xs :: own1I (.slice x2 ys.length k2) ys :: is)) :
    RetOA W o1 b1 b2 b3 b4 o2 t1 t2 t3 t4 xs ys (.returned (.agg #[.int .i64 o1, b1, b2, b3, b4, .int .i64 o2, t1, t2, t3, t4, .slice x1 xs.length k1, .slice x2 ys.length k2])) w' := ⟨_, _, _, _, rfl, (mem_take 2 M).2, M.1⟩
theorem rdC_e {w : World} {c : Cat} {ob c1 c2 c3 c4 : Value} (h : RdC w (.agg #[ob, c1, c2, c3, c4]) c) : Rd w c3 c.e := by
  obtain ⟨y1, y2, y3, y4, hv, h1, h2, h3, h4⟩ := h
  obtain ⟨_, rfl, rfl, rfl, rfl⟩ := agg5 hv
  exact h3
theorem rdF_parts {w : World} {F : Fct} {s1 s2 s3 s4 t1 t2 t3 t4 vo va : Value} (h : RdF w (.agg #[.int .i64 F.S.ob, s1, s2, s3, s4, .int .i64 F.T.ob, t1, t2, t3, t4, vo, va]) F) : RdC w (.agg #[.int .i64 F.S.ob, s1, s2, s3, s4]) F.S ∧ RdC w (.agg #[.int .i64 F.T.ob, t1, t2, t3, t4]) F.T ∧ Rd w vo F.o ∧ Rd w va F.a := by
  obtain ⟨y1, y2, y3, y4, y5, y6, y7, y8, y9, y10, hv, h1, h2, h3, h4⟩ := h
  obtain ⟨rfl, rfl, rfl, rfl, rfl, rfl, rfl, rfl, rfl, rfl⟩ := agg12 hv
  exact ⟨⟨_, _, _, _, rfl, h1⟩, ⟨_, _, _, _, rfl, h2⟩, h3, h4⟩
section
variable {w0 : World} {is : List Itm} {ops : Array Oper} {Q : Exit → Act → World → Prop} {o : Oper} {rest : List Oper} {N : Frm} {n m : Nat} {e : Env} {v : Value} {d : Nat} {K : Act → World → Prop} {f : FuncId} {fn : Func} {ags : Array Operand} {ts : Array TypeId} {vs : List Value}
theorem go_callTV {A B : Cat} {F : Fct} {c : Int} (hd : o.dst = some d) (hN : Nat.blt d N = true) (hop : o.op = .call { callee := .value (.func f), args := ags, argTypes := ts }) (hfn : Try.prog.funcs[f]? = some fn) (hb : fn.body.isNone = false) (hn : (fn.name == "runtime.NumGoroutine") = false) (hargs : evoL e ags.toList = some vs) (hc : ∀ w, Mem w0 w is → Calls Try.prog f vs.toArray w (RetTV w A B F c))
    (hk : ∀ x1 k1 x2 k2 x3 k3 x4 k4 x5 k5 x6 k6 x7 k7 x8 k8 x9 k9 x10 k10 x11 k11 x12 k12 x13 k13 x14 k14 x15 k15 x16 k16 x17 k17 x18 k18 u1 u2 u3 u4, GK w0 (is ++ [own1I (.slice x1 A.s.length k1) A.s, own1I (.slice x2 A.t.length k2) A.t, own1I (.slice x3 A.e.length k3) A.e, own2U (.slice x4 A.m.length k4) u1 A.m, own1I (.slice x5 B.s.length k5) B.s, own1I (.slice x6 B.t.length k6) B.t, own1I (.slice x7 B.e.length k7) B.e, own2U (.slice x8 B.m.length k8) u2 B.m, own1I (.slice x9 F.S.s.length k9) F.S.s, own1I (.slice x10 F.S.t.length k10) F.S.t, own1I (.slice x11 F.S.e.length k11) F.S.e, own2U (.slice x12 F.S.m.length k12) u3 F.S.m, own1I (.slice x13 F.T.s.length k13) F.T.s, own1I (.slice x14 F.T.t.length k14) F.T.t, own1I (.slice x15 F.T.e.length k15) F.T.e, own2U (.slice x16 F.T.m.length k16) u4 F.T.m, own1I (.slice x17 F.o.length k17) F.o, own1I (.slice x18 F.a.length k18) F.a]) N K ((d, .tuple #[.agg #[.int .i64 A.ob, .slice x1 A.s.length k1, .slice x2 A.t.length k2, .slice x3 A.e.length k3, .slice x4 A.m.length k4, .int .i64 B.ob, .slice x5 B.s.length k5, .slice x6 B.t.length k6, .slice x7 B.e.length k7, .slice x8 B.m.length k8, .int .i64 F.S.ob, .slice x9 F.S.s.length k9, .slice x10 F.S.t.length k10, .slice x11 F.S.e.length k11, .slice x12 F.S.m.length k12, .int .i64 F.T.ob, .slice x13 F.T.s.length k13, .slice x14 F.T.t.length k14, .slice x15 F.T.e.length k15, .slice x16 F.T.m.length k16, .slice x17 F.o.length k17, .slice x18 F.a.length k18], .int .i64 c]) :: e)) : GO w0 is N o e Q K := by
  intro w a M F
  refine go_call hd hN F hop hfn hb hn hargs (hc w M) fun e' w' hR => ?_
  obtain ⟨x1, x2, x3, x4, x5, x6, x7, x8, x9, x10, x11, x12, x13, x14, x15, x16, x17, x18, k1, k2, k3, k4, k5, k6, k7, k8, k9, k10, k11, k12, k13, k14, k15, k16, k17, k18, u1, u2, u3, u4, rfl, hs, hbl⟩ := hR
  exact ⟨_, rfl, fun a F => hk x1 k1 x2 k2 x3 k3 x4 k4 x5 k5 x6 k6 x7 k7 x8 k8 x9 k9 x10 k10 x11 k11 x12 k12 x13 k13 x14 k14 x15 k15 x16 k16 x17 k17 x18 k18 u1 u2 u3 u4 w' a (mem_news M hbl hs) F⟩
theorem go_callOA {o1 o2 : Int} {b1 b2 b3 b4 t1 t2 t3 t4 : Value} {xs ys : List Int} (hd : o.dst = some d) (hN : Nat.blt d N = true) (hop : o.op = .call { callee := .value (.func f), args := ags, argTypes := ts }) (hfn : Try.prog.funcs[f]? = some fn) (hb : fn.body.isNone = false) (hn : (fn.name == "runtime.NumGoroutine") = false) (hargs : evoL e ags.toList = some vs) (hc : ∀ w, Mem w0 w is → Calls Try.prog f vs.toArray w (RetOA w o1 b1 b2 b3 b4 o2 t1 t2 t3 t4 xs ys))
    (hk : ∀ x1 k1 x2 k2, GK w0 (is ++ [own1I (.slice x1 xs.length k1) xs, own1I (.slice x2 ys.length k2) ys]) N K ((d, .agg #[.int .i64 o1, b1, b2, b3, b4, .int .i64 o2, t1, t2, t3, t4, .slice x1 xs.length k1, .slice x2 ys.length k2]) :: e)) : GO w0 is N o e Q K := by
  intro w a M F
  refine go_call hd hN F hop hfn hb hn hargs (hc w M) fun e' w' hR => ?_
  obtain ⟨x1, k1, x2, k2, rfl, hs, hbl⟩ := hR
  exact ⟨_, rfl, fun a F => hk x1 k1 x2 k2 w' a (mem_news M hbl hs) F⟩
end


/-! ### The functors -/
def fixO1 (B : Cat) (F : Fct) (x : Int) : List Int := tabTo (fun y => at0 F.o (x * B.ob + (y : Int))) B.ob.toNat
def fixA1 (A B : Cat) (F : Fct) (x : Int) : List Int := tabTo (fun v => at0 F.a (at0 A.e x * (B.s.length : Int) + (v : Int))) B.s.length
def fix1 (A B : Cat) (F : Fct) (x : Int) : Fct := ⟨B, F.T, fixO1 B F x, fixA1 A B F x⟩
def fixO2 (A B : Cat) (F : Fct) (y : Int) : List Int := tabTo (fun x => at0 F.o ((x : Int) * B.ob + y)) A.ob.toNat
def fixA2 (A B : Cat) (F : Fct) (y : Int) : List Int := tabTo (fun u => at0 F.a ((u : Int) * (B.s.length : Int) + at0 B.e y)) A.s.length
def fix2 (A B : Cat) (F : Fct) (y : Int) : Fct := ⟨A, F.T, fixO2 A B F y, fixA2 A B F y⟩
noncomputable def tvCode (A B : Cat) (F : Fct) (i : Bool) : Int := if fIsCategory A = true ∧ fIsCategory B = true ∧ fIsFunctor F = true then (if i = true then (if bP (F.S = prodM A B) = true then 0 else 5) else 2) else 1
theorem tvc_1 {A B : Cat} {F : Fct} {i : Bool} (h : ¬ (fIsCategory A = true ∧ fIsCategory B = true ∧ fIsFunctor F = true)) : tvCode A B F i = 1 := if_neg h
theorem tvc_2 {A B : Cat} {F : Fct} {i : Bool} (h : fIsCategory A = true ∧ fIsCategory B = true ∧ fIsFunctor F = true) (hi : i = false) : tvCode A B F i = 2 := by unfold tvCode; rw [if_pos h, if_neg (by rw [hi]; decide)]
theorem tvc_5 {A B : Cat} {F : Fct} {i : Bool} (h : fIsCategory A = true ∧ fIsCategory B = true ∧ fIsFunctor F = true) (hi : i = true) (hs : ¬ F.S = prodM A B) : tvCode A B F i = 5 := by unfold tvCode; rw [if_pos h, if_pos hi, if_neg (by rw [bP_f hs]; decide)]
theorem tvc_0 {A B : Cat} {F : Fct} {i : Bool} (h : fIsCategory A = true ∧ fIsCategory B = true ∧ fIsFunctor F = true) (hi : i = true) (hs : F.S = prodM A B) : tvCode A B F i = 0 := by unfold tvCode; rw [if_pos h, if_pos hi, if_pos (bP_t hs)]
structure TvP (A B : Cat) (F : Fct) : Prop where
  ca : fIsCategory A = true
  cb : fIsCategory B = true
  cf : fIsFunctor F = true
  hs : F.S = prodM A B
theorem tvc_t {A B : Cat} {F : Fct} {i : Bool} (h : tvCode A B F i = 0) : i = true ∧ TvP A B F := by
  by_cases h1 : fIsCategory A = true ∧ fIsCategory B = true ∧ fIsFunctor F = true
  · cases i with
    | false => rw [tvc_2 h1 rfl] at h; omega
    | true =>
      by_cases h3 : F.S = prodM A B
      · exact ⟨rfl, h1.1, h1.2.1, h1.2.2, h3⟩
      · rw [tvc_5 h1 rfl h3] at h; omega
  · rw [tvc_1 h1] at h; omega
structure TvL (A B : Cat) (F : Fct) : Prop where
  a0 : 0 ≤ A.ob
  a8 : A.ob ≤ 8
  an : A.s.length ≤ 40
  ae : (A.e.length : Int) = A.ob
  b0 : 0 ≤ B.ob
  b8 : B.ob ≤ 8
  bn : B.s.length ≤ 40
  be : (B.e.length : Int) = B.ob
  fo : (F.o.length : Int) = A.ob * B.ob
  fa : F.a.length = A.s.length * B.s.length
  ia : ∀ k : Int, 0 ≤ k → k < A.ob → 0 ≤ at0 A.e k ∧ at0 A.e k < A.s.length
  ib : ∀ k : Int, 0 ≤ k → k < B.ob → 0 ≤ at0 B.e k ∧ at0 B.e k < B.s.length
theorem e_in {c : Cat} (hS : ShapeP c) (k : Int) (h0 : 0 ≤ k) (h1 : k < c.ob) : 0 ≤ at0 c.e k ∧ at0 c.e k < c.s.length := by
  obtain ⟨n, rfl⟩ := Int.eq_ofNat_of_zero_le h0
  have := hS.id n (by have := hS.el; omega)
  exact this.1
theorem tvL {A B : Cat} {F : Fct} (h : TvP A B F) : TvL A B F := by
  have sa := (isCat_of h.ca).toShapeP; have sb := (isCat_of h.cb).toShapeP; have hF := isf_of h.cf
  have h1 := hF.lo; have h2 := hF.la
  rw [h.hs] at h1 h2
  have h3 : (prodM A B).s.length = B.s.length * A.s.length := tab2_len (pdS A B) B.s.length A.s.length 0
  rw [h3, Nat.mul_comm] at h2
  exact ⟨sa.ob0, sa.ob8, sa.n40, by have := sa.el; omega, sb.ob0, sb.ob8, sb.n40, by have := sb.el; omega, h1, by omega, e_in sa, e_in sb⟩
theorem fit_tv {A B : Cat} {F : Fct} (h : fIsFunctor F = true) (hs : F.S = prodM A B) : FitP (prodM A B) := by
  have := (isCat_of (isf_of h).cs).toShapeP
  rw [← hs]; exact ⟨this.ob8, this.n40⟩
theorem prv_0 {c d : Cat} (h : fIsCategory c = true) (h' : fIsCategory d = true) (h2 : (fProductCategory c d).2 = 0) : FitP (prodM c d) := by
  refine Classical.byContradiction fun hn => ?_
  rw [prd_l h h' hn] at h2; exact absurd h2 (by decide)
theorem prv_3 {c d : Cat} (h : fIsCategory c = true) (h' : fIsCategory d = true) (h2 : ¬ (fProductCategory c d).2 = 0) : ¬ FitP (prodM c d) :=
  fun hf => h2 (by rw [prd_t h h' hf])
theorem allP_v {xs : List Int} (h : AllP 100 xs) {i : Nat} (hi : i < xs.length) : 0 ≤ at0 xs (i : Int) ∧ at0 xs (i : Int) ≤ 100 := ⟨(allP_at h hi).1, by have := (allP_at h hi).2; omega⟩
theorem mul_in {x y a b : Int} (x0 : 0 ≤ x) (x1 : x < a) (y0 : 0 ≤ y) (y1 : y < b) : 0 ≤ x * b + y ∧ x * b + y < a * b := by
  have h1 := Int.mul_nonneg x0 (by omega : (0 : Int) ≤ b)
  have h2 := Int.mul_le_mul_of_nonneg_right (by omega : x + 1 ≤ a) (by omega : (0 : Int) ≤ b)
  rw [Int.add_mul, Int.one_mul] at h2
  exact ⟨by omega, by omega⟩
noncomputable def fFixFirst (A B : Cat) (F : Fct) (x : Int) : Fct × Int := if tvCode A B F (bP (0 ≤ x ∧ x < A.ob)) = 0 then (fix1 A B F x, 0) else (fct0, tvCode A B F (bP (0 ≤ x ∧ x < A.ob)))
theorem fx1_t {A B : Cat} {F : Fct} {x : Int} (h : tvCode A B F (bP (0 ≤ x ∧ x < A.ob)) = 0) : fFixFirst A B F x = (fix1 A B F x, 0) := if_pos h
theorem fx1_f {A B : Cat} {F : Fct} {x : Int} (h : ¬ tvCode A B F (bP (0 ≤ x ∧ x < A.ob)) = 0) : fFixFirst A B F x = (fct0, tvCode A B F (bP (0 ≤ x ∧ x < A.ob))) := if_neg h
noncomputable def fFixSecond (A B : Cat) (F : Fct) (y : Int) : Fct × Int := if tvCode A B F (bP (0 ≤ y ∧ y < B.ob)) = 0 then (fix2 A B F y, 0) else (fct0, tvCode A B F (bP (0 ≤ y ∧ y < B.ob)))
theorem fx2_t {A B : Cat} {F : Fct} {y : Int} (h : tvCode A B F (bP (0 ≤ y ∧ y < B.ob)) = 0) : fFixSecond A B F y = (fix2 A B F y, 0) := if_pos h
theorem fx2_f {A B : Cat} {F : Fct} {y : Int} (h : ¬ tvCode A B F (bP (0 ≤ y ∧ y < B.ob)) = 0) : fFixSecond A B F y = (fct0, tvCode A B F (bP (0 ≤ y ∧ y < B.ob))) := if_neg h
theorem bound_FixFirst (A B : Cat) (F : Fct) (x : Int) : mzF (fFixFirst A B F x).1 ≤ 3500000000000000 := by
  by_cases h : tvCode A B F (bP (0 ≤ x ∧ x < A.ob)) = 0
  · have hp := (tvc_t h).2; have hl := tvL hp
    have h1 := mz_cat hp.cb; have h2 := mz_cat (isf_of hp.cf).ct
    have b8 := hl.b8; have b0 := hl.b0; have bn := hl.bn
    rw [fx1_t h]
    show mzC B + mzC F.T + (fixO1 B F x).length + (fixA1 A B F x).length ≤ _
    unfold fixO1 fixA1; rw [tabTo_len, tabTo_len]; omega
  · rw [fx1_f h]; show mzF fct0 ≤ _; decide
theorem bound_FixSecond (A B : Cat) (F : Fct) (y : Int) : mzF (fFixSecond A B F y).1 ≤ 3500000000000000 := by
  by_cases h : tvCode A B F (bP (0 ≤ y ∧ y < B.ob)) = 0
  · have hp := (tvc_t h).2; have hl := tvL hp
    have h1 := mz_cat hp.ca; have h2 := mz_cat (isf_of hp.cf).ct
    have a8 := hl.a8; have a0 := hl.a0; have an := hl.an
    rw [fx2_t h]
    show mzC A + mzC F.T + (fixO2 A B F y).length + (fixA2 A B F y).length ≤ _
    unfold fixO2 fixA2; rw [tabTo_len, tabTo_len]; omega
  · rw [fx2_f h]; show mzF fct0 ≤ _; decide
theorem fix_eq1 (φ : Int → Int → Int) (G : List Int) (x : Int) (n : Nat) : thenL (prL φ [x] (numL n)) G = tabTo (fun y => at0 G (φ x (y : Int))) n := by
  unfold thenL prL tab2 tabTo
  rw [List.map_map, numL_len]
  apply List.ext_getElem
  · simp
  · intro i h1 h2
    have hi : i < n := by simpa using h2
    simp only [List.getElem_map, List.getElem_range, Function.comp_apply, Nat.div_eq_of_lt hi, Nat.mod_eq_of_lt hi, numL_at hi]
    rfl
theorem fix_eq2 (φ : Int → Int → Int) (G : List Int) (y : Int) (n : Nat) : thenL (prL φ (numL n) [y]) G = tabTo (fun x => at0 G (φ (x : Int) y)) n := by
  unfold thenL prL tab2 tabTo
  rw [List.map_map, numL_len]
  apply List.ext_getElem
  · simp
  · intro i h1 h2
    have hi : i < n := by simpa using h2
    simp only [List.getElem_map, List.getElem_range, Function.comp_apply, List.length_singleton, Nat.div_one, Nat.mod_one, numL_at hi]
    rfl

set_option maxHeartbeats 1000000 in
set_option maxRecDepth 100000 in
theorem tvFits_any (w : World) (c1p c2p c4p d1p d2p d4p s1p s2p s3p s4p t1p t2p t3p t4p : Option Addr) (c1n c1q c2n c2q c4n c4q d1n d1q d2n d2q d4n d4q s1n s1q s2n s2q s3n s3q s4n s4q t1n t1q t2n t2q t3n t3q t4n t4q : Nat) (ea : Option Addr) (ek : Nat) (eb : Option Addr) (el : Nat) (oa : Option Addr) (ok : Nat) (aa : Option Addr) (ak : Nat) (A B : Cat) (F : Fct) (hA : RdC w (.agg #[.int .i64 A.ob, .slice c1p c1n c1q, .slice c2p c2n c2q, .slice ea A.e.length ek, .slice c4p c4n c4q]) A) (hB : RdC w (.agg #[.int .i64 B.ob, .slice d1p d1n d1q, .slice d2p d2n d2q, .slice eb B.e.length el, .slice d4p d4n d4q]) B) (hF : RdF w (.agg #[.int .i64 F.S.ob, .slice s1p s1n s1q, .slice s2p s2n s2q, .slice s3p s3n s3q, .slice s4p s4n s4q, .int .i64 F.T.ob, .slice t1p t1n t1q, .slice t2p t2n t2q, .slice t3p t3n t3q, .slice t4p t4n t4q, .slice oa F.o.length ok, .slice aa F.a.length ak]) F) (hc : fIsCategory A = true ∧ fIsCategory B = true ∧ fIsFunctor F = true) :
    Calls Try.prog 118 #[.agg #[.int .i64 A.ob, .slice c1p c1n c1q, .slice c2p c2n c2q, .slice ea A.e.length ek, .slice c4p c4n c4q, .int .i64 B.ob, .slice d1p d1n d1q, .slice d2p d2n d2q, .slice eb B.e.length el, .slice d4p d4n d4q, .int .i64 F.S.ob, .slice s1p s1n s1q, .slice s2p s2n s2q, .slice s3p s3n s3q, .slice s4p s4n s4q, .int .i64 F.T.ob, .slice t1p t1n t1q, .slice t2p t2n t2q, .slice t3p t3n t3q, .slice t4p t4n t4q, .slice oa F.o.length ok, .slice aa F.a.length ak]] w (RetB w (bP (F.S = prodM A B))) := by
  have hFp := rdF_parts hF
  have hFS := hFp.1; have hFT := hFp.2.1; have hFo := hFp.2.2.1; have hFa := hFp.2.2.2
  have hAe := rdC_e hA; have hBe := rdC_e hB
  go_enter Try.func118, Try.ntmps118
  refine gc_enter (N := 22) rfl (look_cons (k := 0) rfl (look_nil _)) ?_
  refine gc_seq fun K1 hK1 => ?_
  refine gc_region ?_
  refine g_op (.free rfl) fun K3 hK3 => ?_
  refine go_box rfl rfl rfl rfl rfl ?_
  intro B2
  refine hK3 _ _ ?_
  refine g_v (.free rfl) rfl rfl (qt_assign rfl rfl) ?_
  refine g_nil ?_
  refine gk_then (hK1 _ _ ?_)
  refine gc_seq fun K4 hK4 => ?_
  refine gc_region ?_
  refine g_v (.free rfl) rfl rfl (qt_field (z := 4) (off := 0) rfl rfl Try.underlying78 rfl (by kernel_rfl) rfl) ?_
  refine g_v (.free rfl) rfl rfl (qt_loadP (n := 0) (z := 5) rfl rfl Try.underlying30 rfl (by kernel_rfl) rfl (by first | decide | exact Nat.le_refl _ | simp)) ?_
  refine g_v (.free rfl) rfl rfl (qt_field (z := 4) (off := 5) rfl rfl Try.underlying78 rfl (by kernel_rfl) rfl) ?_
  refine g_v (.free rfl) rfl rfl (qt_loadP (n := 0) (z := 5) rfl rfl Try.underlying30 rfl (by kernel_rfl) rfl (by first | decide | exact Nat.le_refl _ | simp)) ?_
  refine g_op (.free rfl) fun K6 hK6 => ?_
  refine go_callCI rfl rfl rfl Try.func146 rfl (by decide) rfl (fun w M => impl_ProductCategory w _ _ _ _ (mem_rdC M hA) (mem_rdC M hB)) ?_
  intro ca5 cb5 cc5 cd5 ce5 cf5 cg5 ch5 cu5
  refine hK6 _ _ ?_
  refine g_v (.free rfl) rfl rfl (qt_move rfl rfl) ?_
  refine g_v (.free rfl) rfl rfl (qt_extract rfl rfl rfl) ?_
  refine g_v (.free rfl) rfl rfl (qt_extract rfl rfl rfl) ?_
  refine g_op (.free rfl) fun K8 hK8 => ?_
  refine go_alloc (z := (.agg #[.int .i64 0, .slice none 0 0, .slice none 0 0, .slice none 0 0, .slice none 0 0])) (cs := [.int .i64 0, .slice none 0 0, .slice none 0 0, .slice none 0 0, .slice none 0 0]) rfl rfl rfl (fun w => by kernel_rfl) rfl ?_
  intro B7
  refine hK8 _ _ ?_
  refine g_op (.free rfl) fun K9 hK9 => ?_
  refine go_storeS (n := 5) rfl rfl rfl rfl (by kernel_rfl) rfl rfl rfl ?_
  refine hK9 _ _ ?_
  refine g_v (.free rfl) rfl rfl (qt_assign rfl rfl) ?_
  refine g_nil ?_
  refine gk_then (hK4 _ _ ?_)
  refine gc_seq fun K10 hK10 => ?_
  refine gc_region ?_
  refine g_v (.free rfl) rfl rfl (qt_move rfl rfl) ?_
  refine g_v (.free rfl) rfl rfl (qt_eql rfl rfl rfl) ?_
  refine g_splitv (.free rfl) rfl rfl (qt_move rfl rfl) (fun hs2_2 => ?_) (fun hs2_2 => ?_)
  · try simp only [decide_eq_true_eq, decide_eq_false_iff_not, Bool.not_eq_true', Bool.not_eq_false', Bool.not_eq_eq_eq_not, Bool.not_true, Bool.not_false, ne_eq, Decidable.not_not, Classical.not_not] at hs2_2
    refine g_v (.held _ _ _ rfl rfl rfl) rfl rfl (qt_field (z := 11) (off := 10) rfl rfl Try.underlying78 rfl (by kernel_rfl) rfl) ?_
    refine g_v (.held _ _ _ rfl rfl rfl) rfl rfl (qt_field (z := 4) (off := 0) rfl rfl Try.underlying32 rfl (by kernel_rfl) rfl) ?_
    refine g_v (.held _ _ _ rfl rfl rfl) rfl rfl (qt_loadP (n := 0) (z := 5) rfl rfl Try.underlying30 rfl (by kernel_rfl) rfl (by first | decide | exact Nat.le_refl _ | simp)) ?_
    refine g_v (.held _ _ _ rfl rfl rfl) rfl rfl (qt_loadS (n := 5) rfl rfl Try.underlying30 rfl (by kernel_rfl) rfl) ?_
    refine g_q (.held _ _ _ rfl rfl rfl) rfl rfl (qt_call rfl Try.func147 rfl (by decide) rfl (fun w M => equals_any w _ _ (mem_rdC M hFS) _ _ (rdC_mk ((mem_own1 (n := 1) M rfl).rd) ((mem_own1 (n := 2) M rfl).rd) ((mem_own1 (n := 3) M rfl).rd) (mem_rdU (n := 4) M rfl)))) ?_
    refine g_v (.free rfl) rfl rfl (qt_pick_t rfl rfl rfl) ?_
    refine g_v (.free rfl) rfl rfl (qt_assign rfl rfl) ?_
    refine g_nil ?_
    refine gk_then (hK10 _ _ ?_)
    refine gc_ret ?_
    refine ret_1 rfl rfl  (fun w M => ?_)
    first | (have f2 := prv_0 hc.1 hc.2.1 hs2_2; rw [prd_t hc.1 hc.2.1 f2]; exact ⟨rfl, M.1⟩) | (have f3 := prv_3 hc.1 hc.2.1 hs2_2; rw [bP_f (fun hs => f3 (fit_tv hc.2.2 hs))]; exact ⟨rfl, M.1⟩)
  · try simp only [decide_eq_true_eq, decide_eq_false_iff_not, Bool.not_eq_true', Bool.not_eq_false', Bool.not_eq_eq_eq_not, Bool.not_true, Bool.not_false, ne_eq, Decidable.not_not, Classical.not_not] at hs2_2
    refine g_skip (.not _ _ _ _ rfl rfl rfl rfl) rfl rfl ?_
    refine g_skip (.not _ _ _ _ rfl rfl rfl rfl) rfl rfl ?_
    refine g_skip (.not _ _ _ _ rfl rfl rfl rfl) rfl rfl ?_
    refine g_skip (.not _ _ _ _ rfl rfl rfl rfl) rfl rfl ?_
    refine g_skip (.not _ _ _ _ rfl rfl rfl rfl) rfl rfl ?_
    refine g_v (.free rfl) rfl rfl (qt_pick_f rfl rfl rfl) ?_
    refine g_v (.free rfl) rfl rfl (qt_assign rfl rfl) ?_
    refine g_nil ?_
    refine gk_then (hK10 _ _ ?_)
    refine gc_ret ?_
    refine ret_1 rfl rfl  (fun w M => ?_)
    first | (have f2 := prv_0 hc.1 hc.2.1 hs2_2; rw [prd_t hc.1 hc.2.1 f2]; exact ⟨rfl, M.1⟩) | (have f3 := prv_3 hc.1 hc.2.1 hs2_2; rw [bP_f (fun hs => f3 (fit_tv hc.2.2 hs))]; exact ⟨rfl, M.1⟩)

set_option maxHeartbeats 1000000 in
set_option maxRecDepth 100000 in
theorem tvCheck_any (w : World) (c1p c2p c4p d1p d2p d4p s1p s2p s3p s4p t1p t2p t3p t4p : Option Addr) (c1n c1q c2n c2q c4n c4q d1n d1q d2n d2q d4n d4q s1n s1q s2n s2q s3n s3q s4n s4q t1n t1q t2n t2q t3n t3q t4n t4q : Nat) (ea : Option Addr) (ek : Nat) (eb : Option Addr) (el : Nat) (oa : Option Addr) (ok : Nat) (aa : Option Addr) (ak : Nat) (A B : Cat) (F : Fct) (hA : RdC w (.agg #[.int .i64 A.ob, .slice c1p c1n c1q, .slice c2p c2n c2q, .slice ea A.e.length ek, .slice c4p c4n c4q]) A) (hB : RdC w (.agg #[.int .i64 B.ob, .slice d1p d1n d1q, .slice d2p d2n d2q, .slice eb B.e.length el, .slice d4p d4n d4q]) B) (hF : RdF w (.agg #[.int .i64 F.S.ob, .slice s1p s1n s1q, .slice s2p s2n s2q, .slice s3p s3n s3q, .slice s4p s4n s4q, .int .i64 F.T.ob, .slice t1p t1n t1q, .slice t2p t2n t2q, .slice t3p t3n t3q, .slice t4p t4n t4q, .slice oa F.o.length ok, .slice aa F.a.length ak]) F) (hc : fIsCategory A = true ∧ fIsCategory B = true ∧ fIsFunctor F = true) (v : Value) (X : Cat) (h : RdC w v X) (x : Int) :
    Calls Try.prog 70 #[.agg #[.int .i64 A.ob, .slice c1p c1n c1q, .slice c2p c2n c2q, .slice ea A.e.length ek, .slice c4p c4n c4q, .int .i64 B.ob, .slice d1p d1n d1q, .slice d2p d2n d2q, .slice eb B.e.length el, .slice d4p d4n d4q, .int .i64 F.S.ob, .slice s1p s1n s1q, .slice s2p s2n s2q, .slice s3p s3n s3q, .slice s4p s4n s4q, .int .i64 F.T.ob, .slice t1p t1n t1q, .slice t2p t2n t2q, .slice t3p t3n t3q, .slice t4p t4n t4q, .slice oa F.o.length ok, .slice aa F.a.length ak], v, .int .i64 x] w (RetI w (tvCode A B F (bP (0 ≤ x ∧ x < X.ob)))) := by
  have h0 := h
  obtain ⟨va, vb, vc, vd, ve, vf, vg, vh, rfl, h1, h2, h3, h4, _⟩ := h.lists
  have hFp := rdF_parts hF
  have hFS := hFp.1; have hFT := hFp.2.1; have hFo := hFp.2.2.1; have hFa := hFp.2.2.2
  have hAe := rdC_e hA; have hBe := rdC_e hB
  go_enter Try.func70, Try.ntmps70
  refine gc_enter (N := 15) rfl (look_cons (k := 0) rfl (look_cons (k := 1) rfl (look_cons (k := 2) rfl (look_nil _)))) ?_
  refine gc_seq fun K1 hK1 => ?_
  refine gc_region ?_
  refine g_op (.free rfl) fun K3 hK3 => ?_
  refine go_box rfl rfl rfl rfl rfl ?_
  intro B2
  refine hK3 _ _ ?_
  refine g_op (.free rfl) fun K5 hK5 => ?_
  refine go_box rfl rfl rfl rfl rfl ?_
  intro B4
  refine hK5 _ _ ?_
  refine g_v (.free rfl) rfl rfl (qt_assign rfl rfl) ?_
  refine g_nil ?_
  refine gk_then (hK1 _ _ ?_)
  refine gc_seq fun K6 hK6 => ?_
  refine gc_seq fun K7 hK7 => ?_
  refine gc_region ?_
  refine g_v (.free rfl) rfl rfl (qt_loadS (n := 1) rfl rfl Try.underlying30 rfl (by kernel_rfl) rfl) ?_
  refine g_v (.free rfl) rfl rfl (qt_move rfl rfl) ?_
  refine g_op (.free rfl) fun K9 hK9 => ?_
  refine go_slice1 rfl rfl rfl rfl Try.underlying22 ?_
  intro B8
  refine hK9 _ _ ?_
  refine g_q (.free rfl) rfl rfl (qt_call rfl Try.func117 rfl (by decide) rfl (fun w M => hasObjects_any w _ _ _ _ (_) (mem_rdC M h0) ((mem_own1 (n := 2) M rfl).rd) (rfl))) ?_
  refine g_v (.free rfl) rfl rfl (qt_not rfl rfl) ?_
  refine g_nil ?_
  refine gk_then (hK7 _ _ ?_)
  refine gc_cond rfl (fun hc0 => ?_) (fun hc0 => ?_)
  · try simp only [decide_eq_true_eq, decide_eq_false_iff_not, Bool.not_eq_true', Bool.not_eq_false', Bool.not_eq_eq_eq_not, Bool.not_true, Bool.not_false, ne_eq, Decidable.not_not, Classical.not_not] at hc0
    refine gc_seq fun K10 hK10 => ?_
    refine gc_region ?_
    refine g_v (.free rfl) rfl rfl (qt_assign rfl rfl) ?_
    refine g_nil ?_
    refine gk_then (hK10 _ _ ?_)
    refine gc_ret ?_
    refine gk_then_ret ?_
    refine ret_1 rfl rfl  (fun w M => ?_)
    rw [tvc_2 hc (bP_f (fun hq => bP_f' hc0 (allP_one.2 hq)))]; exact ⟨rfl, M.1⟩
  · try simp only [decide_eq_true_eq, decide_eq_false_iff_not, Bool.not_eq_true', Bool.not_eq_false', Bool.not_eq_eq_eq_not, Bool.not_true, Bool.not_false, ne_eq, Decidable.not_not, Classical.not_not] at hc0
    refine gc_skip ?_
    refine gk_then (hK6 _ _ ?_)
    refine gc_seq fun K11 hK11 => ?_
    refine gc_seq fun K12 hK12 => ?_
    refine gc_region ?_
    refine g_v (.free rfl) rfl rfl (qt_loadS (n := 0) rfl rfl Try.underlying78 rfl (by kernel_rfl) rfl) ?_
    refine g_q (.free rfl) rfl rfl (qt_call rfl Try.func118 rfl (by decide) rfl (fun w M => tvFits_any w _ _ _ _ _ _ _ _ _ _ _ _ _ _ _ _ _ _ _ _ _ _ _ _ _ _ _ _ _ _ _ _ _ _ _ _ _ _ _ _ _ _ _ _ _ _ _ _ _ _ _ _ _ (mem_rdC M hA) (mem_rdC M hB) (mem_rdF M hF) hc)) ?_
    refine g_v (.free rfl) rfl rfl (qt_not rfl rfl) ?_
    refine g_nil ?_
    refine gk_then (hK12 _ _ ?_)
    refine gc_cond rfl (fun hc1 => ?_) (fun hc1 => ?_)
    · try simp only [decide_eq_true_eq, decide_eq_false_iff_not, Bool.not_eq_true', Bool.not_eq_false', Bool.not_eq_eq_eq_not, Bool.not_true, Bool.not_false, ne_eq, Decidable.not_not, Classical.not_not] at hc1
      refine gc_seq fun K13 hK13 => ?_
      refine gc_region ?_
      refine g_v (.free rfl) rfl rfl (qt_assign rfl rfl) ?_
      refine g_nil ?_
      refine gk_then (hK13 _ _ ?_)
      refine gc_ret ?_
      refine gk_then_ret ?_
      refine ret_1 rfl rfl  (fun w M => ?_)
      rw [tvc_5 hc (bP_t (allP_one.1 (bP_t' hc0))) (bP_f' hc1)]; exact ⟨rfl, M.1⟩
    · try simp only [decide_eq_true_eq, decide_eq_false_iff_not, Bool.not_eq_true', Bool.not_eq_false', Bool.not_eq_eq_eq_not, Bool.not_true, Bool.not_false, ne_eq, Decidable.not_not, Classical.not_not] at hc1
      refine gc_skip ?_
      refine gk_then (hK11 _ _ ?_)
      refine gc_seq fun K14 hK14 => ?_
      refine gc_region ?_
      refine g_v (.free rfl) rfl rfl (qt_assign rfl rfl) ?_
      refine g_nil ?_
      refine gk_then (hK14 _ _ ?_)
      refine gc_ret ?_
      refine ret_1 rfl rfl  (fun w M => ?_)
      rw [tvc_0 hc (bP_t (allP_one.1 (bP_t' hc0))) (bP_t' hc1)]; exact ⟨rfl, M.1⟩

set_option maxHeartbeats 1000000 in
set_option maxRecDepth 100000 in
theorem objectsAt_any (w : World) (c1p c2p c4p d1p d2p d4p s1p s2p s3p s4p t1p t2p t3p t4p : Option Addr) (c1n c1q c2n c2q c4n c4q d1n d1q d2n d2q d4n d4q s1n s1q s2n s2q s3n s3q s4n s4q t1n t1q t2n t2q t3n t3q t4n t4q : Nat) (ea : Option Addr) (ek : Nat) (eb : Option Addr) (el : Nat) (oa : Option Addr) (ok : Nat) (aa : Option Addr) (ak : Nat) (A B : Cat) (F : Fct) (hA : RdC w (.agg #[.int .i64 A.ob, .slice c1p c1n c1q, .slice c2p c2n c2q, .slice ea A.e.length ek, .slice c4p c4n c4q]) A) (hB : RdC w (.agg #[.int .i64 B.ob, .slice d1p d1n d1q, .slice d2p d2n d2q, .slice eb B.e.length el, .slice d4p d4n d4q]) B) (hF : RdF w (.agg #[.int .i64 F.S.ob, .slice s1p s1n s1q, .slice s2p s2n s2q, .slice s3p s3n s3q, .slice s4p s4n s4q, .int .i64 F.T.ob, .slice t1p t1n t1q, .slice t2p t2n t2q, .slice t3p t3n t3q, .slice t4p t4n t4q, .slice oa F.o.length ok, .slice aa F.a.length ak]) F)  (p : Value) (xs : List Int) (q : Value) (ys : List Int) (hx : Rd w p xs) (hy : Rd w q ys) (xl : xs.length ≤ 40) (yl : ys.length ≤ 40) (hpx : AllP 100 xs) (hpy : AllP 100 ys) (b0 : 0 ≤ B.ob) (b1 : B.ob ≤ 100) (hin : AllP F.o.length (prL (fun a b => a * B.ob + b) xs ys)) :
    Calls Try.prog 119 #[.agg #[.int .i64 A.ob, .slice c1p c1n c1q, .slice c2p c2n c2q, .slice ea A.e.length ek, .slice c4p c4n c4q, .int .i64 B.ob, .slice d1p d1n d1q, .slice d2p d2n d2q, .slice eb B.e.length el, .slice d4p d4n d4q, .int .i64 F.S.ob, .slice s1p s1n s1q, .slice s2p s2n s2q, .slice s3p s3n s3q, .slice s4p s4n s4q, .int .i64 F.T.ob, .slice t1p t1n t1q, .slice t2p t2n t2q, .slice t3p t3n t3q, .slice t4p t4n t4q, .slice oa F.o.length ok, .slice aa F.a.length ak], p, q] w (RetL w (thenL (prL (fun a b => a * B.ob + b) xs ys) F.o)) := by
  obtain ⟨pa, pc, rfl⟩ := rd_form hx
  obtain ⟨qa, qc, rfl⟩ := rd_form hy
  have hFp := rdF_parts hF
  have hFS := hFp.1; have hFT := hFp.2.1; have hFo := hFp.2.2.1; have hFa := hFp.2.2.2
  have hAe := rdC_e hA; have hBe := rdC_e hB
  go_enter Try.func119, Try.ntmps119
  refine gc_enter (N := 18) rfl (look_cons (k := 0) rfl (look_cons (k := 1) rfl (look_cons (k := 2) rfl (look_nil _)))) ?_
  refine gc_seq fun K1 hK1 => ?_
  refine gc_region ?_
  refine g_op (.free rfl) fun K3 hK3 => ?_
  refine go_box rfl rfl rfl rfl rfl ?_
  intro B2
  refine hK3 _ _ ?_
  refine g_v (.free rfl) rfl rfl (qt_assign rfl rfl) ?_
  refine g_nil ?_
  refine gk_then (hK1 _ _ ?_)
  refine gc_seq fun K4 hK4 => ?_
  try simp only [List.nil_append, List.cons_append, List.append_assoc, List.set_cons_succ, List.set_cons_zero]
  refine ga_start _ (fun w M => M) ?_
  refine ga_v 0 rfl (by kernel_rfl) (by kernel_rfl) (by kernel_rfl) (.free rfl) rfl rfl (qt_move rfl rfl) (fun _ _ _ h => h) ?_
  refine ga_v 1 rfl (by kernel_rfl) (by kernel_rfl) (by kernel_rfl) (.free rfl) rfl rfl (qt_move rfl rfl) (fun _ _ _ h => h) ?_
  refine ga_v 2 rfl (by kernel_rfl) (by kernel_rfl) (by kernel_rfl) (.free rfl) rfl rfl (qt_field (z := 4) (off := 5) rfl rfl Try.underlying78 rfl (by kernel_rfl) rfl) (fun _ _ _ h => h) ?_
  refine ga_v 3 rfl (by kernel_rfl) (by kernel_rfl) (by kernel_rfl) (.free rfl) rfl rfl (qt_field (z := 0) (off := 0) rfl rfl Try.underlying30 rfl (by kernel_rfl) rfl) (fun _ _ _ h => h) ?_
  refine ga_v 4 rfl (by kernel_rfl) (by kernel_rfl) (by kernel_rfl) (.free rfl) rfl rfl (qt_loadB (n := 0) rfl rfl Try.underlying2 rfl rfl rfl) (fun _ _ _ h => h) ?_
  refine ga_v 7 rfl (by kernel_rfl) (by kernel_rfl) (by kernel_rfl) (.free rfl) rfl rfl (qt_field (z := 11) (off := 10) rfl rfl Try.underlying78 rfl (by kernel_rfl) rfl) (fun _ _ _ h => h) ?_
  refine ga_v 8 rfl (by kernel_rfl) (by kernel_rfl) (by kernel_rfl) (.free rfl) rfl rfl (qt_field (z := 0) (off := 10) rfl rfl Try.underlying32 rfl (by kernel_rfl) rfl) (fun _ _ _ h => h) ?_
  refine ga_v 9 rfl (by kernel_rfl) (by kernel_rfl) (by kernel_rfl) (.free rfl) rfl rfl (qt_loadB (n := 0) rfl rfl Try.underlying22 rfl rfl rfl) (fun _ _ _ h => h) ?_
  refine ga_op 5 (by kernel_rfl) rfl (.free rfl) fun K6 hK6 => ?_
  refine go_callPn rfl rfl rfl Try.func149 rfl (by decide) rfl (fun w M => pairNumber_any w _) ?_
  intro B5
  refine hK6 _ _ (fun w M => (mem_take 1 M :)) ?_
  refine ga_op 6 (by kernel_rfl) rfl (.free rfl) fun K8 hK8 => ?_
  refine go_callL rfl rfl rfl Try.func148 rfl (by decide) rfl (fun w M => combined_any w _ _ _ _ (mem_rd M hx) (mem_rd M hy) (by omega) (by omega) _ (fun a b => a * _ + b) (fun w' hb i j hi hj => callsV_f (bnd := []) (vs := [_, _]) (caps := [_]) Try.func176 rfl (by decide) (pairN1_any w' _ _ _ _ (bxV_below hb (bxV_of (n := 1) M rfl)) (allP_v hpx hi).1 (allP_v hpx hi).2 (allP_v hpy hj).1 (allP_v hpy hj).2 (by omega) (by omega)))) ?_
  intro va7 vc7
  refine hK8 _ _ (fun w M => (mem_take 1 M :)) ?_
  refine ga_op 10 (by kernel_rfl) rfl (.free rfl) fun K10 hK10 => ?_
  refine go_callL rfl rfl rfl Try.func81 rfl (by decide) rfl (fun w M => imagesOf_any w _ _ _ _ ((mem_own1 (n := 2) M rfl).rd) (mem_rd M hFo) (hin)) ?_
  intro va9 vc9
  refine hK10 _ _ (fun w M => (mem_take 1 M :)) ?_
  refine ga_v 11 rfl (by kernel_rfl) (by kernel_rfl) (by kernel_rfl) (.free rfl) rfl rfl (qt_assign rfl rfl) (fun _ _ _ h => h) ?_
  refine ga_done (by kernel_rfl) ?_
  refine gk_then (hK4 _ _ ?_)
  refine gc_ret ?_
  refine ret_1 rfl rfl  (fun w M => ?_)
  exact ⟨_, rfl, mem_own1 (n := 3) M rfl, M.1⟩

set_option maxHeartbeats 1000000 in
set_option maxRecDepth 100000 in
theorem arrowsAt_any (w : World) (c1p c2p c4p d1p d2p d4p s1p s2p s3p s4p t1p t2p t3p t4p : Option Addr) (c1n c1q c2n c2q c4n c4q d1n d1q d2n d2q d4n d4q s1n s1q s2n s2q s3n s3q s4n s4q t1n t1q t2n t2q t3n t3q t4n t4q : Nat) (ea : Option Addr) (ek : Nat) (eb : Option Addr) (el : Nat) (oa : Option Addr) (ok : Nat) (aa : Option Addr) (ak : Nat) (A B : Cat) (F : Fct) (hA : RdC w (.agg #[.int .i64 A.ob, .slice c1p c1n c1q, .slice c2p c2n c2q, .slice ea A.e.length ek, .slice c4p c4n c4q]) A) (hB : RdC w (.agg #[.int .i64 B.ob, .slice d1p d1n d1q, .slice d2p d2n d2q, .slice eb B.e.length el, .slice d4p d4n d4q]) B) (hF : RdF w (.agg #[.int .i64 F.S.ob, .slice s1p s1n s1q, .slice s2p s2n s2q, .slice s3p s3n s3q, .slice s4p s4n s4q, .int .i64 F.T.ob, .slice t1p t1n t1q, .slice t2p t2n t2q, .slice t3p t3n t3q, .slice t4p t4n t4q, .slice oa F.o.length ok, .slice aa F.a.length ak]) F)  (p : Value) (xs : List Int) (q : Value) (ys : List Int) (hx : Rd w p xs) (hy : Rd w q ys) (xl : xs.length ≤ 40) (yl : ys.length ≤ 40) (hpx : AllP 100 xs) (hpy : AllP 100 ys) (b0 : 0 ≤ (B.s.length : Int)) (b1 : (B.s.length : Int) ≤ 100) (hin : AllP F.a.length (prL (fun a b => a * (B.s.length : Int) + b) xs ys)) :
    Calls Try.prog 121 #[.agg #[.int .i64 A.ob, .slice c1p c1n c1q, .slice c2p c2n c2q, .slice ea A.e.length ek, .slice c4p c4n c4q, .int .i64 B.ob, .slice d1p d1n d1q, .slice d2p d2n d2q, .slice eb B.e.length el, .slice d4p d4n d4q, .int .i64 F.S.ob, .slice s1p s1n s1q, .slice s2p s2n s2q, .slice s3p s3n s3q, .slice s4p s4n s4q, .int .i64 F.T.ob, .slice t1p t1n t1q, .slice t2p t2n t2q, .slice t3p t3n t3q, .slice t4p t4n t4q, .slice oa F.o.length ok, .slice aa F.a.length ak], p, q] w (RetL w (thenL (prL (fun a b => a * (B.s.length : Int) + b) xs ys) F.a)) := by
  obtain ⟨pa, pc, rfl⟩ := rd_form hx
  obtain ⟨qa, qc, rfl⟩ := rd_form hy
  have hFp := rdF_parts hF
  have hFS := hFp.1; have hFT := hFp.2.1; have hFo := hFp.2.2.1; have hFa := hFp.2.2.2
  have hAe := rdC_e hA; have hBe := rdC_e hB
  go_enter Try.func121, Try.ntmps121
  refine gc_enter (N := 18) rfl (look_cons (k := 0) rfl (look_cons (k := 1) rfl (look_cons (k := 2) rfl (look_nil _)))) ?_
  refine gc_seq fun K1 hK1 => ?_
  refine gc_region ?_
  refine g_op (.free rfl) fun K3 hK3 => ?_
  refine go_box rfl rfl rfl rfl rfl ?_
  intro B2
  refine hK3 _ _ ?_
  refine g_v (.free rfl) rfl rfl (qt_assign rfl rfl) ?_
  refine g_nil ?_
  refine gk_then (hK1 _ _ ?_)
  refine gc_seq fun K4 hK4 => ?_
  try simp only [List.nil_append, List.cons_append, List.append_assoc, List.set_cons_succ, List.set_cons_zero]
  refine ga_start _ (fun w M => M) ?_
  refine ga_v 0 rfl (by kernel_rfl) (by kernel_rfl) (by kernel_rfl) (.free rfl) rfl rfl (qt_move rfl rfl) (fun _ _ _ h => h) ?_
  refine ga_v 1 rfl (by kernel_rfl) (by kernel_rfl) (by kernel_rfl) (.free rfl) rfl rfl (qt_move rfl rfl) (fun _ _ _ h => h) ?_
  refine ga_v 2 rfl (by kernel_rfl) (by kernel_rfl) (by kernel_rfl) (.free rfl) rfl rfl (qt_field (z := 4) (off := 5) rfl rfl Try.underlying78 rfl (by kernel_rfl) rfl) (fun _ _ _ h => h) ?_
  refine ga_v 3 rfl (by kernel_rfl) (by kernel_rfl) (by kernel_rfl) (.free rfl) rfl rfl (qt_loadP (n := 0) (z := 5) rfl rfl Try.underlying30 rfl (by kernel_rfl) rfl (by first | decide | exact Nat.le_refl _ | simp)) (fun _ _ _ h => h) ?_
  refine ga_v 7 rfl (by kernel_rfl) (by kernel_rfl) (by kernel_rfl) (.free rfl) rfl rfl (qt_field (z := 11) (off := 10) rfl rfl Try.underlying78 rfl (by kernel_rfl) rfl) (fun _ _ _ h => h) ?_
  refine ga_v 8 rfl (by kernel_rfl) (by kernel_rfl) (by kernel_rfl) (.free rfl) rfl rfl (qt_field (z := 0) (off := 11) rfl rfl Try.underlying32 rfl (by kernel_rfl) rfl) (fun _ _ _ h => h) ?_
  refine ga_v 9 rfl (by kernel_rfl) (by kernel_rfl) (by kernel_rfl) (.free rfl) rfl rfl (qt_loadB (n := 0) rfl rfl Try.underlying22 rfl rfl rfl) (fun _ _ _ h => h) ?_
  refine ga_op 4 (by kernel_rfl) rfl (.free rfl) fun K5 hK5 => ?_
  refine go_q rfl rfl (qt_call rfl Try.func122 rfl (by decide) rfl (fun w M => arrows_any w _ _ (mem_rdC M hB))) ?_
  refine hK5 _ _ (fun w M => (mem_take 1 M :)) ?_
  refine ga_op 5 (by kernel_rfl) rfl (.free rfl) fun K7 hK7 => ?_
  refine go_callPn rfl rfl rfl Try.func149 rfl (by decide) rfl (fun w M => pairNumber_any w _) ?_
  intro B6
  refine hK7 _ _ (fun w M => (mem_take 1 M :)) ?_
  refine ga_op 6 (by kernel_rfl) rfl (.free rfl) fun K9 hK9 => ?_
  refine go_callL rfl rfl rfl Try.func148 rfl (by decide) rfl (fun w M => combined_any w _ _ _ _ (mem_rd M hx) (mem_rd M hy) (by omega) (by omega) _ (fun a b => a * _ + b) (fun w' hb i j hi hj => callsV_f (bnd := []) (vs := [_, _]) (caps := [_]) Try.func176 rfl (by decide) (pairN1_any w' _ _ _ _ (bxV_below hb (bxV_of (n := 1) M rfl)) (allP_v hpx hi).1 (allP_v hpx hi).2 (allP_v hpy hj).1 (allP_v hpy hj).2 (by omega) (by omega)))) ?_
  intro va8 vc8
  refine hK9 _ _ (fun w M => (mem_take 1 M :)) ?_
  refine ga_op 10 (by kernel_rfl) rfl (.free rfl) fun K11 hK11 => ?_
  refine go_callL rfl rfl rfl Try.func81 rfl (by decide) rfl (fun w M => imagesOf_any w _ _ _ _ ((mem_own1 (n := 2) M rfl).rd) (mem_rd M hFa) (hin)) ?_
  intro va10 vc10
  refine hK11 _ _ (fun w M => (mem_take 1 M :)) ?_
  refine ga_v 11 rfl (by kernel_rfl) (by kernel_rfl) (by kernel_rfl) (.free rfl) rfl rfl (qt_assign rfl rfl) (fun _ _ _ h => h) ?_
  refine ga_done (by kernel_rfl) ?_
  refine gk_then (hK4 _ _ ?_)
  refine gc_ret ?_
  refine ret_1 rfl rfl  (fun w M => ?_)
  exact ⟨_, rfl, mem_own1 (n := 3) M rfl, M.1⟩


theorem allP_1 {n x : Int} (h0 : 0 ≤ x) (h1 : x < n) : AllP n [x] := fun z hz => by rcases List.mem_singleton.1 hz with rfl; exact ⟨h0, h1⟩
theorem allP_num {n : Nat} {k : Int} (h : (n : Int) ≤ k) : AllP k (numL n) := fun z hz => by
  unfold numL tabTo at hz
  obtain ⟨j, hj, rfl⟩ := List.mem_map.1 hz
  have := List.mem_range.1 hj
  exact ⟨by omega, by omega⟩
theorem allP_pr {xs ys : List Int} {a b n : Int} (hx : AllP a xs) (hy : AllP b ys) (hn : n = a * b) : AllP n (prL (fun a c => a * b + c) xs ys) := fun z hz => by
  unfold prL tab2 tabTo at hz
  obtain ⟨j, hj, rfl⟩ := List.mem_map.1 hz
  have hj := List.mem_range.1 hj
  have hp : 0 < ys.length := Nat.pos_of_ne_zero fun h0 => by simp [h0] at hj
  have h1 : j / ys.length < xs.length := by rw [Nat.div_lt_iff_lt_mul hp, Nat.mul_comm]; simpa using hj
  have h2 : j % ys.length < ys.length := Nat.mod_lt _ hp
  have e1 := allP_at hx h1; have e2 := allP_at hy h2
  rw [hn]
  exact mul_in e1.1 e1.2 e2.1 e2.2

set_option maxHeartbeats 1000000 in
set_option maxRecDepth 100000 in
theorem readTV_any (w : World) (v : Value) (A : Cat) (u : Value) (B : Cat) (t : Value) (F : Fct) (h : RdC w v A) (e : RdC w u B) (g : RdF w t F) :
    Calls Try.prog 69 #[v, u, t] w (RetTV w (tvA A B F) (tvB A B F) (tvF A B F) (tvE A B F)) := by
  have h0 := h
  obtain ⟨va, vb, vc, vd, ve, vf, vg, vh, rfl, h1, h2, h3, h4, _⟩ := h.lists
  have e0 := e
  obtain ⟨ua, ub, uc, ud, ue, uf, ug, uh, rfl, e1, e2, e3, e4, _⟩ := e.lists
  have g0 := g
  obtain ⟨tx1, tx2, tx3, tx4, tx5, tx6, tx7, tx8, tx9, tx10, tk1, tk2, tk3, tk4, tk5, tk6, tk7, tk8, tk9, tk10, rfl, g1, g2, g3, g4, g5, g6, g7, g8, g9, g10⟩ := g.lists
  go_enter Try.func69, Try.ntmps69
  refine gc_enter (N := 36) rfl (look_cons (k := 0) rfl (look_cons (k := 1) rfl (look_cons (k := 2) rfl (look_nil _)))) ?_
  refine gc_seq fun K1 hK1 => ?_
  refine gc_region ?_
  refine g_op (.free rfl) fun K3 hK3 => ?_
  refine go_box rfl rfl rfl rfl rfl ?_
  intro B2
  refine hK3 _ _ ?_
  refine g_op (.free rfl) fun K5 hK5 => ?_
  refine go_box rfl rfl rfl rfl rfl ?_
  intro B4
  refine hK5 _ _ ?_
  refine g_op (.free rfl) fun K7 hK7 => ?_
  refine go_box rfl rfl rfl rfl rfl ?_
  intro B6
  refine hK7 _ _ ?_
  refine g_op (.free rfl) fun K9 hK9 => ?_
  refine go_alloc (z := (.agg #[.int .i64 0, .slice none 0 0, .slice none 0 0, .slice none 0 0, .slice none 0 0, .int .i64 0, .slice none 0 0, .slice none 0 0, .slice none 0 0, .slice none 0 0, .int .i64 0, .slice none 0 0, .slice none 0 0, .slice none 0 0, .slice none 0 0, .int .i64 0, .slice none 0 0, .slice none 0 0, .slice none 0 0, .slice none 0 0, .slice none 0 0, .slice none 0 0])) (cs := [.int .i64 0, .slice none 0 0, .slice none 0 0, .slice none 0 0, .slice none 0 0, .int .i64 0, .slice none 0 0, .slice none 0 0, .slice none 0 0, .slice none 0 0, .int .i64 0, .slice none 0 0, .slice none 0 0, .slice none 0 0, .slice none 0 0, .int .i64 0, .slice none 0 0, .slice none 0 0, .slice none 0 0, .slice none 0 0, .slice none 0 0, .slice none 0 0]) rfl rfl rfl (fun w => by kernel_rfl) rfl ?_
  intro B8
  refine hK9 _ _ ?_
  refine g_v (.free rfl) rfl rfl (qt_assign rfl rfl) ?_
  refine g_nil ?_
  refine gk_then (hK1 _ _ ?_)
  refine gc_seq fun K10 hK10 => ?_
  refine gc_region ?_
  refine g_v (.free rfl) rfl rfl (qt_loadS (n := 0) rfl rfl Try.underlying30 rfl (by kernel_rfl) rfl) ?_
  refine g_v (.free rfl) rfl rfl (qt_loadS (n := 1) rfl rfl Try.underlying30 rfl (by kernel_rfl) rfl) ?_
  refine g_op (.free rfl) fun K12 hK12 => ?_
  refine go_callCCI rfl rfl rfl Try.func115 rfl (by decide) rfl (fun w M => readTwo_any w _ _ (mem_rdC M h0) _ _ (mem_rdC M e0)) ?_
  intro ca11 cb11 cc11 cd11 ce11 cf11 cg11 ch11 cu11 da11 db11 dc11 dd11 de11 df11 dg11 dh11 du11
  refine hK12 _ _ ?_
  refine g_v (.free rfl) rfl rfl (qt_move rfl rfl) ?_
  refine g_v (.free rfl) rfl rfl (qt_extract rfl rfl rfl) ?_
  refine g_v (.free rfl) rfl rfl (qt_extract rfl rfl rfl) ?_
  refine g_v (.free rfl) rfl rfl (qt_extract rfl rfl rfl) ?_
  refine g_op (.free rfl) fun K14 hK14 => ?_
  refine go_alloc (z := (.agg #[.int .i64 0, .slice none 0 0, .slice none 0 0, .slice none 0 0, .slice none 0 0])) (cs := [.int .i64 0, .slice none 0 0, .slice none 0 0, .slice none 0 0, .slice none 0 0]) rfl rfl rfl (fun w => by kernel_rfl) rfl ?_
  intro B13
  refine hK14 _ _ ?_
  refine g_op (.free rfl) fun K16 hK16 => ?_
  refine go_alloc (z := (.agg #[.int .i64 0, .slice none 0 0, .slice none 0 0, .slice none 0 0, .slice none 0 0])) (cs := [.int .i64 0, .slice none 0 0, .slice none 0 0, .slice none 0 0, .slice none 0 0]) rfl rfl rfl (fun w => by kernel_rfl) rfl ?_
  intro B15
  refine hK16 _ _ ?_
  refine g_op (.free rfl) fun K17 hK17 => ?_
  refine go_storeS (n := 12) rfl rfl rfl rfl (by kernel_rfl) rfl rfl rfl ?_
  refine hK17 _ _ ?_
  refine g_op (.free rfl) fun K18 hK18 => ?_
  refine go_storeS (n := 13) rfl rfl rfl rfl (by kernel_rfl) rfl rfl rfl ?_
  refine hK18 _ _ ?_
  refine g_v (.free rfl) rfl rfl (qt_assign rfl rfl) ?_
  refine g_nil ?_
  refine gk_then (hK10 _ _ ?_)
  refine gc_seq fun K19 hK19 => ?_
  refine gc_seq fun K20 hK20 => ?_
  refine gc_region ?_
  refine g_v (.free rfl) rfl rfl (qt_move rfl rfl) ?_
  refine g_v (.free rfl) rfl rfl (qt_neq rfl rfl rfl) ?_
  refine g_nil ?_
  refine gk_then (hK20 _ _ ?_)
  refine gc_cond rfl (fun hc0 => ?_) (fun hc0 => ?_)
  · try simp only [decide_eq_true_eq, decide_eq_false_iff_not, Bool.not_eq_true', Bool.not_eq_false', Bool.not_eq_eq_eq_not, Bool.not_true, Bool.not_false, ne_eq, Decidable.not_not, Classical.not_not] at hc0
    refine gc_seq fun K21 hK21 => ?_
    refine gc_region ?_
    refine g_v (.free rfl) rfl rfl (qt_build rfl rfl bt0_twoVariables) ?_
    refine g_v (.free rfl) rfl rfl (qt_move rfl rfl) ?_
    refine g_op (.free rfl) fun K22 hK22 => ?_
    refine go_storeS (n := 3) rfl rfl rfl rfl (by kernel_rfl) rfl rfl rfl ?_
    refine hK22 _ _ ?_
    refine g_v (.free rfl) rfl rfl (qt_assign rfl rfl) ?_
    refine g_nil ?_
    refine gk_then (hK21 _ _ ?_)
    refine gc_ret ?_
    refine gk_then_ret ?_
    refine ret_SI (n := 3) rfl rfl rfl Try.underlying78 rfl (by kernel_rfl) rfl (fun w M => ?_)
    have hn := tv_n1 (F := F) hc0; rw [hn.2.2.1, hn.2.2.2.1, hn.2.2.2.2, hn.2.1]; exact retTV_zero M.1
  · try simp only [decide_eq_true_eq, decide_eq_false_iff_not, Bool.not_eq_true', Bool.not_eq_false', Bool.not_eq_eq_eq_not, Bool.not_true, Bool.not_false, ne_eq, Decidable.not_not, Classical.not_not] at hc0
    refine gc_skip ?_
    refine gk_then (hK19 _ _ ?_)
    refine gc_seq fun K23 hK23 => ?_
    have hC := two_c hc0
    simp only [hC.1, hC.2]
    refine gc_region ?_
    refine g_v (.free rfl) rfl rfl (qt_loadS (n := 2) rfl rfl Try.underlying32 rfl (by kernel_rfl) rfl) ?_
    refine g_op (.free rfl) fun K25 hK25 => ?_
    refine go_callFI rfl rfl rfl Try.func116 rfl (by decide) rfl (fun w M => readFct_any w _ _ (mem_rdF M g0)) ?_
    intro fx1_24 fk1_24 fx2_24 fk2_24 fx3_24 fk3_24 fx4_24 fk4_24 fx5_24 fk5_24 fx6_24 fk6_24 fx7_24 fk7_24 fx8_24 fk8_24 fx9_24 fk9_24 fx10_24 fk10_24 us24 ut24
    refine hK25 _ _ ?_
    refine g_v (.free rfl) rfl rfl (qt_move rfl rfl) ?_
    refine g_v (.free rfl) rfl rfl (qt_extract rfl rfl rfl) ?_
    refine g_v (.free rfl) rfl rfl (qt_extract rfl rfl rfl) ?_
    refine g_op (.free rfl) fun K27 hK27 => ?_
    refine go_alloc (z := (.agg #[.int .i64 0, .slice none 0 0, .slice none 0 0, .slice none 0 0, .slice none 0 0, .int .i64 0, .slice none 0 0, .slice none 0 0, .slice none 0 0, .slice none 0 0, .slice none 0 0, .slice none 0 0])) (cs := [.int .i64 0, .slice none 0 0, .slice none 0 0, .slice none 0 0, .slice none 0 0, .int .i64 0, .slice none 0 0, .slice none 0 0, .slice none 0 0, .slice none 0 0, .slice none 0 0, .slice none 0 0]) rfl rfl rfl (fun w => by kernel_rfl) rfl ?_
    intro B26
    refine hK27 _ _ ?_
    refine g_op (.free rfl) fun K28 hK28 => ?_
    refine go_storeS (n := 24) rfl rfl rfl rfl (by kernel_rfl) rfl rfl rfl ?_
    refine hK28 _ _ ?_
    refine g_v (.free rfl) rfl rfl (qt_assign rfl rfl) ?_
    refine g_nil ?_
    refine gk_then (hK23 _ _ ?_)
    refine gc_seq fun K29 hK29 => ?_
    refine gc_seq fun K30 hK30 => ?_
    refine gc_region ?_
    refine g_v (.free rfl) rfl rfl (qt_move rfl rfl) ?_
    refine g_v (.free rfl) rfl rfl (qt_neq rfl rfl rfl) ?_
    refine g_nil ?_
    refine gk_then (hK30 _ _ ?_)
    refine gc_cond rfl (fun hc1 => ?_) (fun hc1 => ?_)
    · try simp only [decide_eq_true_eq, decide_eq_false_iff_not, Bool.not_eq_true', Bool.not_eq_false', Bool.not_eq_eq_eq_not, Bool.not_true, Bool.not_false, ne_eq, Decidable.not_not, Classical.not_not] at hc1
      refine gc_seq fun K31 hK31 => ?_
      refine gc_region ?_
      refine g_v (.free rfl) rfl rfl (qt_build rfl rfl bt0_twoVariables) ?_
      refine g_v (.free rfl) rfl rfl (qt_move rfl rfl) ?_
      refine g_op (.free rfl) fun K32 hK32 => ?_
      refine go_storeS (n := 3) rfl rfl rfl rfl (by kernel_rfl) rfl rfl rfl ?_
      refine hK32 _ _ ?_
      refine g_v (.free rfl) rfl rfl (qt_assign rfl rfl) ?_
      refine g_nil ?_
      refine gk_then (hK31 _ _ ?_)
      refine gc_ret ?_
      refine gk_then_ret ?_
      refine ret_SI (n := 3) rfl rfl rfl Try.underlying78 rfl (by kernel_rfl) rfl (fun w M => ?_)
      have hn := tv_n2 hc0 hc1; rw [hn.2.2.1, hn.2.2.2.1, hn.2.2.2.2, hn.2.1]; exact retTV_zero M.1
    · try simp only [decide_eq_true_eq, decide_eq_false_iff_not, Bool.not_eq_true', Bool.not_eq_false', Bool.not_eq_eq_eq_not, Bool.not_true, Bool.not_false, ne_eq, Decidable.not_not, Classical.not_not] at hc1
      refine gc_skip ?_
      refine gk_then (hK29 _ _ ?_)
      refine gc_seq fun K33 hK33 => ?_
      have hf : fctF F = F := (fctErr_t (fctErr_0t hc1)).2
      simp only [hf]
      refine gc_region ?_
      refine g_v (.free rfl) rfl rfl (qt_loadS (n := 12) rfl rfl Try.underlying30 rfl (by kernel_rfl) rfl) ?_
      refine g_v (.free rfl) rfl rfl (qt_loadS (n := 13) rfl rfl Try.underlying30 rfl (by kernel_rfl) rfl) ?_
      refine g_v (.free rfl) rfl rfl (qt_loadS (n := 24) rfl rfl Try.underlying32 rfl (by kernel_rfl) rfl) ?_
      refine g_v (.free rfl) rfl rfl (qt_build rfl rfl bt_twoVariables) ?_
      refine g_op (.free rfl) fun K34 hK34 => ?_
      refine go_storeS (n := 3) rfl rfl rfl rfl (by kernel_rfl) rfl rfl rfl ?_
      refine hK34 _ _ ?_
      refine g_v (.free rfl) rfl rfl (qt_assign rfl rfl) ?_
      refine g_nil ?_
      refine gk_then (hK33 _ _ ?_)
      refine gc_ret ?_
      refine ret_SI (n := 3) rfl rfl rfl Try.underlying78 rfl (by kernel_rfl) rfl (fun w M => ?_)
      try simp only [List.nil_append, List.cons_append, List.append_assoc, List.set_cons_succ, List.set_cons_zero] at M
      have ht := tv_t hc0 hc1; rw [ht.1, ht.2.1, ht.2.2.1, ht.2.2.2]; exact retTV_star (A := A) (B := B) (F := F) (mem_block 14 8 (mem_block 14 10 (M)))

set_option maxHeartbeats 1000000 in
set_option maxRecDepth 100000 in
theorem fixFirst_any (w : World) (c1p c2p c4p d1p d2p d4p s1p s2p s3p s4p t1p t2p t3p t4p : Option Addr) (c1n c1q c2n c2q c4n c4q d1n d1q d2n d2q d4n d4q s1n s1q s2n s2q s3n s3q s4n s4q t1n t1q t2n t2q t3n t3q t4n t4q : Nat) (ea : Option Addr) (ek : Nat) (eb : Option Addr) (el : Nat) (oa : Option Addr) (ok : Nat) (aa : Option Addr) (ak : Nat) (A B : Cat) (F : Fct) (hA : RdC w (.agg #[.int .i64 A.ob, .slice c1p c1n c1q, .slice c2p c2n c2q, .slice ea A.e.length ek, .slice c4p c4n c4q]) A) (hB : RdC w (.agg #[.int .i64 B.ob, .slice d1p d1n d1q, .slice d2p d2n d2q, .slice eb B.e.length el, .slice d4p d4n d4q]) B) (hF : RdF w (.agg #[.int .i64 F.S.ob, .slice s1p s1n s1q, .slice s2p s2n s2q, .slice s3p s3n s3q, .slice s4p s4n s4q, .int .i64 F.T.ob, .slice t1p t1n t1q, .slice t2p t2n t2q, .slice t3p t3n t3q, .slice t4p t4n t4q, .slice oa F.o.length ok, .slice aa F.a.length ak]) F) (x : Int) (hx0 : 0 ≤ x) (hx1 : x < A.ob) (hP : TvP A B F) :
    Calls Try.prog 71 #[.agg #[.int .i64 A.ob, .slice c1p c1n c1q, .slice c2p c2n c2q, .slice ea A.e.length ek, .slice c4p c4n c4q, .int .i64 B.ob, .slice d1p d1n d1q, .slice d2p d2n d2q, .slice eb B.e.length el, .slice d4p d4n d4q, .int .i64 F.S.ob, .slice s1p s1n s1q, .slice s2p s2n s2q, .slice s3p s3n s3q, .slice s4p s4n s4q, .int .i64 F.T.ob, .slice t1p t1n t1q, .slice t2p t2n t2q, .slice t3p t3n t3q, .slice t4p t4n t4q, .slice oa F.o.length ok, .slice aa F.a.length ak], .int .i64 x] w (RetOA w B.ob (.slice d1p d1n d1q) (.slice d2p d2n d2q) (.slice eb B.e.length el) (.slice d4p d4n d4q) F.T.ob (.slice t1p t1n t1q) (.slice t2p t2n t2q) (.slice t3p t3n t3q) (.slice t4p t4n t4q) (fixO1 B F x) (fixA1 A B F x)) := by
  have hFp := rdF_parts hF
  have hFS := hFp.1; have hFT := hFp.2.1; have hFo := hFp.2.2.1; have hFa := hFp.2.2.2
  have hAe := rdC_e hA; have hBe := rdC_e hB
  have hL := tvL hP
  have a0 := hL.a0; have a8 := hL.a8; have an := hL.an; have ae := hL.ae; have b0 := hL.b0; have b8 := hL.b8; have bn := hL.bn; have be := hL.be; have fo := hL.fo; have fa := hL.fa
  have hid := hL.ia x hx0 hx1
  have hi0 := hid.1; have hi1 := hid.2
  go_enter Try.func71, Try.ntmps71
  refine gc_enter (N := 36) rfl (look_cons (k := 0) rfl (look_cons (k := 1) rfl (look_nil _))) ?_
  refine gc_seq fun K1 hK1 => ?_
  refine gc_region ?_
  refine g_op (.free rfl) fun K3 hK3 => ?_
  refine go_box rfl rfl rfl rfl rfl ?_
  intro B2
  refine hK3 _ _ ?_
  refine g_op (.free rfl) fun K5 hK5 => ?_
  refine go_alloc (z := (.agg #[.int .i64 0, .slice none 0 0, .slice none 0 0, .slice none 0 0, .slice none 0 0, .int .i64 0, .slice none 0 0, .slice none 0 0, .slice none 0 0, .slice none 0 0, .slice none 0 0, .slice none 0 0])) (cs := [.int .i64 0, .slice none 0 0, .slice none 0 0, .slice none 0 0, .slice none 0 0, .int .i64 0, .slice none 0 0, .slice none 0 0, .slice none 0 0, .slice none 0 0, .slice none 0 0, .slice none 0 0]) rfl rfl rfl (fun w => by kernel_rfl) rfl ?_
  intro B4
  refine hK5 _ _ ?_
  refine g_nil ?_
  refine gk_then (hK1 _ _ ?_)
  refine gc_seq fun K6 hK6 => ?_
  try simp only [List.nil_append, List.cons_append, List.append_assoc, List.set_cons_succ, List.set_cons_zero]
  refine ga_start _ (fun w M => M) ?_
  refine ga_v 0 rfl (by kernel_rfl) (by kernel_rfl) (by kernel_rfl) (.free rfl) rfl rfl (qt_loadS (n := 0) rfl rfl Try.underlying78 rfl (by kernel_rfl) rfl) (fun _ _ _ h => h) ?_
  refine ga_v 1 rfl (by kernel_rfl) (by kernel_rfl) (by kernel_rfl) (.free rfl) rfl rfl (qt_move rfl rfl) (fun _ _ _ h => h) ?_
  refine ga_v 3 rfl (by kernel_rfl) (by kernel_rfl) (by kernel_rfl) (.free rfl) rfl rfl (qt_field (z := 4) (off := 5) rfl rfl Try.underlying78 rfl (by kernel_rfl) rfl) (fun _ _ _ h => h) ?_
  refine ga_v 4 rfl (by kernel_rfl) (by kernel_rfl) (by kernel_rfl) (.free rfl) rfl rfl (qt_field (z := 0) (off := 0) rfl rfl Try.underlying30 rfl (by kernel_rfl) rfl) (fun _ _ _ h => h) ?_
  refine ga_v 5 rfl (by kernel_rfl) (by kernel_rfl) (by kernel_rfl) (.free rfl) rfl rfl (qt_loadB (n := 0) rfl rfl Try.underlying2 rfl rfl rfl) (fun _ _ _ h => h) ?_
  refine ga_two 2 6 (by kernel_rfl) rfl rfl (.free rfl) (.free rfl) (fun K7 hK7 => ?_) (fun K7 hK7 => ?_)
  · refine go_slice1 rfl rfl rfl rfl Try.underlying22 ?_
    intro B8
    refine hK7 _ _ (fun w M => (mem_take 2 M :)) ?_
    refine ga_op 6 (by kernel_rfl) rfl (.free rfl) fun K11 hK11 => ?_
    refine go_callL rfl rfl rfl Try.func120 rfl (by decide) rfl (fun w M => countL_any w _ (by first | assumption | omega) (by first | assumption | omega)) ?_
    intro va10 vc10
    refine hK11 _ _ (fun w M => (mem_take 2 M :)) ?_
    refine ga_op 7 (by kernel_rfl) rfl (.free rfl) fun K13 hK13 => ?_
    refine go_callL rfl rfl rfl Try.func119 rfl (by decide) rfl (fun w M => objectsAt_any w _ _ _ _ _ _ _ _ _ _ _ _ _ _ _ _ _ _ _ _ _ _ _ _ _ _ _ _ _ _ _ _ _ _ _ _ _ _ _ _ _ _ _ _ _ _ _ _ _ _ _ _ _ (mem_rdC M hA) (mem_rdC M hB) (mem_rdF M hF) _ [x] _ (numL B.ob.toNat) ((mem_own1 (n := 2) M rfl).rd) ((mem_own1 (n := 3) M rfl).rd) (by simp only [numL_len, List.length_singleton]; omega) (by simp only [numL_len, List.length_singleton]; omega) (allP_1 (n := 100) (by omega) (by omega)) (allP_num (by omega)) (by omega) (by omega) (allP_pr (a := A.ob) (allP_1 hx0 hx1) (allP_num (by omega)) fo)) ?_
    intro va12 vc12
    refine hK13 _ _ (fun w M => (mem_take 2 M :)) ?_
    refine ga_v 8 rfl (by kernel_rfl) (by kernel_rfl) (by kernel_rfl) (.free rfl) rfl rfl (qt_assign rfl rfl) (fun _ _ _ h => h) ?_
    refine ga_done (by kernel_rfl) ?_
    refine gk_then (hK6 _ _ ?_)
    refine gc_seq fun K14 hK14 => ?_
    simp only [fix_eq1]
    try simp only [List.nil_append, List.cons_append, List.append_assoc, List.set_cons_succ, List.set_cons_zero]
    refine ga_start _ (fun w M => M) ?_
    refine ga_v 0 rfl (by kernel_rfl) (by kernel_rfl) (by kernel_rfl) (.free rfl) rfl rfl (qt_loadS (n := 0) rfl rfl Try.underlying78 rfl (by kernel_rfl) rfl) (fun _ _ _ h => h) ?_
    refine ga_v 1 rfl (by kernel_rfl) (by kernel_rfl) (by kernel_rfl) (.free rfl) rfl rfl (qt_field (z := 4) (off := 0) rfl rfl Try.underlying78 rfl (by kernel_rfl) rfl) (fun _ _ _ h => h) ?_
    refine ga_v 2 rfl (by kernel_rfl) (by kernel_rfl) (by kernel_rfl) (.free rfl) rfl rfl (qt_field (z := 0) (off := 3) rfl rfl Try.underlying30 rfl (by kernel_rfl) rfl) (fun _ _ _ h => h) ?_
    refine ga_v 3 rfl (by kernel_rfl) (by kernel_rfl) (by kernel_rfl) (.free rfl) rfl rfl (qt_loadB (n := 0) rfl rfl Try.underlying22 rfl rfl rfl) (fun _ _ _ h => h) ?_
    refine ga_v 4 rfl (by kernel_rfl) (by kernel_rfl) (by kernel_rfl) (.free rfl) rfl rfl (qt_move rfl rfl) (fun _ _ _ h => h) ?_
    refine ga_v 5 rfl (by kernel_rfl) (by kernel_rfl) (by kernel_rfl) (.free rfl) rfl rfl (qt_index rfl rfl rfl ulE1 szE1 (fun w M => lenA_rd hAe) (by omega) (by omega)) (fun _ _ _ h => h) ?_
    refine ga_v 6 rfl (by kernel_rfl) (by kernel_rfl) (by kernel_rfl) (.free rfl) rfl rfl (qt_load1 rfl rfl Try.underlying2 rfl (fun w M => mem_rd M hAe) (by omega) (by omega)) (fun _ _ _ h => h) ?_
    refine ga_v 8 rfl (by kernel_rfl) (by kernel_rfl) (by kernel_rfl) (.free rfl) rfl rfl (qt_field (z := 4) (off := 5) rfl rfl Try.underlying78 rfl (by kernel_rfl) rfl) (fun _ _ _ h => h) ?_
    refine ga_v 9 rfl (by kernel_rfl) (by kernel_rfl) (by kernel_rfl) (.free rfl) rfl rfl (qt_loadP (n := 0) (z := 5) rfl rfl Try.underlying30 rfl (by kernel_rfl) rfl (by first | decide | exact Nat.le_refl _ | simp)) (fun _ _ _ h => h) ?_
    refine ga_two 7 10 (by kernel_rfl) rfl rfl (.free rfl) (.free rfl) (fun K15 hK15 => ?_) (fun K15 hK15 => ?_)
    · refine go_slice1 rfl rfl rfl rfl Try.underlying22 ?_
      intro B16
      refine hK15 _ _ (fun w M => (mem_take 5 M :)) ?_
      refine ga_op 10 (by kernel_rfl) rfl (.free rfl) fun K18 hK18 => ?_
      refine go_q rfl rfl (qt_call rfl Try.func122 rfl (by decide) rfl (fun w M => arrows_any w _ _ (mem_rdC M hB))) ?_
      refine hK18 _ _ (fun w M => (mem_take 5 M :)) ?_
      refine ga_op 11 (by kernel_rfl) rfl (.free rfl) fun K20 hK20 => ?_
      refine go_callL rfl rfl rfl Try.func120 rfl (by decide) rfl (fun w M => countL_any w _ (by first | assumption | omega) (by first | assumption | omega)) ?_
      intro va19 vc19
      refine hK20 _ _ (fun w M => (mem_take 5 M :)) ?_
      refine ga_op 12 (by kernel_rfl) rfl (.free rfl) fun K22 hK22 => ?_
      refine go_callL rfl rfl rfl Try.func121 rfl (by decide) rfl (fun w M => arrowsAt_any w _ _ _ _ _ _ _ _ _ _ _ _ _ _ _ _ _ _ _ _ _ _ _ _ _ _ _ _ _ _ _ _ _ _ _ _ _ _ _ _ _ _ _ _ _ _ _ _ _ _ _ _ _ (mem_rdC M hA) (mem_rdC M hB) (mem_rdF M hF) _ [at0 A.e x] _ (numL B.s.length) ((mem_own1 (n := 5) M rfl).rd) ((mem_own1 (n := 6) M rfl).rd) (by simp only [numL_len, List.length_singleton]; omega) (by simp only [numL_len, List.length_singleton]; omega) (allP_1 (n := 100) (by omega) (by omega)) (allP_num (by omega)) (by omega) (by omega) (allP_pr (a := (A.s.length : Int)) (allP_1 hid.1 hid.2) (allP_num (by omega)) (by rw [fa, Int.natCast_mul]))) ?_
      intro va21 vc21
      refine hK22 _ _ (fun w M => (mem_take 5 M :)) ?_
      refine ga_v 13 rfl (by kernel_rfl) (by kernel_rfl) (by kernel_rfl) (.free rfl) rfl rfl (qt_assign rfl rfl) (fun _ _ _ h => h) ?_
      refine ga_done (by kernel_rfl) ?_
      refine gk_then (hK14 _ _ ?_)
      refine gc_seq fun K23 hK23 => ?_
      simp only [Int.toNat_natCast, fix_eq1]
      refine gc_region ?_
      refine g_v (.free rfl) rfl rfl (qt_field (z := 4) (off := 5) rfl rfl Try.underlying78 rfl (by kernel_rfl) rfl) ?_
      refine g_v (.free rfl) rfl rfl (qt_loadP (n := 0) (z := 5) rfl rfl Try.underlying30 rfl (by kernel_rfl) rfl (by first | decide | exact Nat.le_refl _ | simp)) ?_
      refine g_v (.free rfl) rfl rfl (qt_field (z := 11) (off := 10) rfl rfl Try.underlying78 rfl (by kernel_rfl) rfl) ?_
      refine g_v (.free rfl) rfl rfl (qt_field (z := 4) (off := 5) rfl rfl Try.underlying32 rfl (by kernel_rfl) rfl) ?_
      refine g_v (.free rfl) rfl rfl (qt_loadP (n := 0) (z := 5) rfl rfl Try.underlying30 rfl (by kernel_rfl) rfl (by first | decide | exact Nat.le_refl _ | simp)) ?_
      refine g_v (.free rfl) rfl rfl (qt_move rfl rfl) ?_
      refine g_v (.free rfl) rfl rfl (qt_move rfl rfl) ?_
      refine g_v (.free rfl) rfl rfl (qt_build rfl rfl bt_Functor) ?_
      refine g_op (.free rfl) fun K24 hK24 => ?_
      refine go_storeS (n := 1) rfl rfl rfl rfl (by kernel_rfl) rfl rfl rfl ?_
      refine hK24 _ _ ?_
      refine g_nil ?_
      refine gk_then (hK23 _ _ ?_)
      refine gc_ret ?_
      refine ret_S (n := 1) rfl rfl Try.underlying32 rfl (by kernel_rfl) rfl (fun w M => ?_)
      try simp only [List.nil_append, List.cons_append, List.append_assoc, List.set_cons_succ, List.set_cons_zero] at M
      exact retOA_star (xs := fixO1 B F x) (ys := fixA1 A B F x) (mem_block 5 1 (mem_block 7 1 (M)))
    · refine go_q rfl rfl (qt_call rfl Try.func122 rfl (by decide) rfl (fun w M => arrows_any w _ _ (mem_rdC M hB))) ?_
      refine hK15 _ _ (fun w M => (mem_take 5 M :)) ?_
      refine ga_two 7 11 (by kernel_rfl) rfl rfl (.free rfl) (.free rfl) (fun K26 hK26 => ?_) (fun K26 hK26 => ?_)
      · refine go_slice1 rfl rfl rfl rfl Try.underlying22 ?_
        intro B27
        refine hK26 _ _ (fun w M => (mem_take 5 M :)) ?_
        refine ga_op 11 (by kernel_rfl) rfl (.free rfl) fun K30 hK30 => ?_
        refine go_callL rfl rfl rfl Try.func120 rfl (by decide) rfl (fun w M => countL_any w _ (by first | assumption | omega) (by first | assumption | omega)) ?_
        intro va29 vc29
        refine hK30 _ _ (fun w M => (mem_take 5 M :)) ?_
        refine ga_op 12 (by kernel_rfl) rfl (.free rfl) fun K32 hK32 => ?_
        refine go_callL rfl rfl rfl Try.func121 rfl (by decide) rfl (fun w M => arrowsAt_any w _ _ _ _ _ _ _ _ _ _ _ _ _ _ _ _ _ _ _ _ _ _ _ _ _ _ _ _ _ _ _ _ _ _ _ _ _ _ _ _ _ _ _ _ _ _ _ _ _ _ _ _ _ (mem_rdC M hA) (mem_rdC M hB) (mem_rdF M hF) _ [at0 A.e x] _ (numL B.s.length) ((mem_own1 (n := 5) M rfl).rd) ((mem_own1 (n := 6) M rfl).rd) (by simp only [numL_len, List.length_singleton]; omega) (by simp only [numL_len, List.length_singleton]; omega) (allP_1 (n := 100) (by omega) (by omega)) (allP_num (by omega)) (by omega) (by omega) (allP_pr (a := (A.s.length : Int)) (allP_1 hid.1 hid.2) (allP_num (by omega)) (by rw [fa, Int.natCast_mul]))) ?_
        intro va31 vc31
        refine hK32 _ _ (fun w M => (mem_take 5 M :)) ?_
        refine ga_v 13 rfl (by kernel_rfl) (by kernel_rfl) (by kernel_rfl) (.free rfl) rfl rfl (qt_assign rfl rfl) (fun _ _ _ h => h) ?_
        refine ga_done (by kernel_rfl) ?_
        refine gk_then (hK14 _ _ ?_)
        refine gc_seq fun K33 hK33 => ?_
        simp only [Int.toNat_natCast, fix_eq1]
        refine gc_region ?_
        refine g_v (.free rfl) rfl rfl (qt_field (z := 4) (off := 5) rfl rfl Try.underlying78 rfl (by kernel_rfl) rfl) ?_
        refine g_v (.free rfl) rfl rfl (qt_loadP (n := 0) (z := 5) rfl rfl Try.underlying30 rfl (by kernel_rfl) rfl (by first | decide | exact Nat.le_refl _ | simp)) ?_
        refine g_v (.free rfl) rfl rfl (qt_field (z := 11) (off := 10) rfl rfl Try.underlying78 rfl (by kernel_rfl) rfl) ?_
        refine g_v (.free rfl) rfl rfl (qt_field (z := 4) (off := 5) rfl rfl Try.underlying32 rfl (by kernel_rfl) rfl) ?_
        refine g_v (.free rfl) rfl rfl (qt_loadP (n := 0) (z := 5) rfl rfl Try.underlying30 rfl (by kernel_rfl) rfl (by first | decide | exact Nat.le_refl _ | simp)) ?_
        refine g_v (.free rfl) rfl rfl (qt_move rfl rfl) ?_
        refine g_v (.free rfl) rfl rfl (qt_move rfl rfl) ?_
        refine g_v (.free rfl) rfl rfl (qt_build rfl rfl bt_Functor) ?_
        refine g_op (.free rfl) fun K34 hK34 => ?_
        refine go_storeS (n := 1) rfl rfl rfl rfl (by kernel_rfl) rfl rfl rfl ?_
        refine hK34 _ _ ?_
        refine g_nil ?_
        refine gk_then (hK33 _ _ ?_)
        refine gc_ret ?_
        refine ret_S (n := 1) rfl rfl Try.underlying32 rfl (by kernel_rfl) rfl (fun w M => ?_)
        try simp only [List.nil_append, List.cons_append, List.append_assoc, List.set_cons_succ, List.set_cons_zero] at M
        exact retOA_star (xs := fixO1 B F x) (ys := fixA1 A B F x) (mem_block 5 1 (mem_block 7 1 (M)))
      · refine go_callL rfl rfl rfl Try.func120 rfl (by decide) rfl (fun w M => countL_any w _ (by first | assumption | omega) (by first | assumption | omega)) ?_
        intro va35 vc35
        refine hK26 _ _ (fun w M => (mem_take 5 M :)) ?_
        refine ga_op 7 (by kernel_rfl) rfl (.free rfl) fun K38 hK38 => ?_
        refine go_slice1 rfl rfl rfl rfl Try.underlying22 ?_
        intro B37
        refine hK38 _ _ (fun w M => (mem_take 5 M :)) ?_
        refine ga_op 12 (by kernel_rfl) rfl (.free rfl) fun K40 hK40 => ?_
        refine go_callL rfl rfl rfl Try.func121 rfl (by decide) rfl (fun w M => arrowsAt_any w _ _ _ _ _ _ _ _ _ _ _ _ _ _ _ _ _ _ _ _ _ _ _ _ _ _ _ _ _ _ _ _ _ _ _ _ _ _ _ _ _ _ _ _ _ _ _ _ _ _ _ _ _ (mem_rdC M hA) (mem_rdC M hB) (mem_rdF M hF) _ [at0 A.e x] _ (numL B.s.length) ((mem_own1 (n := 6) M rfl).rd) ((mem_own1 (n := 5) M rfl).rd) (by simp only [numL_len, List.length_singleton]; omega) (by simp only [numL_len, List.length_singleton]; omega) (allP_1 (n := 100) (by omega) (by omega)) (allP_num (by omega)) (by omega) (by omega) (allP_pr (a := (A.s.length : Int)) (allP_1 hid.1 hid.2) (allP_num (by omega)) (by rw [fa, Int.natCast_mul]))) ?_
        intro va39 vc39
        refine hK40 _ _ (fun w M => (mem_take 5 M :)) ?_
        refine ga_v 13 rfl (by kernel_rfl) (by kernel_rfl) (by kernel_rfl) (.free rfl) rfl rfl (qt_assign rfl rfl) (fun _ _ _ h => h) ?_
        refine ga_done (by kernel_rfl) ?_
        refine gk_then (hK14 _ _ ?_)
        refine gc_seq fun K41 hK41 => ?_
        simp only [Int.toNat_natCast, fix_eq1]
        refine gc_region ?_
        refine g_v (.free rfl) rfl rfl (qt_field (z := 4) (off := 5) rfl rfl Try.underlying78 rfl (by kernel_rfl) rfl) ?_
        refine g_v (.free rfl) rfl rfl (qt_loadP (n := 0) (z := 5) rfl rfl Try.underlying30 rfl (by kernel_rfl) rfl (by first | decide | exact Nat.le_refl _ | simp)) ?_
        refine g_v (.free rfl) rfl rfl (qt_field (z := 11) (off := 10) rfl rfl Try.underlying78 rfl (by kernel_rfl) rfl) ?_
        refine g_v (.free rfl) rfl rfl (qt_field (z := 4) (off := 5) rfl rfl Try.underlying32 rfl (by kernel_rfl) rfl) ?_
        refine g_v (.free rfl) rfl rfl (qt_loadP (n := 0) (z := 5) rfl rfl Try.underlying30 rfl (by kernel_rfl) rfl (by first | decide | exact Nat.le_refl _ | simp)) ?_
        refine g_v (.free rfl) rfl rfl (qt_move rfl rfl) ?_
        refine g_v (.free rfl) rfl rfl (qt_move rfl rfl) ?_
        refine g_v (.free rfl) rfl rfl (qt_build rfl rfl bt_Functor) ?_
        refine g_op (.free rfl) fun K42 hK42 => ?_
        refine go_storeS (n := 1) rfl rfl rfl rfl (by kernel_rfl) rfl rfl rfl ?_
        refine hK42 _ _ ?_
        refine g_nil ?_
        refine gk_then (hK41 _ _ ?_)
        refine gc_ret ?_
        refine ret_S (n := 1) rfl rfl Try.underlying32 rfl (by kernel_rfl) rfl (fun w M => ?_)
        try simp only [List.nil_append, List.cons_append, List.append_assoc, List.set_cons_succ, List.set_cons_zero] at M
        exact retOA_star (xs := fixO1 B F x) (ys := fixA1 A B F x) (mem_block 5 1 (mem_block 7 1 (M)))
  · refine go_callL rfl rfl rfl Try.func120 rfl (by decide) rfl (fun w M => countL_any w _ (by first | assumption | omega) (by first | assumption | omega)) ?_
    intro va43 vc43
    refine hK7 _ _ (fun w M => (mem_take 2 M :)) ?_
    refine ga_op 2 (by kernel_rfl) rfl (.free rfl) fun K46 hK46 => ?_
    refine go_slice1 rfl rfl rfl rfl Try.underlying22 ?_
    intro B45
    refine hK46 _ _ (fun w M => (mem_take 2 M :)) ?_
    refine ga_op 7 (by kernel_rfl) rfl (.free rfl) fun K48 hK48 => ?_
    refine go_callL rfl rfl rfl Try.func119 rfl (by decide) rfl (fun w M => objectsAt_any w _ _ _ _ _ _ _ _ _ _ _ _ _ _ _ _ _ _ _ _ _ _ _ _ _ _ _ _ _ _ _ _ _ _ _ _ _ _ _ _ _ _ _ _ _ _ _ _ _ _ _ _ _ (mem_rdC M hA) (mem_rdC M hB) (mem_rdF M hF) _ [x] _ (numL B.ob.toNat) ((mem_own1 (n := 3) M rfl).rd) ((mem_own1 (n := 2) M rfl).rd) (by simp only [numL_len, List.length_singleton]; omega) (by simp only [numL_len, List.length_singleton]; omega) (allP_1 (n := 100) (by omega) (by omega)) (allP_num (by omega)) (by omega) (by omega) (allP_pr (a := A.ob) (allP_1 hx0 hx1) (allP_num (by omega)) fo)) ?_
    intro va47 vc47
    refine hK48 _ _ (fun w M => (mem_take 2 M :)) ?_
    refine ga_v 8 rfl (by kernel_rfl) (by kernel_rfl) (by kernel_rfl) (.free rfl) rfl rfl (qt_assign rfl rfl) (fun _ _ _ h => h) ?_
    refine ga_done (by kernel_rfl) ?_
    refine gk_then (hK6 _ _ ?_)
    refine gc_seq fun K49 hK49 => ?_
    simp only [fix_eq1]
    try simp only [List.nil_append, List.cons_append, List.append_assoc, List.set_cons_succ, List.set_cons_zero]
    refine ga_start _ (fun w M => M) ?_
    refine ga_v 0 rfl (by kernel_rfl) (by kernel_rfl) (by kernel_rfl) (.free rfl) rfl rfl (qt_loadS (n := 0) rfl rfl Try.underlying78 rfl (by kernel_rfl) rfl) (fun _ _ _ h => h) ?_
    refine ga_v 1 rfl (by kernel_rfl) (by kernel_rfl) (by kernel_rfl) (.free rfl) rfl rfl (qt_field (z := 4) (off := 0) rfl rfl Try.underlying78 rfl (by kernel_rfl) rfl) (fun _ _ _ h => h) ?_
    refine ga_v 2 rfl (by kernel_rfl) (by kernel_rfl) (by kernel_rfl) (.free rfl) rfl rfl (qt_field (z := 0) (off := 3) rfl rfl Try.underlying30 rfl (by kernel_rfl) rfl) (fun _ _ _ h => h) ?_
    refine ga_v 3 rfl (by kernel_rfl) (by kernel_rfl) (by kernel_rfl) (.free rfl) rfl rfl (qt_loadB (n := 0) rfl rfl Try.underlying22 rfl rfl rfl) (fun _ _ _ h => h) ?_
    refine ga_v 4 rfl (by kernel_rfl) (by kernel_rfl) (by kernel_rfl) (.free rfl) rfl rfl (qt_move rfl rfl) (fun _ _ _ h => h) ?_
    refine ga_v 5 rfl (by kernel_rfl) (by kernel_rfl) (by kernel_rfl) (.free rfl) rfl rfl (qt_index rfl rfl rfl ulE1 szE1 (fun w M => lenA_rd hAe) (by omega) (by omega)) (fun _ _ _ h => h) ?_
    refine ga_v 6 rfl (by kernel_rfl) (by kernel_rfl) (by kernel_rfl) (.free rfl) rfl rfl (qt_load1 rfl rfl Try.underlying2 rfl (fun w M => mem_rd M hAe) (by omega) (by omega)) (fun _ _ _ h => h) ?_
    refine ga_v 8 rfl (by kernel_rfl) (by kernel_rfl) (by kernel_rfl) (.free rfl) rfl rfl (qt_field (z := 4) (off := 5) rfl rfl Try.underlying78 rfl (by kernel_rfl) rfl) (fun _ _ _ h => h) ?_
    refine ga_v 9 rfl (by kernel_rfl) (by kernel_rfl) (by kernel_rfl) (.free rfl) rfl rfl (qt_loadP (n := 0) (z := 5) rfl rfl Try.underlying30 rfl (by kernel_rfl) rfl (by first | decide | exact Nat.le_refl _ | simp)) (fun _ _ _ h => h) ?_
    refine ga_two 7 10 (by kernel_rfl) rfl rfl (.free rfl) (.free rfl) (fun K50 hK50 => ?_) (fun K50 hK50 => ?_)
    · refine go_slice1 rfl rfl rfl rfl Try.underlying22 ?_
      intro B51
      refine hK50 _ _ (fun w M => (mem_take 5 M :)) ?_
      refine ga_op 10 (by kernel_rfl) rfl (.free rfl) fun K53 hK53 => ?_
      refine go_q rfl rfl (qt_call rfl Try.func122 rfl (by decide) rfl (fun w M => arrows_any w _ _ (mem_rdC M hB))) ?_
      refine hK53 _ _ (fun w M => (mem_take 5 M :)) ?_
      refine ga_op 11 (by kernel_rfl) rfl (.free rfl) fun K55 hK55 => ?_
      refine go_callL rfl rfl rfl Try.func120 rfl (by decide) rfl (fun w M => countL_any w _ (by first | assumption | omega) (by first | assumption | omega)) ?_
      intro va54 vc54
      refine hK55 _ _ (fun w M => (mem_take 5 M :)) ?_
      refine ga_op 12 (by kernel_rfl) rfl (.free rfl) fun K57 hK57 => ?_
      refine go_callL rfl rfl rfl Try.func121 rfl (by decide) rfl (fun w M => arrowsAt_any w _ _ _ _ _ _ _ _ _ _ _ _ _ _ _ _ _ _ _ _ _ _ _ _ _ _ _ _ _ _ _ _ _ _ _ _ _ _ _ _ _ _ _ _ _ _ _ _ _ _ _ _ _ (mem_rdC M hA) (mem_rdC M hB) (mem_rdF M hF) _ [at0 A.e x] _ (numL B.s.length) ((mem_own1 (n := 5) M rfl).rd) ((mem_own1 (n := 6) M rfl).rd) (by simp only [numL_len, List.length_singleton]; omega) (by simp only [numL_len, List.length_singleton]; omega) (allP_1 (n := 100) (by omega) (by omega)) (allP_num (by omega)) (by omega) (by omega) (allP_pr (a := (A.s.length : Int)) (allP_1 hid.1 hid.2) (allP_num (by omega)) (by rw [fa, Int.natCast_mul]))) ?_
      intro va56 vc56
      refine hK57 _ _ (fun w M => (mem_take 5 M :)) ?_
      refine ga_v 13 rfl (by kernel_rfl) (by kernel_rfl) (by kernel_rfl) (.free rfl) rfl rfl (qt_assign rfl rfl) (fun _ _ _ h => h) ?_
      refine ga_done (by kernel_rfl) ?_
      refine gk_then (hK49 _ _ ?_)
      refine gc_seq fun K58 hK58 => ?_
      simp only [Int.toNat_natCast, fix_eq1]
      refine gc_region ?_
      refine g_v (.free rfl) rfl rfl (qt_field (z := 4) (off := 5) rfl rfl Try.underlying78 rfl (by kernel_rfl) rfl) ?_
      refine g_v (.free rfl) rfl rfl (qt_loadP (n := 0) (z := 5) rfl rfl Try.underlying30 rfl (by kernel_rfl) rfl (by first | decide | exact Nat.le_refl _ | simp)) ?_
      refine g_v (.free rfl) rfl rfl (qt_field (z := 11) (off := 10) rfl rfl Try.underlying78 rfl (by kernel_rfl) rfl) ?_
      refine g_v (.free rfl) rfl rfl (qt_field (z := 4) (off := 5) rfl rfl Try.underlying32 rfl (by kernel_rfl) rfl) ?_
      refine g_v (.free rfl) rfl rfl (qt_loadP (n := 0) (z := 5) rfl rfl Try.underlying30 rfl (by kernel_rfl) rfl (by first | decide | exact Nat.le_refl _ | simp)) ?_
      refine g_v (.free rfl) rfl rfl (qt_move rfl rfl) ?_
      refine g_v (.free rfl) rfl rfl (qt_move rfl rfl) ?_
      refine g_v (.free rfl) rfl rfl (qt_build rfl rfl bt_Functor) ?_
      refine g_op (.free rfl) fun K59 hK59 => ?_
      refine go_storeS (n := 1) rfl rfl rfl rfl (by kernel_rfl) rfl rfl rfl ?_
      refine hK59 _ _ ?_
      refine g_nil ?_
      refine gk_then (hK58 _ _ ?_)
      refine gc_ret ?_
      refine ret_S (n := 1) rfl rfl Try.underlying32 rfl (by kernel_rfl) rfl (fun w M => ?_)
      try simp only [List.nil_append, List.cons_append, List.append_assoc, List.set_cons_succ, List.set_cons_zero] at M
      exact retOA_star (xs := fixO1 B F x) (ys := fixA1 A B F x) (mem_block 5 1 (mem_block 7 1 (M)))
    · refine go_q rfl rfl (qt_call rfl Try.func122 rfl (by decide) rfl (fun w M => arrows_any w _ _ (mem_rdC M hB))) ?_
      refine hK50 _ _ (fun w M => (mem_take 5 M :)) ?_
      refine ga_two 7 11 (by kernel_rfl) rfl rfl (.free rfl) (.free rfl) (fun K61 hK61 => ?_) (fun K61 hK61 => ?_)
      · refine go_slice1 rfl rfl rfl rfl Try.underlying22 ?_
        intro B62
        refine hK61 _ _ (fun w M => (mem_take 5 M :)) ?_
        refine ga_op 11 (by kernel_rfl) rfl (.free rfl) fun K65 hK65 => ?_
        refine go_callL rfl rfl rfl Try.func120 rfl (by decide) rfl (fun w M => countL_any w _ (by first | assumption | omega) (by first | assumption | omega)) ?_
        intro va64 vc64
        refine hK65 _ _ (fun w M => (mem_take 5 M :)) ?_
        refine ga_op 12 (by kernel_rfl) rfl (.free rfl) fun K67 hK67 => ?_
        refine go_callL rfl rfl rfl Try.func121 rfl (by decide) rfl (fun w M => arrowsAt_any w _ _ _ _ _ _ _ _ _ _ _ _ _ _ _ _ _ _ _ _ _ _ _ _ _ _ _ _ _ _ _ _ _ _ _ _ _ _ _ _ _ _ _ _ _ _ _ _ _ _ _ _ _ (mem_rdC M hA) (mem_rdC M hB) (mem_rdF M hF) _ [at0 A.e x] _ (numL B.s.length) ((mem_own1 (n := 5) M rfl).rd) ((mem_own1 (n := 6) M rfl).rd) (by simp only [numL_len, List.length_singleton]; omega) (by simp only [numL_len, List.length_singleton]; omega) (allP_1 (n := 100) (by omega) (by omega)) (allP_num (by omega)) (by omega) (by omega) (allP_pr (a := (A.s.length : Int)) (allP_1 hid.1 hid.2) (allP_num (by omega)) (by rw [fa, Int.natCast_mul]))) ?_
        intro va66 vc66
        refine hK67 _ _ (fun w M => (mem_take 5 M :)) ?_
        refine ga_v 13 rfl (by kernel_rfl) (by kernel_rfl) (by kernel_rfl) (.free rfl) rfl rfl (qt_assign rfl rfl) (fun _ _ _ h => h) ?_
        refine ga_done (by kernel_rfl) ?_
        refine gk_then (hK49 _ _ ?_)
        refine gc_seq fun K68 hK68 => ?_
        simp only [Int.toNat_natCast, fix_eq1]
        refine gc_region ?_
        refine g_v (.free rfl) rfl rfl (qt_field (z := 4) (off := 5) rfl rfl Try.underlying78 rfl (by kernel_rfl) rfl) ?_
        refine g_v (.free rfl) rfl rfl (qt_loadP (n := 0) (z := 5) rfl rfl Try.underlying30 rfl (by kernel_rfl) rfl (by first | decide | exact Nat.le_refl _ | simp)) ?_
        refine g_v (.free rfl) rfl rfl (qt_field (z := 11) (off := 10) rfl rfl Try.underlying78 rfl (by kernel_rfl) rfl) ?_
        refine g_v (.free rfl) rfl rfl (qt_field (z := 4) (off := 5) rfl rfl Try.underlying32 rfl (by kernel_rfl) rfl) ?_
        refine g_v (.free rfl) rfl rfl (qt_loadP (n := 0) (z := 5) rfl rfl Try.underlying30 rfl (by kernel_rfl) rfl (by first | decide | exact Nat.le_refl _ | simp)) ?_
        refine g_v (.free rfl) rfl rfl (qt_move rfl rfl) ?_
        refine g_v (.free rfl) rfl rfl (qt_move rfl rfl) ?_
        refine g_v (.free rfl) rfl rfl (qt_build rfl rfl bt_Functor) ?_
        refine g_op (.free rfl) fun K69 hK69 => ?_
        refine go_storeS (n := 1) rfl rfl rfl rfl (by kernel_rfl) rfl rfl rfl ?_
        refine hK69 _ _ ?_
        refine g_nil ?_
        refine gk_then (hK68 _ _ ?_)
        refine gc_ret ?_
        refine ret_S (n := 1) rfl rfl Try.underlying32 rfl (by kernel_rfl) rfl (fun w M => ?_)
        try simp only [List.nil_append, List.cons_append, List.append_assoc, List.set_cons_succ, List.set_cons_zero] at M
        exact retOA_star (xs := fixO1 B F x) (ys := fixA1 A B F x) (mem_block 5 1 (mem_block 7 1 (M)))
      · refine go_callL rfl rfl rfl Try.func120 rfl (by decide) rfl (fun w M => countL_any w _ (by first | assumption | omega) (by first | assumption | omega)) ?_
        intro va70 vc70
        refine hK61 _ _ (fun w M => (mem_take 5 M :)) ?_
        refine ga_op 7 (by kernel_rfl) rfl (.free rfl) fun K73 hK73 => ?_
        refine go_slice1 rfl rfl rfl rfl Try.underlying22 ?_
        intro B72
        refine hK73 _ _ (fun w M => (mem_take 5 M :)) ?_
        refine ga_op 12 (by kernel_rfl) rfl (.free rfl) fun K75 hK75 => ?_
        refine go_callL rfl rfl rfl Try.func121 rfl (by decide) rfl (fun w M => arrowsAt_any w _ _ _ _ _ _ _ _ _ _ _ _ _ _ _ _ _ _ _ _ _ _ _ _ _ _ _ _ _ _ _ _ _ _ _ _ _ _ _ _ _ _ _ _ _ _ _ _ _ _ _ _ _ (mem_rdC M hA) (mem_rdC M hB) (mem_rdF M hF) _ [at0 A.e x] _ (numL B.s.length) ((mem_own1 (n := 6) M rfl).rd) ((mem_own1 (n := 5) M rfl).rd) (by simp only [numL_len, List.length_singleton]; omega) (by simp only [numL_len, List.length_singleton]; omega) (allP_1 (n := 100) (by omega) (by omega)) (allP_num (by omega)) (by omega) (by omega) (allP_pr (a := (A.s.length : Int)) (allP_1 hid.1 hid.2) (allP_num (by omega)) (by rw [fa, Int.natCast_mul]))) ?_
        intro va74 vc74
        refine hK75 _ _ (fun w M => (mem_take 5 M :)) ?_
        refine ga_v 13 rfl (by kernel_rfl) (by kernel_rfl) (by kernel_rfl) (.free rfl) rfl rfl (qt_assign rfl rfl) (fun _ _ _ h => h) ?_
        refine ga_done (by kernel_rfl) ?_
        refine gk_then (hK49 _ _ ?_)
        refine gc_seq fun K76 hK76 => ?_
        simp only [Int.toNat_natCast, fix_eq1]
        refine gc_region ?_
        refine g_v (.free rfl) rfl rfl (qt_field (z := 4) (off := 5) rfl rfl Try.underlying78 rfl (by kernel_rfl) rfl) ?_
        refine g_v (.free rfl) rfl rfl (qt_loadP (n := 0) (z := 5) rfl rfl Try.underlying30 rfl (by kernel_rfl) rfl (by first | decide | exact Nat.le_refl _ | simp)) ?_
        refine g_v (.free rfl) rfl rfl (qt_field (z := 11) (off := 10) rfl rfl Try.underlying78 rfl (by kernel_rfl) rfl) ?_
        refine g_v (.free rfl) rfl rfl (qt_field (z := 4) (off := 5) rfl rfl Try.underlying32 rfl (by kernel_rfl) rfl) ?_
        refine g_v (.free rfl) rfl rfl (qt_loadP (n := 0) (z := 5) rfl rfl Try.underlying30 rfl (by kernel_rfl) rfl (by first | decide | exact Nat.le_refl _ | simp)) ?_
        refine g_v (.free rfl) rfl rfl (qt_move rfl rfl) ?_
        refine g_v (.free rfl) rfl rfl (qt_move rfl rfl) ?_
        refine g_v (.free rfl) rfl rfl (qt_build rfl rfl bt_Functor) ?_
        refine g_op (.free rfl) fun K77 hK77 => ?_
        refine go_storeS (n := 1) rfl rfl rfl rfl (by kernel_rfl) rfl rfl rfl ?_
        refine hK77 _ _ ?_
        refine g_nil ?_
        refine gk_then (hK76 _ _ ?_)
        refine gc_ret ?_
        refine ret_S (n := 1) rfl rfl Try.underlying32 rfl (by kernel_rfl) rfl (fun w M => ?_)
        try simp only [List.nil_append, List.cons_append, List.append_assoc, List.set_cons_succ, List.set_cons_zero] at M
        exact retOA_star (xs := fixO1 B F x) (ys := fixA1 A B F x) (mem_block 5 1 (mem_block 7 1 (M)))

set_option maxHeartbeats 1000000 in
set_option maxRecDepth 100000 in
theorem fixSecond_any (w : World) (c1p c2p c4p d1p d2p d4p s1p s2p s3p s4p t1p t2p t3p t4p : Option Addr) (c1n c1q c2n c2q c4n c4q d1n d1q d2n d2q d4n d4q s1n s1q s2n s2q s3n s3q s4n s4q t1n t1q t2n t2q t3n t3q t4n t4q : Nat) (ea : Option Addr) (ek : Nat) (eb : Option Addr) (el : Nat) (oa : Option Addr) (ok : Nat) (aa : Option Addr) (ak : Nat) (A B : Cat) (F : Fct) (hA : RdC w (.agg #[.int .i64 A.ob, .slice c1p c1n c1q, .slice c2p c2n c2q, .slice ea A.e.length ek, .slice c4p c4n c4q]) A) (hB : RdC w (.agg #[.int .i64 B.ob, .slice d1p d1n d1q, .slice d2p d2n d2q, .slice eb B.e.length el, .slice d4p d4n d4q]) B) (hF : RdF w (.agg #[.int .i64 F.S.ob, .slice s1p s1n s1q, .slice s2p s2n s2q, .slice s3p s3n s3q, .slice s4p s4n s4q, .int .i64 F.T.ob, .slice t1p t1n t1q, .slice t2p t2n t2q, .slice t3p t3n t3q, .slice t4p t4n t4q, .slice oa F.o.length ok, .slice aa F.a.length ak]) F) (y : Int) (hx0 : 0 ≤ y) (hx1 : y < B.ob) (hP : TvP A B F) :
    Calls Try.prog 76 #[.agg #[.int .i64 A.ob, .slice c1p c1n c1q, .slice c2p c2n c2q, .slice ea A.e.length ek, .slice c4p c4n c4q, .int .i64 B.ob, .slice d1p d1n d1q, .slice d2p d2n d2q, .slice eb B.e.length el, .slice d4p d4n d4q, .int .i64 F.S.ob, .slice s1p s1n s1q, .slice s2p s2n s2q, .slice s3p s3n s3q, .slice s4p s4n s4q, .int .i64 F.T.ob, .slice t1p t1n t1q, .slice t2p t2n t2q, .slice t3p t3n t3q, .slice t4p t4n t4q, .slice oa F.o.length ok, .slice aa F.a.length ak], .int .i64 y] w (RetOA w A.ob (.slice c1p c1n c1q) (.slice c2p c2n c2q) (.slice ea A.e.length ek) (.slice c4p c4n c4q) F.T.ob (.slice t1p t1n t1q) (.slice t2p t2n t2q) (.slice t3p t3n t3q) (.slice t4p t4n t4q) (fixO2 A B F y) (fixA2 A B F y)) := by
  have hFp := rdF_parts hF
  have hFS := hFp.1; have hFT := hFp.2.1; have hFo := hFp.2.2.1; have hFa := hFp.2.2.2
  have hAe := rdC_e hA; have hBe := rdC_e hB
  have hL := tvL hP
  have a0 := hL.a0; have a8 := hL.a8; have an := hL.an; have ae := hL.ae; have b0 := hL.b0; have b8 := hL.b8; have bn := hL.bn; have be := hL.be; have fo := hL.fo; have fa := hL.fa
  have hid := hL.ib y hx0 hx1
  have hi0 := hid.1; have hi1 := hid.2
  go_enter Try.func76, Try.ntmps76
  refine gc_enter (N := 36) rfl (look_cons (k := 0) rfl (look_cons (k := 1) rfl (look_nil _))) ?_
  refine gc_seq fun K1 hK1 => ?_
  refine gc_region ?_
  refine g_op (.free rfl) fun K3 hK3 => ?_
  refine go_box rfl rfl rfl rfl rfl ?_
  intro B2
  refine hK3 _ _ ?_
  refine g_op (.free rfl) fun K5 hK5 => ?_
  refine go_alloc (z := (.agg #[.int .i64 0, .slice none 0 0, .slice none 0 0, .slice none 0 0, .slice none 0 0, .int .i64 0, .slice none 0 0, .slice none 0 0, .slice none 0 0, .slice none 0 0, .slice none 0 0, .slice none 0 0])) (cs := [.int .i64 0, .slice none 0 0, .slice none 0 0, .slice none 0 0, .slice none 0 0, .int .i64 0, .slice none 0 0, .slice none 0 0, .slice none 0 0, .slice none 0 0, .slice none 0 0, .slice none 0 0]) rfl rfl rfl (fun w => by kernel_rfl) rfl ?_
  intro B4
  refine hK5 _ _ ?_
  refine g_nil ?_
  refine gk_then (hK1 _ _ ?_)
  refine gc_seq fun K6 hK6 => ?_
  try simp only [List.nil_append, List.cons_append, List.append_assoc, List.set_cons_succ, List.set_cons_zero]
  refine ga_start _ (fun w M => M) ?_
  refine ga_v 0 rfl (by kernel_rfl) (by kernel_rfl) (by kernel_rfl) (.free rfl) rfl rfl (qt_loadS (n := 0) rfl rfl Try.underlying78 rfl (by kernel_rfl) rfl) (fun _ _ _ h => h) ?_
  refine ga_v 1 rfl (by kernel_rfl) (by kernel_rfl) (by kernel_rfl) (.free rfl) rfl rfl (qt_field (z := 4) (off := 0) rfl rfl Try.underlying78 rfl (by kernel_rfl) rfl) (fun _ _ _ h => h) ?_
  refine ga_v 2 rfl (by kernel_rfl) (by kernel_rfl) (by kernel_rfl) (.free rfl) rfl rfl (qt_field (z := 0) (off := 0) rfl rfl Try.underlying30 rfl (by kernel_rfl) rfl) (fun _ _ _ h => h) ?_
  refine ga_v 3 rfl (by kernel_rfl) (by kernel_rfl) (by kernel_rfl) (.free rfl) rfl rfl (qt_loadB (n := 0) rfl rfl Try.underlying2 rfl rfl rfl) (fun _ _ _ h => h) ?_
  refine ga_v 5 rfl (by kernel_rfl) (by kernel_rfl) (by kernel_rfl) (.free rfl) rfl rfl (qt_move rfl rfl) (fun _ _ _ h => h) ?_
  refine ga_two 4 6 (by kernel_rfl) rfl rfl (.free rfl) (.free rfl) (fun K7 hK7 => ?_) (fun K7 hK7 => ?_)
  · refine go_callL rfl rfl rfl Try.func120 rfl (by decide) rfl (fun w M => countL_any w _ (by first | assumption | omega) (by first | assumption | omega)) ?_
    intro va8 vc8
    refine hK7 _ _ (fun w M => (mem_take 2 M :)) ?_
    refine ga_op 6 (by kernel_rfl) rfl (.free rfl) fun K11 hK11 => ?_
    refine go_slice1 rfl rfl rfl rfl Try.underlying22 ?_
    intro B10
    refine hK11 _ _ (fun w M => (mem_take 2 M :)) ?_
    refine ga_op 7 (by kernel_rfl) rfl (.free rfl) fun K13 hK13 => ?_
    refine go_callL rfl rfl rfl Try.func119 rfl (by decide) rfl (fun w M => objectsAt_any w _ _ _ _ _ _ _ _ _ _ _ _ _ _ _ _ _ _ _ _ _ _ _ _ _ _ _ _ _ _ _ _ _ _ _ _ _ _ _ _ _ _ _ _ _ _ _ _ _ _ _ _ _ (mem_rdC M hA) (mem_rdC M hB) (mem_rdF M hF) _ (numL A.ob.toNat) _ [y] ((mem_own1 (n := 2) M rfl).rd) ((mem_own1 (n := 3) M rfl).rd) (by simp only [numL_len, List.length_singleton]; omega) (by simp only [numL_len, List.length_singleton]; omega) (allP_num (by omega)) (allP_1 (n := 100) (by omega) (by omega)) (by omega) (by omega) (allP_pr (a := A.ob) (allP_num (by omega)) (allP_1 hx0 hx1) fo)) ?_
    intro va12 vc12
    refine hK13 _ _ (fun w M => (mem_take 2 M :)) ?_
    refine ga_v 8 rfl (by kernel_rfl) (by kernel_rfl) (by kernel_rfl) (.free rfl) rfl rfl (qt_assign rfl rfl) (fun _ _ _ h => h) ?_
    refine ga_done (by kernel_rfl) ?_
    refine gk_then (hK6 _ _ ?_)
    refine gc_seq fun K14 hK14 => ?_
    simp only [fix_eq2]
    try simp only [List.nil_append, List.cons_append, List.append_assoc, List.set_cons_succ, List.set_cons_zero]
    refine ga_start _ (fun w M => M) ?_
    refine ga_v 0 rfl (by kernel_rfl) (by kernel_rfl) (by kernel_rfl) (.free rfl) rfl rfl (qt_loadS (n := 0) rfl rfl Try.underlying78 rfl (by kernel_rfl) rfl) (fun _ _ _ h => h) ?_
    refine ga_v 1 rfl (by kernel_rfl) (by kernel_rfl) (by kernel_rfl) (.free rfl) rfl rfl (qt_field (z := 4) (off := 0) rfl rfl Try.underlying78 rfl (by kernel_rfl) rfl) (fun _ _ _ h => h) ?_
    refine ga_v 2 rfl (by kernel_rfl) (by kernel_rfl) (by kernel_rfl) (.free rfl) rfl rfl (qt_loadP (n := 0) (z := 5) rfl rfl Try.underlying30 rfl (by kernel_rfl) rfl (by first | decide | exact Nat.le_refl _ | simp)) (fun _ _ _ h => h) ?_
    refine ga_v 5 rfl (by kernel_rfl) (by kernel_rfl) (by kernel_rfl) (.free rfl) rfl rfl (qt_field (z := 4) (off := 5) rfl rfl Try.underlying78 rfl (by kernel_rfl) rfl) (fun _ _ _ h => h) ?_
    refine ga_v 6 rfl (by kernel_rfl) (by kernel_rfl) (by kernel_rfl) (.free rfl) rfl rfl (qt_field (z := 0) (off := 3) rfl rfl Try.underlying30 rfl (by kernel_rfl) rfl) (fun _ _ _ h => h) ?_
    refine ga_v 7 rfl (by kernel_rfl) (by kernel_rfl) (by kernel_rfl) (.free rfl) rfl rfl (qt_loadB (n := 0) rfl rfl Try.underlying22 rfl rfl rfl) (fun _ _ _ h => h) ?_
    refine ga_v 8 rfl (by kernel_rfl) (by kernel_rfl) (by kernel_rfl) (.free rfl) rfl rfl (qt_move rfl rfl) (fun _ _ _ h => h) ?_
    refine ga_v 9 rfl (by kernel_rfl) (by kernel_rfl) (by kernel_rfl) (.free rfl) rfl rfl (qt_index rfl rfl rfl ulE1 szE1 (fun w M => lenA_rd hBe) (by omega) (by omega)) (fun _ _ _ h => h) ?_
    refine ga_v 10 rfl (by kernel_rfl) (by kernel_rfl) (by kernel_rfl) (.free rfl) rfl rfl (qt_load1 rfl rfl Try.underlying2 rfl (fun w M => mem_rd M hBe) (by omega) (by omega)) (fun _ _ _ h => h) ?_
    refine ga_two 3 11 (by kernel_rfl) rfl rfl (.free rfl) (.free rfl) (fun K15 hK15 => ?_) (fun K15 hK15 => ?_)
    · refine go_q rfl rfl (qt_call rfl Try.func122 rfl (by decide) rfl (fun w M => arrows_any w _ _ (mem_rdC M hA))) ?_
      refine hK15 _ _ (fun w M => (mem_take 5 M :)) ?_
      refine ga_two 4 11 (by kernel_rfl) rfl rfl (.free rfl) (.free rfl) (fun K17 hK17 => ?_) (fun K17 hK17 => ?_)
      · refine go_callL rfl rfl rfl Try.func120 rfl (by decide) rfl (fun w M => countL_any w _ (by first | assumption | omega) (by first | assumption | omega)) ?_
        intro va18 vc18
        refine hK17 _ _ (fun w M => (mem_take 5 M :)) ?_
        refine ga_op 11 (by kernel_rfl) rfl (.free rfl) fun K21 hK21 => ?_
        refine go_slice1 rfl rfl rfl rfl Try.underlying22 ?_
        intro B20
        refine hK21 _ _ (fun w M => (mem_take 5 M :)) ?_
        refine ga_op 12 (by kernel_rfl) rfl (.free rfl) fun K23 hK23 => ?_
        refine go_callL rfl rfl rfl Try.func121 rfl (by decide) rfl (fun w M => arrowsAt_any w _ _ _ _ _ _ _ _ _ _ _ _ _ _ _ _ _ _ _ _ _ _ _ _ _ _ _ _ _ _ _ _ _ _ _ _ _ _ _ _ _ _ _ _ _ _ _ _ _ _ _ _ _ (mem_rdC M hA) (mem_rdC M hB) (mem_rdF M hF) _ (numL A.s.length) _ [at0 B.e y] ((mem_own1 (n := 5) M rfl).rd) ((mem_own1 (n := 6) M rfl).rd) (by simp only [numL_len, List.length_singleton]; omega) (by simp only [numL_len, List.length_singleton]; omega) (allP_num (by omega)) (allP_1 (n := 100) (by omega) (by omega)) (by omega) (by omega) (allP_pr (a := (A.s.length : Int)) (allP_num (by omega)) (allP_1 hid.1 hid.2) (by rw [fa, Int.natCast_mul]))) ?_
        intro va22 vc22
        refine hK23 _ _ (fun w M => (mem_take 5 M :)) ?_
        refine ga_v 13 rfl (by kernel_rfl) (by kernel_rfl) (by kernel_rfl) (.free rfl) rfl rfl (qt_assign rfl rfl) (fun _ _ _ h => h) ?_
        refine ga_done (by kernel_rfl) ?_
        refine gk_then (hK14 _ _ ?_)
        refine gc_seq fun K24 hK24 => ?_
        simp only [Int.toNat_natCast, fix_eq2]
        refine gc_region ?_
        refine g_v (.free rfl) rfl rfl (qt_field (z := 4) (off := 0) rfl rfl Try.underlying78 rfl (by kernel_rfl) rfl) ?_
        refine g_v (.free rfl) rfl rfl (qt_loadP (n := 0) (z := 5) rfl rfl Try.underlying30 rfl (by kernel_rfl) rfl (by first | decide | exact Nat.le_refl _ | simp)) ?_
        refine g_v (.free rfl) rfl rfl (qt_field (z := 11) (off := 10) rfl rfl Try.underlying78 rfl (by kernel_rfl) rfl) ?_
        refine g_v (.free rfl) rfl rfl (qt_field (z := 4) (off := 5) rfl rfl Try.underlying32 rfl (by kernel_rfl) rfl) ?_
        refine g_v (.free rfl) rfl rfl (qt_loadP (n := 0) (z := 5) rfl rfl Try.underlying30 rfl (by kernel_rfl) rfl (by first | decide | exact Nat.le_refl _ | simp)) ?_
        refine g_v (.free rfl) rfl rfl (qt_move rfl rfl) ?_
        refine g_v (.free rfl) rfl rfl (qt_move rfl rfl) ?_
        refine g_v (.free rfl) rfl rfl (qt_build rfl rfl bt_Functor) ?_
        refine g_op (.free rfl) fun K25 hK25 => ?_
        refine go_storeS (n := 1) rfl rfl rfl rfl (by kernel_rfl) rfl rfl rfl ?_
        refine hK25 _ _ ?_
        refine g_nil ?_
        refine gk_then (hK24 _ _ ?_)
        refine gc_ret ?_
        refine ret_S (n := 1) rfl rfl Try.underlying32 rfl (by kernel_rfl) rfl (fun w M => ?_)
        try simp only [List.nil_append, List.cons_append, List.append_assoc, List.set_cons_succ, List.set_cons_zero] at M
        exact retOA_star (xs := fixO2 A B F y) (ys := fixA2 A B F y) (mem_block 5 1 (mem_block 7 1 (M)))
      · refine go_slice1 rfl rfl rfl rfl Try.underlying22 ?_
        intro B26
        refine hK17 _ _ (fun w M => (mem_take 5 M :)) ?_
        refine ga_op 4 (by kernel_rfl) rfl (.free rfl) fun K29 hK29 => ?_
        refine go_callL rfl rfl rfl Try.func120 rfl (by decide) rfl (fun w M => countL_any w _ (by first | assumption | omega) (by first | assumption | omega)) ?_
        intro va28 vc28
        refine hK29 _ _ (fun w M => (mem_take 5 M :)) ?_
        refine ga_op 12 (by kernel_rfl) rfl (.free rfl) fun K31 hK31 => ?_
        refine go_callL rfl rfl rfl Try.func121 rfl (by decide) rfl (fun w M => arrowsAt_any w _ _ _ _ _ _ _ _ _ _ _ _ _ _ _ _ _ _ _ _ _ _ _ _ _ _ _ _ _ _ _ _ _ _ _ _ _ _ _ _ _ _ _ _ _ _ _ _ _ _ _ _ _ (mem_rdC M hA) (mem_rdC M hB) (mem_rdF M hF) _ (numL A.s.length) _ [at0 B.e y] ((mem_own1 (n := 6) M rfl).rd) ((mem_own1 (n := 5) M rfl).rd) (by simp only [numL_len, List.length_singleton]; omega) (by simp only [numL_len, List.length_singleton]; omega) (allP_num (by omega)) (allP_1 (n := 100) (by omega) (by omega)) (by omega) (by omega) (allP_pr (a := (A.s.length : Int)) (allP_num (by omega)) (allP_1 hid.1 hid.2) (by rw [fa, Int.natCast_mul]))) ?_
        intro va30 vc30
        refine hK31 _ _ (fun w M => (mem_take 5 M :)) ?_
        refine ga_v 13 rfl (by kernel_rfl) (by kernel_rfl) (by kernel_rfl) (.free rfl) rfl rfl (qt_assign rfl rfl) (fun _ _ _ h => h) ?_
        refine ga_done (by kernel_rfl) ?_
        refine gk_then (hK14 _ _ ?_)
        refine gc_seq fun K32 hK32 => ?_
        simp only [Int.toNat_natCast, fix_eq2]
        refine gc_region ?_
        refine g_v (.free rfl) rfl rfl (qt_field (z := 4) (off := 0) rfl rfl Try.underlying78 rfl (by kernel_rfl) rfl) ?_
        refine g_v (.free rfl) rfl rfl (qt_loadP (n := 0) (z := 5) rfl rfl Try.underlying30 rfl (by kernel_rfl) rfl (by first | decide | exact Nat.le_refl _ | simp)) ?_
        refine g_v (.free rfl) rfl rfl (qt_field (z := 11) (off := 10) rfl rfl Try.underlying78 rfl (by kernel_rfl) rfl) ?_
        refine g_v (.free rfl) rfl rfl (qt_field (z := 4) (off := 5) rfl rfl Try.underlying32 rfl (by kernel_rfl) rfl) ?_
        refine g_v (.free rfl) rfl rfl (qt_loadP (n := 0) (z := 5) rfl rfl Try.underlying30 rfl (by kernel_rfl) rfl (by first | decide | exact Nat.le_refl _ | simp)) ?_
        refine g_v (.free rfl) rfl rfl (qt_move rfl rfl) ?_
        refine g_v (.free rfl) rfl rfl (qt_move rfl rfl) ?_
        refine g_v (.free rfl) rfl rfl (qt_build rfl rfl bt_Functor) ?_
        refine g_op (.free rfl) fun K33 hK33 => ?_
        refine go_storeS (n := 1) rfl rfl rfl rfl (by kernel_rfl) rfl rfl rfl ?_
        refine hK33 _ _ ?_
        refine g_nil ?_
        refine gk_then (hK32 _ _ ?_)
        refine gc_ret ?_
        refine ret_S (n := 1) rfl rfl Try.underlying32 rfl (by kernel_rfl) rfl (fun w M => ?_)
        try simp only [List.nil_append, List.cons_append, List.append_assoc, List.set_cons_succ, List.set_cons_zero] at M
        exact retOA_star (xs := fixO2 A B F y) (ys := fixA2 A B F y) (mem_block 5 1 (mem_block 7 1 (M)))
    · refine go_slice1 rfl rfl rfl rfl Try.underlying22 ?_
      intro B34
      refine hK15 _ _ (fun w M => (mem_take 5 M :)) ?_
      refine ga_op 3 (by kernel_rfl) rfl (.free rfl) fun K36 hK36 => ?_
      refine go_q rfl rfl (qt_call rfl Try.func122 rfl (by decide) rfl (fun w M => arrows_any w _ _ (mem_rdC M hA))) ?_
      refine hK36 _ _ (fun w M => (mem_take 5 M :)) ?_
      refine ga_op 4 (by kernel_rfl) rfl (.free rfl) fun K38 hK38 => ?_
      refine go_callL rfl rfl rfl Try.func120 rfl (by decide) rfl (fun w M => countL_any w _ (by first | assumption | omega) (by first | assumption | omega)) ?_
      intro va37 vc37
      refine hK38 _ _ (fun w M => (mem_take 5 M :)) ?_
      refine ga_op 12 (by kernel_rfl) rfl (.free rfl) fun K40 hK40 => ?_
      refine go_callL rfl rfl rfl Try.func121 rfl (by decide) rfl (fun w M => arrowsAt_any w _ _ _ _ _ _ _ _ _ _ _ _ _ _ _ _ _ _ _ _ _ _ _ _ _ _ _ _ _ _ _ _ _ _ _ _ _ _ _ _ _ _ _ _ _ _ _ _ _ _ _ _ _ (mem_rdC M hA) (mem_rdC M hB) (mem_rdF M hF) _ (numL A.s.length) _ [at0 B.e y] ((mem_own1 (n := 6) M rfl).rd) ((mem_own1 (n := 5) M rfl).rd) (by simp only [numL_len, List.length_singleton]; omega) (by simp only [numL_len, List.length_singleton]; omega) (allP_num (by omega)) (allP_1 (n := 100) (by omega) (by omega)) (by omega) (by omega) (allP_pr (a := (A.s.length : Int)) (allP_num (by omega)) (allP_1 hid.1 hid.2) (by rw [fa, Int.natCast_mul]))) ?_
      intro va39 vc39
      refine hK40 _ _ (fun w M => (mem_take 5 M :)) ?_
      refine ga_v 13 rfl (by kernel_rfl) (by kernel_rfl) (by kernel_rfl) (.free rfl) rfl rfl (qt_assign rfl rfl) (fun _ _ _ h => h) ?_
      refine ga_done (by kernel_rfl) ?_
      refine gk_then (hK14 _ _ ?_)
      refine gc_seq fun K41 hK41 => ?_
      simp only [Int.toNat_natCast, fix_eq2]
      refine gc_region ?_
      refine g_v (.free rfl) rfl rfl (qt_field (z := 4) (off := 0) rfl rfl Try.underlying78 rfl (by kernel_rfl) rfl) ?_
      refine g_v (.free rfl) rfl rfl (qt_loadP (n := 0) (z := 5) rfl rfl Try.underlying30 rfl (by kernel_rfl) rfl (by first | decide | exact Nat.le_refl _ | simp)) ?_
      refine g_v (.free rfl) rfl rfl (qt_field (z := 11) (off := 10) rfl rfl Try.underlying78 rfl (by kernel_rfl) rfl) ?_
      refine g_v (.free rfl) rfl rfl (qt_field (z := 4) (off := 5) rfl rfl Try.underlying32 rfl (by kernel_rfl) rfl) ?_
      refine g_v (.free rfl) rfl rfl (qt_loadP (n := 0) (z := 5) rfl rfl Try.underlying30 rfl (by kernel_rfl) rfl (by first | decide | exact Nat.le_refl _ | simp)) ?_
      refine g_v (.free rfl) rfl rfl (qt_move rfl rfl) ?_
      refine g_v (.free rfl) rfl rfl (qt_move rfl rfl) ?_
      refine g_v (.free rfl) rfl rfl (qt_build rfl rfl bt_Functor) ?_
      refine g_op (.free rfl) fun K42 hK42 => ?_
      refine go_storeS (n := 1) rfl rfl rfl rfl (by kernel_rfl) rfl rfl rfl ?_
      refine hK42 _ _ ?_
      refine g_nil ?_
      refine gk_then (hK41 _ _ ?_)
      refine gc_ret ?_
      refine ret_S (n := 1) rfl rfl Try.underlying32 rfl (by kernel_rfl) rfl (fun w M => ?_)
      try simp only [List.nil_append, List.cons_append, List.append_assoc, List.set_cons_succ, List.set_cons_zero] at M
      exact retOA_star (xs := fixO2 A B F y) (ys := fixA2 A B F y) (mem_block 5 1 (mem_block 7 1 (M)))
  · refine go_slice1 rfl rfl rfl rfl Try.underlying22 ?_
    intro B43
    refine hK7 _ _ (fun w M => (mem_take 2 M :)) ?_
    refine ga_op 4 (by kernel_rfl) rfl (.free rfl) fun K46 hK46 => ?_
    refine go_callL rfl rfl rfl Try.func120 rfl (by decide) rfl (fun w M => countL_any w _ (by first | assumption | omega) (by first | assumption | omega)) ?_
    intro va45 vc45
    refine hK46 _ _ (fun w M => (mem_take 2 M :)) ?_
    refine ga_op 7 (by kernel_rfl) rfl (.free rfl) fun K48 hK48 => ?_
    refine go_callL rfl rfl rfl Try.func119 rfl (by decide) rfl (fun w M => objectsAt_any w _ _ _ _ _ _ _ _ _ _ _ _ _ _ _ _ _ _ _ _ _ _ _ _ _ _ _ _ _ _ _ _ _ _ _ _ _ _ _ _ _ _ _ _ _ _ _ _ _ _ _ _ _ (mem_rdC M hA) (mem_rdC M hB) (mem_rdF M hF) _ (numL A.ob.toNat) _ [y] ((mem_own1 (n := 3) M rfl).rd) ((mem_own1 (n := 2) M rfl).rd) (by simp only [numL_len, List.length_singleton]; omega) (by simp only [numL_len, List.length_singleton]; omega) (allP_num (by omega)) (allP_1 (n := 100) (by omega) (by omega)) (by omega) (by omega) (allP_pr (a := A.ob) (allP_num (by omega)) (allP_1 hx0 hx1) fo)) ?_
    intro va47 vc47
    refine hK48 _ _ (fun w M => (mem_take 2 M :)) ?_
    refine ga_v 8 rfl (by kernel_rfl) (by kernel_rfl) (by kernel_rfl) (.free rfl) rfl rfl (qt_assign rfl rfl) (fun _ _ _ h => h) ?_
    refine ga_done (by kernel_rfl) ?_
    refine gk_then (hK6 _ _ ?_)
    refine gc_seq fun K49 hK49 => ?_
    simp only [fix_eq2]
    try simp only [List.nil_append, List.cons_append, List.append_assoc, List.set_cons_succ, List.set_cons_zero]
    refine ga_start _ (fun w M => M) ?_
    refine ga_v 0 rfl (by kernel_rfl) (by kernel_rfl) (by kernel_rfl) (.free rfl) rfl rfl (qt_loadS (n := 0) rfl rfl Try.underlying78 rfl (by kernel_rfl) rfl) (fun _ _ _ h => h) ?_
    refine ga_v 1 rfl (by kernel_rfl) (by kernel_rfl) (by kernel_rfl) (.free rfl) rfl rfl (qt_field (z := 4) (off := 0) rfl rfl Try.underlying78 rfl (by kernel_rfl) rfl) (fun _ _ _ h => h) ?_
    refine ga_v 2 rfl (by kernel_rfl) (by kernel_rfl) (by kernel_rfl) (.free rfl) rfl rfl (qt_loadP (n := 0) (z := 5) rfl rfl Try.underlying30 rfl (by kernel_rfl) rfl (by first | decide | exact Nat.le_refl _ | simp)) (fun _ _ _ h => h) ?_
    refine ga_v 5 rfl (by kernel_rfl) (by kernel_rfl) (by kernel_rfl) (.free rfl) rfl rfl (qt_field (z := 4) (off := 5) rfl rfl Try.underlying78 rfl (by kernel_rfl) rfl) (fun _ _ _ h => h) ?_
    refine ga_v 6 rfl (by kernel_rfl) (by kernel_rfl) (by kernel_rfl) (.free rfl) rfl rfl (qt_field (z := 0) (off := 3) rfl rfl Try.underlying30 rfl (by kernel_rfl) rfl) (fun _ _ _ h => h) ?_
    refine ga_v 7 rfl (by kernel_rfl) (by kernel_rfl) (by kernel_rfl) (.free rfl) rfl rfl (qt_loadB (n := 0) rfl rfl Try.underlying22 rfl rfl rfl) (fun _ _ _ h => h) ?_
    refine ga_v 8 rfl (by kernel_rfl) (by kernel_rfl) (by kernel_rfl) (.free rfl) rfl rfl (qt_move rfl rfl) (fun _ _ _ h => h) ?_
    refine ga_v 9 rfl (by kernel_rfl) (by kernel_rfl) (by kernel_rfl) (.free rfl) rfl rfl (qt_index rfl rfl rfl ulE1 szE1 (fun w M => lenA_rd hBe) (by omega) (by omega)) (fun _ _ _ h => h) ?_
    refine ga_v 10 rfl (by kernel_rfl) (by kernel_rfl) (by kernel_rfl) (.free rfl) rfl rfl (qt_load1 rfl rfl Try.underlying2 rfl (fun w M => mem_rd M hBe) (by omega) (by omega)) (fun _ _ _ h => h) ?_
    refine ga_two 3 11 (by kernel_rfl) rfl rfl (.free rfl) (.free rfl) (fun K50 hK50 => ?_) (fun K50 hK50 => ?_)
    · refine go_q rfl rfl (qt_call rfl Try.func122 rfl (by decide) rfl (fun w M => arrows_any w _ _ (mem_rdC M hA))) ?_
      refine hK50 _ _ (fun w M => (mem_take 5 M :)) ?_
      refine ga_two 4 11 (by kernel_rfl) rfl rfl (.free rfl) (.free rfl) (fun K52 hK52 => ?_) (fun K52 hK52 => ?_)
      · refine go_callL rfl rfl rfl Try.func120 rfl (by decide) rfl (fun w M => countL_any w _ (by first | assumption | omega) (by first | assumption | omega)) ?_
        intro va53 vc53
        refine hK52 _ _ (fun w M => (mem_take 5 M :)) ?_
        refine ga_op 11 (by kernel_rfl) rfl (.free rfl) fun K56 hK56 => ?_
        refine go_slice1 rfl rfl rfl rfl Try.underlying22 ?_
        intro B55
        refine hK56 _ _ (fun w M => (mem_take 5 M :)) ?_
        refine ga_op 12 (by kernel_rfl) rfl (.free rfl) fun K58 hK58 => ?_
        refine go_callL rfl rfl rfl Try.func121 rfl (by decide) rfl (fun w M => arrowsAt_any w _ _ _ _ _ _ _ _ _ _ _ _ _ _ _ _ _ _ _ _ _ _ _ _ _ _ _ _ _ _ _ _ _ _ _ _ _ _ _ _ _ _ _ _ _ _ _ _ _ _ _ _ _ (mem_rdC M hA) (mem_rdC M hB) (mem_rdF M hF) _ (numL A.s.length) _ [at0 B.e y] ((mem_own1 (n := 5) M rfl).rd) ((mem_own1 (n := 6) M rfl).rd) (by simp only [numL_len, List.length_singleton]; omega) (by simp only [numL_len, List.length_singleton]; omega) (allP_num (by omega)) (allP_1 (n := 100) (by omega) (by omega)) (by omega) (by omega) (allP_pr (a := (A.s.length : Int)) (allP_num (by omega)) (allP_1 hid.1 hid.2) (by rw [fa, Int.natCast_mul]))) ?_
        intro va57 vc57
        refine hK58 _ _ (fun w M => (mem_take 5 M :)) ?_
        refine ga_v 13 rfl (by kernel_rfl) (by kernel_rfl) (by kernel_rfl) (.free rfl) rfl rfl (qt_assign rfl rfl) (fun _ _ _ h => h) ?_
        refine ga_done (by kernel_rfl) ?_
        refine gk_then (hK49 _ _ ?_)
        refine gc_seq fun K59 hK59 => ?_
        simp only [Int.toNat_natCast, fix_eq2]
        refine gc_region ?_
        refine g_v (.free rfl) rfl rfl (qt_field (z := 4) (off := 0) rfl rfl Try.underlying78 rfl (by kernel_rfl) rfl) ?_
        refine g_v (.free rfl) rfl rfl (qt_loadP (n := 0) (z := 5) rfl rfl Try.underlying30 rfl (by kernel_rfl) rfl (by first | decide | exact Nat.le_refl _ | simp)) ?_
        refine g_v (.free rfl) rfl rfl (qt_field (z := 11) (off := 10) rfl rfl Try.underlying78 rfl (by kernel_rfl) rfl) ?_
        refine g_v (.free rfl) rfl rfl (qt_field (z := 4) (off := 5) rfl rfl Try.underlying32 rfl (by kernel_rfl) rfl) ?_
        refine g_v (.free rfl) rfl rfl (qt_loadP (n := 0) (z := 5) rfl rfl Try.underlying30 rfl (by kernel_rfl) rfl (by first | decide | exact Nat.le_refl _ | simp)) ?_
        refine g_v (.free rfl) rfl rfl (qt_move rfl rfl) ?_
        refine g_v (.free rfl) rfl rfl (qt_move rfl rfl) ?_
        refine g_v (.free rfl) rfl rfl (qt_build rfl rfl bt_Functor) ?_
        refine g_op (.free rfl) fun K60 hK60 => ?_
        refine go_storeS (n := 1) rfl rfl rfl rfl (by kernel_rfl) rfl rfl rfl ?_
        refine hK60 _ _ ?_
        refine g_nil ?_
        refine gk_then (hK59 _ _ ?_)
        refine gc_ret ?_
        refine ret_S (n := 1) rfl rfl Try.underlying32 rfl (by kernel_rfl) rfl (fun w M => ?_)
        try simp only [List.nil_append, List.cons_append, List.append_assoc, List.set_cons_succ, List.set_cons_zero] at M
        exact retOA_star (xs := fixO2 A B F y) (ys := fixA2 A B F y) (mem_block 5 1 (mem_block 7 1 (M)))
      · refine go_slice1 rfl rfl rfl rfl Try.underlying22 ?_
        intro B61
        refine hK52 _ _ (fun w M => (mem_take 5 M :)) ?_
        refine ga_op 4 (by kernel_rfl) rfl (.free rfl) fun K64 hK64 => ?_
        refine go_callL rfl rfl rfl Try.func120 rfl (by decide) rfl (fun w M => countL_any w _ (by first | assumption | omega) (by first | assumption | omega)) ?_
        intro va63 vc63
        refine hK64 _ _ (fun w M => (mem_take 5 M :)) ?_
        refine ga_op 12 (by kernel_rfl) rfl (.free rfl) fun K66 hK66 => ?_
        refine go_callL rfl rfl rfl Try.func121 rfl (by decide) rfl (fun w M => arrowsAt_any w _ _ _ _ _ _ _ _ _ _ _ _ _ _ _ _ _ _ _ _ _ _ _ _ _ _ _ _ _ _ _ _ _ _ _ _ _ _ _ _ _ _ _ _ _ _ _ _ _ _ _ _ _ (mem_rdC M hA) (mem_rdC M hB) (mem_rdF M hF) _ (numL A.s.length) _ [at0 B.e y] ((mem_own1 (n := 6) M rfl).rd) ((mem_own1 (n := 5) M rfl).rd) (by simp only [numL_len, List.length_singleton]; omega) (by simp only [numL_len, List.length_singleton]; omega) (allP_num (by omega)) (allP_1 (n := 100) (by omega) (by omega)) (by omega) (by omega) (allP_pr (a := (A.s.length : Int)) (allP_num (by omega)) (allP_1 hid.1 hid.2) (by rw [fa, Int.natCast_mul]))) ?_
        intro va65 vc65
        refine hK66 _ _ (fun w M => (mem_take 5 M :)) ?_
        refine ga_v 13 rfl (by kernel_rfl) (by kernel_rfl) (by kernel_rfl) (.free rfl) rfl rfl (qt_assign rfl rfl) (fun _ _ _ h => h) ?_
        refine ga_done (by kernel_rfl) ?_
        refine gk_then (hK49 _ _ ?_)
        refine gc_seq fun K67 hK67 => ?_
        simp only [Int.toNat_natCast, fix_eq2]
        refine gc_region ?_
        refine g_v (.free rfl) rfl rfl (qt_field (z := 4) (off := 0) rfl rfl Try.underlying78 rfl (by kernel_rfl) rfl) ?_
        refine g_v (.free rfl) rfl rfl (qt_loadP (n := 0) (z := 5) rfl rfl Try.underlying30 rfl (by kernel_rfl) rfl (by first | decide | exact Nat.le_refl _ | simp)) ?_
        refine g_v (.free rfl) rfl rfl (qt_field (z := 11) (off := 10) rfl rfl Try.underlying78 rfl (by kernel_rfl) rfl) ?_
        refine g_v (.free rfl) rfl rfl (qt_field (z := 4) (off := 5) rfl rfl Try.underlying32 rfl (by kernel_rfl) rfl) ?_
        refine g_v (.free rfl) rfl rfl (qt_loadP (n := 0) (z := 5) rfl rfl Try.underlying30 rfl (by kernel_rfl) rfl (by first | decide | exact Nat.le_refl _ | simp)) ?_
        refine g_v (.free rfl) rfl rfl (qt_move rfl rfl) ?_
        refine g_v (.free rfl) rfl rfl (qt_move rfl rfl) ?_
        refine g_v (.free rfl) rfl rfl (qt_build rfl rfl bt_Functor) ?_
        refine g_op (.free rfl) fun K68 hK68 => ?_
        refine go_storeS (n := 1) rfl rfl rfl rfl (by kernel_rfl) rfl rfl rfl ?_
        refine hK68 _ _ ?_
        refine g_nil ?_
        refine gk_then (hK67 _ _ ?_)
        refine gc_ret ?_
        refine ret_S (n := 1) rfl rfl Try.underlying32 rfl (by kernel_rfl) rfl (fun w M => ?_)
        try simp only [List.nil_append, List.cons_append, List.append_assoc, List.set_cons_succ, List.set_cons_zero] at M
        exact retOA_star (xs := fixO2 A B F y) (ys := fixA2 A B F y) (mem_block 5 1 (mem_block 7 1 (M)))
    · refine go_slice1 rfl rfl rfl rfl Try.underlying22 ?_
      intro B69
      refine hK50 _ _ (fun w M => (mem_take 5 M :)) ?_
      refine ga_op 3 (by kernel_rfl) rfl (.free rfl) fun K71 hK71 => ?_
      refine go_q rfl rfl (qt_call rfl Try.func122 rfl (by decide) rfl (fun w M => arrows_any w _ _ (mem_rdC M hA))) ?_
      refine hK71 _ _ (fun w M => (mem_take 5 M :)) ?_
      refine ga_op 4 (by kernel_rfl) rfl (.free rfl) fun K73 hK73 => ?_
      refine go_callL rfl rfl rfl Try.func120 rfl (by decide) rfl (fun w M => countL_any w _ (by first | assumption | omega) (by first | assumption | omega)) ?_
      intro va72 vc72
      refine hK73 _ _ (fun w M => (mem_take 5 M :)) ?_
      refine ga_op 12 (by kernel_rfl) rfl (.free rfl) fun K75 hK75 => ?_
      refine go_callL rfl rfl rfl Try.func121 rfl (by decide) rfl (fun w M => arrowsAt_any w _ _ _ _ _ _ _ _ _ _ _ _ _ _ _ _ _ _ _ _ _ _ _ _ _ _ _ _ _ _ _ _ _ _ _ _ _ _ _ _ _ _ _ _ _ _ _ _ _ _ _ _ _ (mem_rdC M hA) (mem_rdC M hB) (mem_rdF M hF) _ (numL A.s.length) _ [at0 B.e y] ((mem_own1 (n := 6) M rfl).rd) ((mem_own1 (n := 5) M rfl).rd) (by simp only [numL_len, List.length_singleton]; omega) (by simp only [numL_len, List.length_singleton]; omega) (allP_num (by omega)) (allP_1 (n := 100) (by omega) (by omega)) (by omega) (by omega) (allP_pr (a := (A.s.length : Int)) (allP_num (by omega)) (allP_1 hid.1 hid.2) (by rw [fa, Int.natCast_mul]))) ?_
      intro va74 vc74
      refine hK75 _ _ (fun w M => (mem_take 5 M :)) ?_
      refine ga_v 13 rfl (by kernel_rfl) (by kernel_rfl) (by kernel_rfl) (.free rfl) rfl rfl (qt_assign rfl rfl) (fun _ _ _ h => h) ?_
      refine ga_done (by kernel_rfl) ?_
      refine gk_then (hK49 _ _ ?_)
      refine gc_seq fun K76 hK76 => ?_
      simp only [Int.toNat_natCast, fix_eq2]
      refine gc_region ?_
      refine g_v (.free rfl) rfl rfl (qt_field (z := 4) (off := 0) rfl rfl Try.underlying78 rfl (by kernel_rfl) rfl) ?_
      refine g_v (.free rfl) rfl rfl (qt_loadP (n := 0) (z := 5) rfl rfl Try.underlying30 rfl (by kernel_rfl) rfl (by first | decide | exact Nat.le_refl _ | simp)) ?_
      refine g_v (.free rfl) rfl rfl (qt_field (z := 11) (off := 10) rfl rfl Try.underlying78 rfl (by kernel_rfl) rfl) ?_
      refine g_v (.free rfl) rfl rfl (qt_field (z := 4) (off := 5) rfl rfl Try.underlying32 rfl (by kernel_rfl) rfl) ?_
      refine g_v (.free rfl) rfl rfl (qt_loadP (n := 0) (z := 5) rfl rfl Try.underlying30 rfl (by kernel_rfl) rfl (by first | decide | exact Nat.le_refl _ | simp)) ?_
      refine g_v (.free rfl) rfl rfl (qt_move rfl rfl) ?_
      refine g_v (.free rfl) rfl rfl (qt_move rfl rfl) ?_
      refine g_v (.free rfl) rfl rfl (qt_build rfl rfl bt_Functor) ?_
      refine g_op (.free rfl) fun K77 hK77 => ?_
      refine go_storeS (n := 1) rfl rfl rfl rfl (by kernel_rfl) rfl rfl rfl ?_
      refine hK77 _ _ ?_
      refine g_nil ?_
      refine gk_then (hK76 _ _ ?_)
      refine gc_ret ?_
      refine ret_S (n := 1) rfl rfl Try.underlying32 rfl (by kernel_rfl) rfl (fun w M => ?_)
      try simp only [List.nil_append, List.cons_append, List.append_assoc, List.set_cons_succ, List.set_cons_zero] at M
      exact retOA_star (xs := fixO2 A B F y) (ys := fixA2 A B F y) (mem_block 5 1 (mem_block 7 1 (M)))

set_option maxHeartbeats 4000000 in
set_option maxRecDepth 100000 in
theorem impl_FixFirst (w : World) (v : Value) (A : Cat) (u : Value) (B : Cat) (t : Value) (F : Fct) (x : Int) (h : RdC w v A) (e : RdC w u B) (g : RdF w t F) :
    Calls Try.prog 18 #[v, u, t, .int .i64 x] w (RetFI w (fFixFirst A B F x).1 (fFixFirst A B F x).2) := by
  have h0 := h
  obtain ⟨va, vb, vc, vd, ve, vf, vg, vh, rfl, h1, h2, h3, h4, _⟩ := h.lists
  have e0 := e
  obtain ⟨ua, ub, uc, ud, ue, uf, ug, uh, rfl, e1, e2, e3, e4, _⟩ := e.lists
  have g0 := g
  obtain ⟨tx1, tx2, tx3, tx4, tx5, tx6, tx7, tx8, tx9, tx10, tk1, tk2, tk3, tk4, tk5, tk6, tk7, tk8, tk9, tk10, rfl, g1, g2, g3, g4, g5, g6, g7, g8, g9, g10⟩ := g.lists
  go_enter Try.func18, Try.ntmps18
  refine gc_enter (N := 33) rfl (look_cons (k := 0) rfl (look_cons (k := 1) rfl (look_cons (k := 2) rfl (look_cons (k := 3) rfl (look_nil _))))) ?_
  refine gc_seq fun K1 hK1 => ?_
  refine gc_region ?_
  refine g_op (.free rfl) fun K3 hK3 => ?_
  refine go_box rfl rfl rfl rfl rfl ?_
  intro B2
  refine hK3 _ _ ?_
  refine g_op (.free rfl) fun K5 hK5 => ?_
  refine go_box rfl rfl rfl rfl rfl ?_
  intro B4
  refine hK5 _ _ ?_
  refine g_op (.free rfl) fun K7 hK7 => ?_
  refine go_box rfl rfl rfl rfl rfl ?_
  intro B6
  refine hK7 _ _ ?_
  refine g_op (.free rfl) fun K9 hK9 => ?_
  refine go_alloc (z := (.agg #[.int .i64 0, .slice none 0 0, .slice none 0 0, .slice none 0 0, .slice none 0 0, .int .i64 0, .slice none 0 0, .slice none 0 0, .slice none 0 0, .slice none 0 0, .slice none 0 0, .slice none 0 0])) (cs := [.int .i64 0, .slice none 0 0, .slice none 0 0, .slice none 0 0, .slice none 0 0, .int .i64 0, .slice none 0 0, .slice none 0 0, .slice none 0 0, .slice none 0 0, .slice none 0 0, .slice none 0 0]) rfl rfl rfl (fun w => by kernel_rfl) rfl ?_
  intro B8
  refine hK9 _ _ ?_
  refine g_v (.free rfl) rfl rfl (qt_assign rfl rfl) ?_
  refine g_nil ?_
  refine gk_then (hK1 _ _ ?_)
  refine gc_seq fun K10 hK10 => ?_
  refine gc_region ?_
  refine g_v (.free rfl) rfl rfl (qt_loadS (n := 0) rfl rfl Try.underlying30 rfl (by kernel_rfl) rfl) ?_
  refine g_v (.free rfl) rfl rfl (qt_loadS (n := 1) rfl rfl Try.underlying30 rfl (by kernel_rfl) rfl) ?_
  refine g_v (.free rfl) rfl rfl (qt_loadS (n := 2) rfl rfl Try.underlying32 rfl (by kernel_rfl) rfl) ?_
  refine g_op (.free rfl) fun K12 hK12 => ?_
  refine go_callTV rfl rfl rfl Try.func69 rfl (by decide) rfl (fun w M => readTV_any w _ _ _ _ _ _ (mem_rdC M h0) (mem_rdC M e0) (mem_rdF M g0)) ?_
  intro px1_11 pk1_11 px2_11 pk2_11 px3_11 pk3_11 px4_11 pk4_11 px5_11 pk5_11 px6_11 pk6_11 px7_11 pk7_11 px8_11 pk8_11 px9_11 pk9_11 px10_11 pk10_11 px11_11 pk11_11 px12_11 pk12_11 px13_11 pk13_11 px14_11 pk14_11 px15_11 pk15_11 px16_11 pk16_11 px17_11 pk17_11 px18_11 pk18_11 pu11 pv11 pw11 pz11
  refine hK12 _ _ ?_
  refine g_v (.free rfl) rfl rfl (qt_move rfl rfl) ?_
  refine g_v (.free rfl) rfl rfl (qt_extract rfl rfl rfl) ?_
  refine g_v (.free rfl) rfl rfl (qt_extract rfl rfl rfl) ?_
  refine g_op (.free rfl) fun K14 hK14 => ?_
  refine go_alloc (z := (.agg #[.int .i64 0, .slice none 0 0, .slice none 0 0, .slice none 0 0, .slice none 0 0, .int .i64 0, .slice none 0 0, .slice none 0 0, .slice none 0 0, .slice none 0 0, .int .i64 0, .slice none 0 0, .slice none 0 0, .slice none 0 0, .slice none 0 0, .int .i64 0, .slice none 0 0, .slice none 0 0, .slice none 0 0, .slice none 0 0, .slice none 0 0, .slice none 0 0])) (cs := [.int .i64 0, .slice none 0 0, .slice none 0 0, .slice none 0 0, .slice none 0 0, .int .i64 0, .slice none 0 0, .slice none 0 0, .slice none 0 0, .slice none 0 0, .int .i64 0, .slice none 0 0, .slice none 0 0, .slice none 0 0, .slice none 0 0, .int .i64 0, .slice none 0 0, .slice none 0 0, .slice none 0 0, .slice none 0 0, .slice none 0 0, .slice none 0 0]) rfl rfl rfl (fun w => by kernel_rfl) rfl ?_
  intro B13
  refine hK14 _ _ ?_
  refine g_op (.free rfl) fun K15 hK15 => ?_
  refine go_storeS (n := 22) rfl rfl rfl rfl (by kernel_rfl) rfl rfl rfl ?_
  refine hK15 _ _ ?_
  refine g_v (.free rfl) rfl rfl (qt_assign rfl rfl) ?_
  refine g_nil ?_
  refine gk_then (hK10 _ _ ?_)
  refine gc_seq fun K16 hK16 => ?_
  refine gc_seq fun K17 hK17 => ?_
  refine gc_region ?_
  refine g_v (.free rfl) rfl rfl (qt_move rfl rfl) ?_
  refine g_v (.free rfl) rfl rfl (qt_eql rfl rfl rfl) ?_
  refine g_nil ?_
  refine gk_then (hK17 _ _ ?_)
  refine gc_cond rfl (fun hc0 => ?_) (fun hc0 => ?_)
  · try simp only [decide_eq_true_eq, decide_eq_false_iff_not, Bool.not_eq_true', Bool.not_eq_false', Bool.not_eq_eq_eq_not, Bool.not_true, Bool.not_false, ne_eq, Decidable.not_not, Classical.not_not] at hc0
    have hh := tv_0 hc0
    have hC := tv_c hc0
    simp only [hC.1, hC.2.1, hC.2.2]
    refine gc_region ?_
    refine g_v (.free rfl) rfl rfl (qt_loadS (n := 22) rfl rfl Try.underlying78 rfl (by kernel_rfl) rfl) ?_
    refine g_v (.free rfl) rfl rfl (qt_field (z := 4) (off := 0) rfl rfl Try.underlying78 rfl (by kernel_rfl) rfl) ?_
    refine g_v (.free rfl) rfl rfl (qt_loadP (n := 22) (z := 5) rfl rfl Try.underlying30 rfl (by kernel_rfl) rfl (by first | decide | exact Nat.le_refl _ | simp)) ?_
    refine g_v (.free rfl) rfl rfl (qt_move rfl rfl) ?_
    refine g_q (.free rfl) rfl rfl (qt_call rfl Try.func70 rfl (by decide) rfl (fun w M => tvCheck_any w _ _ _ _ _ _ _ _ _ _ _ _ _ _ _ _ _ _ _ _ _ _ _ _ _ _ _ _ _ _ _ _ _ _ _ _ _ _ _ _ _ _ _ _ _ _ _ _ _ _ _ _ _ (rdC_mk ((mem_own1 (n := 4) M rfl).rd) ((mem_own1 (n := 5) M rfl).rd) ((mem_own1 (n := 6) M rfl).rd) (mem_rdU (n := 7) M rfl)) (rdC_mk ((mem_own1 (n := 8) M rfl).rd) ((mem_own1 (n := 9) M rfl).rd) ((mem_own1 (n := 10) M rfl).rd) (mem_rdU (n := 11) M rfl)) (rdF_mk ((mem_own1 (n := 12) M rfl).rd) ((mem_own1 (n := 13) M rfl).rd) ((mem_own1 (n := 14) M rfl).rd) (mem_rdU (n := 15) M rfl) ((mem_own1 (n := 16) M rfl).rd) ((mem_own1 (n := 17) M rfl).rd) ((mem_own1 (n := 18) M rfl).rd) (mem_rdU (n := 19) M rfl) ((mem_own1 (n := 20) M rfl).rd) ((mem_own1 (n := 21) M rfl).rd)) hh _ _ (rdC_mk ((mem_own1 (n := 4) M rfl).rd) ((mem_own1 (n := 5) M rfl).rd) ((mem_own1 (n := 6) M rfl).rd) (mem_rdU (n := 7) M rfl)) _)) ?_
    refine g_v (.free rfl) rfl rfl (qt_assign rfl rfl) ?_
    refine g_nil ?_
    refine gk_then (hK16 _ _ ?_)
    refine gc_seq fun K18 hK18 => ?_
    refine gc_seq fun K19 hK19 => ?_
    refine gc_region ?_
    refine g_v (.free rfl) rfl rfl (qt_move rfl rfl) ?_
    refine g_v (.free rfl) rfl rfl (qt_neq rfl rfl rfl) ?_
    refine g_nil ?_
    refine gk_then (hK19 _ _ ?_)
    refine gc_cond rfl (fun hc1 => ?_) (fun hc1 => ?_)
    · try simp only [decide_eq_true_eq, decide_eq_false_iff_not, Bool.not_eq_true', Bool.not_eq_false', Bool.not_eq_eq_eq_not, Bool.not_true, Bool.not_false, ne_eq, Decidable.not_not, Classical.not_not] at hc1
      refine gc_seq fun K20 hK20 => ?_
      refine gc_region ?_
      refine g_v (.free rfl) rfl rfl (qt_build rfl rfl bt0_Functor) ?_
      refine g_v (.free rfl) rfl rfl (qt_move rfl rfl) ?_
      refine g_op (.free rfl) fun K21 hK21 => ?_
      refine go_storeS (n := 3) rfl rfl rfl rfl (by kernel_rfl) rfl rfl rfl ?_
      refine hK21 _ _ ?_
      refine g_v (.free rfl) rfl rfl (qt_assign rfl rfl) ?_
      refine g_nil ?_
      refine gk_then (hK20 _ _ ?_)
      refine gc_ret ?_
      refine gk_then_ret ?_
      refine ret_SI (n := 3) rfl rfl rfl Try.underlying32 rfl (by kernel_rfl) rfl (fun w M => ?_)
      rw [fx1_f hc1]; exact retFI_zero M.1
    · try simp only [decide_eq_true_eq, decide_eq_false_iff_not, Bool.not_eq_true', Bool.not_eq_false', Bool.not_eq_eq_eq_not, Bool.not_true, Bool.not_false, ne_eq, Decidable.not_not, Classical.not_not] at hc1
      refine gc_skip ?_
      refine gk_then (hK18 _ _ ?_)
      refine gc_seq fun K22 hK22 => ?_
      have hv := tvc_t hc1
      have hx := bP_t' hv.1
      have hP := hv.2
      refine gc_region ?_
      refine g_v (.free rfl) rfl rfl (qt_loadS (n := 22) rfl rfl Try.underlying78 rfl (by kernel_rfl) rfl) ?_
      refine g_v (.free rfl) rfl rfl (qt_move rfl rfl) ?_
      refine g_op (.free rfl) fun K24 hK24 => ?_
      refine go_callOA rfl rfl rfl Try.func71 rfl (by decide) rfl (fun w M => fixFirst_any w _ _ _ _ _ _ _ _ _ _ _ _ _ _ _ _ _ _ _ _ _ _ _ _ _ _ _ _ _ _ _ _ _ _ _ _ _ _ _ _ _ _ _ _ _ _ _ _ _ _ _ _ _ (rdC_mk ((mem_own1 (n := 4) M rfl).rd) ((mem_own1 (n := 5) M rfl).rd) ((mem_own1 (n := 6) M rfl).rd) (mem_rdU (n := 7) M rfl)) (rdC_mk ((mem_own1 (n := 8) M rfl).rd) ((mem_own1 (n := 9) M rfl).rd) ((mem_own1 (n := 10) M rfl).rd) (mem_rdU (n := 11) M rfl)) (rdF_mk ((mem_own1 (n := 12) M rfl).rd) ((mem_own1 (n := 13) M rfl).rd) ((mem_own1 (n := 14) M rfl).rd) (mem_rdU (n := 15) M rfl) ((mem_own1 (n := 16) M rfl).rd) ((mem_own1 (n := 17) M rfl).rd) ((mem_own1 (n := 18) M rfl).rd) (mem_rdU (n := 19) M rfl) ((mem_own1 (n := 20) M rfl).rd) ((mem_own1 (n := 21) M rfl).rd)) _ hx.1 hx.2 hP) ?_
      intro fx23 fk23 gx23 gk23
      refine hK24 _ _ ?_
      refine g_op (.free rfl) fun K25 hK25 => ?_
      refine go_storeS (n := 3) rfl rfl rfl rfl (by kernel_rfl) rfl rfl rfl ?_
      refine hK25 _ _ ?_
      refine g_v (.free rfl) rfl rfl (qt_assign rfl rfl) ?_
      refine g_nil ?_
      refine gk_then (hK22 _ _ ?_)
      refine gc_ret ?_
      refine ret_SI (n := 3) rfl rfl rfl Try.underlying32 rfl (by kernel_rfl) rfl (fun w M => ?_)
      try simp only [List.nil_append, List.cons_append, List.append_assoc, List.set_cons_succ, List.set_cons_zero] at M
      rw [fx1_t hc1]; exact retFI_star (F := fix1 A B F x) (mem_block 14 4 (mem_block 18 4 (mem_block 23 2 (M))))
  · try simp only [decide_eq_true_eq, decide_eq_false_iff_not, Bool.not_eq_true', Bool.not_eq_false', Bool.not_eq_eq_eq_not, Bool.not_true, Bool.not_false, ne_eq, Decidable.not_not, Classical.not_not] at hc0
    refine gc_skip ?_
    refine gk_then (hK16 _ _ ?_)
    refine gc_seq fun K26 hK26 => ?_
    refine gc_seq fun K27 hK27 => ?_
    refine gc_region ?_
    refine g_v (.free rfl) rfl rfl (qt_move rfl rfl) ?_
    refine g_v (.free rfl) rfl rfl (qt_neq rfl rfl rfl) ?_
    refine g_nil ?_
    refine gk_then (hK27 _ _ ?_)
    refine gc_cond rfl (fun hc2 => ?_) (fun hc2 => ?_)
    · try simp only [decide_eq_true_eq, decide_eq_false_iff_not, Bool.not_eq_true', Bool.not_eq_false', Bool.not_eq_eq_eq_not, Bool.not_true, Bool.not_false, ne_eq, Decidable.not_not, Classical.not_not] at hc2
      refine gc_seq fun K28 hK28 => ?_
      refine gc_region ?_
      refine g_v (.free rfl) rfl rfl (qt_build rfl rfl bt0_Functor) ?_
      refine g_v (.free rfl) rfl rfl (qt_move rfl rfl) ?_
      refine g_op (.free rfl) fun K29 hK29 => ?_
      refine go_storeS (n := 3) rfl rfl rfl rfl (by kernel_rfl) rfl rfl rfl ?_
      refine hK29 _ _ ?_
      refine g_v (.free rfl) rfl rfl (qt_assign rfl rfl) ?_
      refine g_nil ?_
      refine gk_then (hK28 _ _ ?_)
      refine gc_ret ?_
      refine gk_then_ret ?_
      refine ret_SI (n := 3) rfl rfl rfl Try.underlying32 rfl (by kernel_rfl) rfl (fun w M => ?_)
      have hn := tv_1 hc0; rw [hn.1, fx1_f (by rw [tvc_1 hn.2]; decide), tvc_1 hn.2]; exact retFI_zero M.1
    · try simp only [decide_eq_true_eq, decide_eq_false_iff_not, Bool.not_eq_true', Bool.not_eq_false', Bool.not_eq_eq_eq_not, Bool.not_true, Bool.not_false, ne_eq, Decidable.not_not, Classical.not_not] at hc2
      exact absurd hc2 hc0

set_option maxHeartbeats 4000000 in
set_option maxRecDepth 100000 in
theorem impl_FixSecond (w : World) (v : Value) (A : Cat) (u : Value) (B : Cat) (t : Value) (F : Fct) (y : Int) (h : RdC w v A) (e : RdC w u B) (g : RdF w t F) :
    Calls Try.prog 25 #[v, u, t, .int .i64 y] w (RetFI w (fFixSecond A B F y).1 (fFixSecond A B F y).2) := by
  have h0 := h
  obtain ⟨va, vb, vc, vd, ve, vf, vg, vh, rfl, h1, h2, h3, h4, _⟩ := h.lists
  have e0 := e
  obtain ⟨ua, ub, uc, ud, ue, uf, ug, uh, rfl, e1, e2, e3, e4, _⟩ := e.lists
  have g0 := g
  obtain ⟨tx1, tx2, tx3, tx4, tx5, tx6, tx7, tx8, tx9, tx10, tk1, tk2, tk3, tk4, tk5, tk6, tk7, tk8, tk9, tk10, rfl, g1, g2, g3, g4, g5, g6, g7, g8, g9, g10⟩ := g.lists
  go_enter Try.func25, Try.ntmps25
  refine gc_enter (N := 33) rfl (look_cons (k := 0) rfl (look_cons (k := 1) rfl (look_cons (k := 2) rfl (look_cons (k := 3) rfl (look_nil _))))) ?_
  refine gc_seq fun K1 hK1 => ?_
  refine gc_region ?_
  refine g_op (.free rfl) fun K3 hK3 => ?_
  refine go_box rfl rfl rfl rfl rfl ?_
  intro B2
  refine hK3 _ _ ?_
  refine g_op (.free rfl) fun K5 hK5 => ?_
  refine go_box rfl rfl rfl rfl rfl ?_
  intro B4
  refine hK5 _ _ ?_
  refine g_op (.free rfl) fun K7 hK7 => ?_
  refine go_box rfl rfl rfl rfl rfl ?_
  intro B6
  refine hK7 _ _ ?_
  refine g_op (.free rfl) fun K9 hK9 => ?_
  refine go_alloc (z := (.agg #[.int .i64 0, .slice none 0 0, .slice none 0 0, .slice none 0 0, .slice none 0 0, .int .i64 0, .slice none 0 0, .slice none 0 0, .slice none 0 0, .slice none 0 0, .slice none 0 0, .slice none 0 0])) (cs := [.int .i64 0, .slice none 0 0, .slice none 0 0, .slice none 0 0, .slice none 0 0, .int .i64 0, .slice none 0 0, .slice none 0 0, .slice none 0 0, .slice none 0 0, .slice none 0 0, .slice none 0 0]) rfl rfl rfl (fun w => by kernel_rfl) rfl ?_
  intro B8
  refine hK9 _ _ ?_
  refine g_v (.free rfl) rfl rfl (qt_assign rfl rfl) ?_
  refine g_nil ?_
  refine gk_then (hK1 _ _ ?_)
  refine gc_seq fun K10 hK10 => ?_
  refine gc_region ?_
  refine g_v (.free rfl) rfl rfl (qt_loadS (n := 0) rfl rfl Try.underlying30 rfl (by kernel_rfl) rfl) ?_
  refine g_v (.free rfl) rfl rfl (qt_loadS (n := 1) rfl rfl Try.underlying30 rfl (by kernel_rfl) rfl) ?_
  refine g_v (.free rfl) rfl rfl (qt_loadS (n := 2) rfl rfl Try.underlying32 rfl (by kernel_rfl) rfl) ?_
  refine g_op (.free rfl) fun K12 hK12 => ?_
  refine go_callTV rfl rfl rfl Try.func69 rfl (by decide) rfl (fun w M => readTV_any w _ _ _ _ _ _ (mem_rdC M h0) (mem_rdC M e0) (mem_rdF M g0)) ?_
  intro px1_11 pk1_11 px2_11 pk2_11 px3_11 pk3_11 px4_11 pk4_11 px5_11 pk5_11 px6_11 pk6_11 px7_11 pk7_11 px8_11 pk8_11 px9_11 pk9_11 px10_11 pk10_11 px11_11 pk11_11 px12_11 pk12_11 px13_11 pk13_11 px14_11 pk14_11 px15_11 pk15_11 px16_11 pk16_11 px17_11 pk17_11 px18_11 pk18_11 pu11 pv11 pw11 pz11
  refine hK12 _ _ ?_
  refine g_v (.free rfl) rfl rfl (qt_move rfl rfl) ?_
  refine g_v (.free rfl) rfl rfl (qt_extract rfl rfl rfl) ?_
  refine g_v (.free rfl) rfl rfl (qt_extract rfl rfl rfl) ?_
  refine g_op (.free rfl) fun K14 hK14 => ?_
  refine go_alloc (z := (.agg #[.int .i64 0, .slice none 0 0, .slice none 0 0, .slice none 0 0, .slice none 0 0, .int .i64 0, .slice none 0 0, .slice none 0 0, .slice none 0 0, .slice none 0 0, .int .i64 0, .slice none 0 0, .slice none 0 0, .slice none 0 0, .slice none 0 0, .int .i64 0, .slice none 0 0, .slice none 0 0, .slice none 0 0, .slice none 0 0, .slice none 0 0, .slice none 0 0])) (cs := [.int .i64 0, .slice none 0 0, .slice none 0 0, .slice none 0 0, .slice none 0 0, .int .i64 0, .slice none 0 0, .slice none 0 0, .slice none 0 0, .slice none 0 0, .int .i64 0, .slice none 0 0, .slice none 0 0, .slice none 0 0, .slice none 0 0, .int .i64 0, .slice none 0 0, .slice none 0 0, .slice none 0 0, .slice none 0 0, .slice none 0 0, .slice none 0 0]) rfl rfl rfl (fun w => by kernel_rfl) rfl ?_
  intro B13
  refine hK14 _ _ ?_
  refine g_op (.free rfl) fun K15 hK15 => ?_
  refine go_storeS (n := 22) rfl rfl rfl rfl (by kernel_rfl) rfl rfl rfl ?_
  refine hK15 _ _ ?_
  refine g_v (.free rfl) rfl rfl (qt_assign rfl rfl) ?_
  refine g_nil ?_
  refine gk_then (hK10 _ _ ?_)
  refine gc_seq fun K16 hK16 => ?_
  refine gc_seq fun K17 hK17 => ?_
  refine gc_region ?_
  refine g_v (.free rfl) rfl rfl (qt_move rfl rfl) ?_
  refine g_v (.free rfl) rfl rfl (qt_eql rfl rfl rfl) ?_
  refine g_nil ?_
  refine gk_then (hK17 _ _ ?_)
  refine gc_cond rfl (fun hc0 => ?_) (fun hc0 => ?_)
  · try simp only [decide_eq_true_eq, decide_eq_false_iff_not, Bool.not_eq_true', Bool.not_eq_false', Bool.not_eq_eq_eq_not, Bool.not_true, Bool.not_false, ne_eq, Decidable.not_not, Classical.not_not] at hc0
    have hh := tv_0 hc0
    have hC := tv_c hc0
    simp only [hC.1, hC.2.1, hC.2.2]
    refine gc_region ?_
    refine g_v (.free rfl) rfl rfl (qt_loadS (n := 22) rfl rfl Try.underlying78 rfl (by kernel_rfl) rfl) ?_
    refine g_v (.free rfl) rfl rfl (qt_field (z := 4) (off := 5) rfl rfl Try.underlying78 rfl (by kernel_rfl) rfl) ?_
    refine g_v (.free rfl) rfl rfl (qt_loadP (n := 22) (z := 5) rfl rfl Try.underlying30 rfl (by kernel_rfl) rfl (by first | decide | exact Nat.le_refl _ | simp)) ?_
    refine g_v (.free rfl) rfl rfl (qt_move rfl rfl) ?_
    refine g_q (.free rfl) rfl rfl (qt_call rfl Try.func70 rfl (by decide) rfl (fun w M => tvCheck_any w _ _ _ _ _ _ _ _ _ _ _ _ _ _ _ _ _ _ _ _ _ _ _ _ _ _ _ _ _ _ _ _ _ _ _ _ _ _ _ _ _ _ _ _ _ _ _ _ _ _ _ _ _ (rdC_mk ((mem_own1 (n := 4) M rfl).rd) ((mem_own1 (n := 5) M rfl).rd) ((mem_own1 (n := 6) M rfl).rd) (mem_rdU (n := 7) M rfl)) (rdC_mk ((mem_own1 (n := 8) M rfl).rd) ((mem_own1 (n := 9) M rfl).rd) ((mem_own1 (n := 10) M rfl).rd) (mem_rdU (n := 11) M rfl)) (rdF_mk ((mem_own1 (n := 12) M rfl).rd) ((mem_own1 (n := 13) M rfl).rd) ((mem_own1 (n := 14) M rfl).rd) (mem_rdU (n := 15) M rfl) ((mem_own1 (n := 16) M rfl).rd) ((mem_own1 (n := 17) M rfl).rd) ((mem_own1 (n := 18) M rfl).rd) (mem_rdU (n := 19) M rfl) ((mem_own1 (n := 20) M rfl).rd) ((mem_own1 (n := 21) M rfl).rd)) hh _ _ (rdC_mk ((mem_own1 (n := 8) M rfl).rd) ((mem_own1 (n := 9) M rfl).rd) ((mem_own1 (n := 10) M rfl).rd) (mem_rdU (n := 11) M rfl)) _)) ?_
    refine g_v (.free rfl) rfl rfl (qt_assign rfl rfl) ?_
    refine g_nil ?_
    refine gk_then (hK16 _ _ ?_)
    refine gc_seq fun K18 hK18 => ?_
    refine gc_seq fun K19 hK19 => ?_
    refine gc_region ?_
    refine g_v (.free rfl) rfl rfl (qt_move rfl rfl) ?_
    refine g_v (.free rfl) rfl rfl (qt_neq rfl rfl rfl) ?_
    refine g_nil ?_
    refine gk_then (hK19 _ _ ?_)
    refine gc_cond rfl (fun hc1 => ?_) (fun hc1 => ?_)
    · try simp only [decide_eq_true_eq, decide_eq_false_iff_not, Bool.not_eq_true', Bool.not_eq_false', Bool.not_eq_eq_eq_not, Bool.not_true, Bool.not_false, ne_eq, Decidable.not_not, Classical.not_not] at hc1
      refine gc_seq fun K20 hK20 => ?_
      refine gc_region ?_
      refine g_v (.free rfl) rfl rfl (qt_build rfl rfl bt0_Functor) ?_
      refine g_v (.free rfl) rfl rfl (qt_move rfl rfl) ?_
      refine g_op (.free rfl) fun K21 hK21 => ?_
      refine go_storeS (n := 3) rfl rfl rfl rfl (by kernel_rfl) rfl rfl rfl ?_
      refine hK21 _ _ ?_
      refine g_v (.free rfl) rfl rfl (qt_assign rfl rfl) ?_
      refine g_nil ?_
      refine gk_then (hK20 _ _ ?_)
      refine gc_ret ?_
      refine gk_then_ret ?_
      refine ret_SI (n := 3) rfl rfl rfl Try.underlying32 rfl (by kernel_rfl) rfl (fun w M => ?_)
      rw [fx2_f hc1]; exact retFI_zero M.1
    · try simp only [decide_eq_true_eq, decide_eq_false_iff_not, Bool.not_eq_true', Bool.not_eq_false', Bool.not_eq_eq_eq_not, Bool.not_true, Bool.not_false, ne_eq, Decidable.not_not, Classical.not_not] at hc1
      refine gc_skip ?_
      refine gk_then (hK18 _ _ ?_)
      refine gc_seq fun K22 hK22 => ?_
      have hv := tvc_t hc1
      have hx := bP_t' hv.1
      have hP := hv.2
      refine gc_region ?_
      refine g_v (.free rfl) rfl rfl (qt_loadS (n := 22) rfl rfl Try.underlying78 rfl (by kernel_rfl) rfl) ?_
      refine g_v (.free rfl) rfl rfl (qt_move rfl rfl) ?_
      refine g_op (.free rfl) fun K24 hK24 => ?_
      refine go_callOA rfl rfl rfl Try.func76 rfl (by decide) rfl (fun w M => fixSecond_any w _ _ _ _ _ _ _ _ _ _ _ _ _ _ _ _ _ _ _ _ _ _ _ _ _ _ _ _ _ _ _ _ _ _ _ _ _ _ _ _ _ _ _ _ _ _ _ _ _ _ _ _ _ (rdC_mk ((mem_own1 (n := 4) M rfl).rd) ((mem_own1 (n := 5) M rfl).rd) ((mem_own1 (n := 6) M rfl).rd) (mem_rdU (n := 7) M rfl)) (rdC_mk ((mem_own1 (n := 8) M rfl).rd) ((mem_own1 (n := 9) M rfl).rd) ((mem_own1 (n := 10) M rfl).rd) (mem_rdU (n := 11) M rfl)) (rdF_mk ((mem_own1 (n := 12) M rfl).rd) ((mem_own1 (n := 13) M rfl).rd) ((mem_own1 (n := 14) M rfl).rd) (mem_rdU (n := 15) M rfl) ((mem_own1 (n := 16) M rfl).rd) ((mem_own1 (n := 17) M rfl).rd) ((mem_own1 (n := 18) M rfl).rd) (mem_rdU (n := 19) M rfl) ((mem_own1 (n := 20) M rfl).rd) ((mem_own1 (n := 21) M rfl).rd)) _ hx.1 hx.2 hP) ?_
      intro fx23 fk23 gx23 gk23
      refine hK24 _ _ ?_
      refine g_op (.free rfl) fun K25 hK25 => ?_
      refine go_storeS (n := 3) rfl rfl rfl rfl (by kernel_rfl) rfl rfl rfl ?_
      refine hK25 _ _ ?_
      refine g_v (.free rfl) rfl rfl (qt_assign rfl rfl) ?_
      refine g_nil ?_
      refine gk_then (hK22 _ _ ?_)
      refine gc_ret ?_
      refine ret_SI (n := 3) rfl rfl rfl Try.underlying32 rfl (by kernel_rfl) rfl (fun w M => ?_)
      try simp only [List.nil_append, List.cons_append, List.append_assoc, List.set_cons_succ, List.set_cons_zero] at M
      rw [fx2_t hc1]; exact retFI_star (F := fix2 A B F y) (mem_block 10 4 (mem_block 18 4 (mem_block 23 2 (M))))
  · try simp only [decide_eq_true_eq, decide_eq_false_iff_not, Bool.not_eq_true', Bool.not_eq_false', Bool.not_eq_eq_eq_not, Bool.not_true, Bool.not_false, ne_eq, Decidable.not_not, Classical.not_not] at hc0
    refine gc_skip ?_
    refine gk_then (hK16 _ _ ?_)
    refine gc_seq fun K26 hK26 => ?_
    refine gc_seq fun K27 hK27 => ?_
    refine gc_region ?_
    refine g_v (.free rfl) rfl rfl (qt_move rfl rfl) ?_
    refine g_v (.free rfl) rfl rfl (qt_neq rfl rfl rfl) ?_
    refine g_nil ?_
    refine gk_then (hK27 _ _ ?_)
    refine gc_cond rfl (fun hc2 => ?_) (fun hc2 => ?_)
    · try simp only [decide_eq_true_eq, decide_eq_false_iff_not, Bool.not_eq_true', Bool.not_eq_false', Bool.not_eq_eq_eq_not, Bool.not_true, Bool.not_false, ne_eq, Decidable.not_not, Classical.not_not] at hc2
      refine gc_seq fun K28 hK28 => ?_
      refine gc_region ?_
      refine g_v (.free rfl) rfl rfl (qt_build rfl rfl bt0_Functor) ?_
      refine g_v (.free rfl) rfl rfl (qt_move rfl rfl) ?_
      refine g_op (.free rfl) fun K29 hK29 => ?_
      refine go_storeS (n := 3) rfl rfl rfl rfl (by kernel_rfl) rfl rfl rfl ?_
      refine hK29 _ _ ?_
      refine g_v (.free rfl) rfl rfl (qt_assign rfl rfl) ?_
      refine g_nil ?_
      refine gk_then (hK28 _ _ ?_)
      refine gc_ret ?_
      refine gk_then_ret ?_
      refine ret_SI (n := 3) rfl rfl rfl Try.underlying32 rfl (by kernel_rfl) rfl (fun w M => ?_)
      have hn := tv_1 hc0; rw [hn.1, fx2_f (by rw [tvc_1 hn.2]; decide), tvc_1 hn.2]; exact retFI_zero M.1
    · try simp only [decide_eq_true_eq, decide_eq_false_iff_not, Bool.not_eq_true', Bool.not_eq_false', Bool.not_eq_eq_eq_not, Bool.not_true, Bool.not_false, ne_eq, Decidable.not_not, Classical.not_not] at hc2
      exact absurd hc2 hc0

end Go.Proofs.Ytfnneogadciimab
