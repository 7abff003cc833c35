import Derived.Test.YtpcabkdkdnchaaaGreatN10
import Derived.Test.YtpcabkdkdnchaaaGreatN3
import Derived.Test.YtpcabkdkdnchaaaGreatN6
set_option linter.unusedSimpArgs false
set_option linter.unusedVariables false
set_option linter.unusedSectionVars false
namespace Go.Proofs.YtpcabkdkdnchaaaGreat
open Go.RowKit
structure Fct where
  S : Cat
  T : Cat
  o : List Int
  a : List Int
def RdF (w : World) (v : Value) (F : Fct) : Prop :=
  ∃ s1 s2 s3 s4 t1 t2 t3 t4 vo va : Value, v = .agg #[.int .i64 F.S.ob, s1, s2, s3, s4, .int .i64 F.T.ob, t1, t2, t3, t4, vo, va] ∧ (Rd w s1 F.S.s ∧ Rd w s2 F.S.t ∧ Rd w s3 F.S.e ∧ Rd2 w s4 F.S.m) ∧ (Rd w t1 F.T.s ∧ Rd w t2 F.T.t ∧ Rd w t3 F.T.e ∧ Rd2 w t4 F.T.m) ∧ Rd w vo F.o ∧ Rd w va F.a
theorem rdF_mk {w : World} {F : Fct} {s1 s2 s3 s4 t1 t2 t3 t4 vo va : Value} (h1 : Rd w s1 F.S.s) (h2 : Rd w s2 F.S.t) (h3 : Rd w s3 F.S.e) (h4 : Rd2 w s4 F.S.m) (h5 : Rd w t1 F.T.s) (h6 : Rd w t2 F.T.t) (h7 : Rd w t3 F.T.e) (h8 : Rd2 w t4 F.T.m) (h9 : Rd w vo F.o) (h10 : Rd w va F.a) :
    RdF w (.agg #[.int .i64 F.S.ob, s1, s2, s3, s4, .int .i64 F.T.ob, t1, t2, t3, t4, vo, va]) F := ⟨_, _, _, _, _, _, _, _, _, _, rfl, ⟨h1, h2, h3, h4⟩, ⟨h5, h6, h7, h8⟩, h9, h10⟩
theorem rdF_below {w w' : World} {v : Value} {F : Fct} (hb : Below w.heap.size w w') (h : RdF w v F) : RdF w' v F := by
  obtain ⟨s1, s2, s3, s4, t1, t2, t3, t4, vo, va, hv, ⟨h1, h2, h3, h4⟩, ⟨h5, h6, h7, h8⟩, h9, h10⟩ := h
  exact ⟨s1, s2, s3, s4, t1, t2, t3, t4, vo, va, hv, ⟨rd_below hb h1, rd_below hb h2, rd_below hb h3, rd2_below hb h4⟩, ⟨rd_below hb h5, rd_below hb h6, rd_below hb h7, rd2_below hb h8⟩, rd_below hb h9, rd_below hb h10⟩
inductive FcL (w : World) (v : Value) (F : Fct) : Prop where
  | mk (x1 x2 x3 x4 x5 x6 x7 x8 x9 x10 : Option Addr) (k1 k2 k3 k4 k5 k6 k7 k8 k9 k10 : Nat) (hv : v = .agg #[.int .i64 F.S.ob, .slice x1 F.S.s.length k1, .slice x2 F.S.t.length k2, .slice x3 F.S.e.length k3, .slice x4 F.S.m.length k4, .int .i64 F.T.ob, .slice x5 F.T.s.length k5, .slice x6 F.T.t.length k6, .slice x7 F.T.e.length k7, .slice x8 F.T.m.length k8, .slice x9 F.o.length k9, .slice x10 F.a.length k10]) (h1 : Rd w (.slice x1 F.S.s.length k1) F.S.s) (h2 : Rd w (.slice x2 F.S.t.length k2) F.S.t) (h3 : Rd w (.slice x3 F.S.e.length k3) F.S.e) (h4 : Rd2 w (.slice x4 F.S.m.length k4) F.S.m) (h5 : Rd w (.slice x5 F.T.s.length k5) F.T.s) (h6 : Rd w (.slice x6 F.T.t.length k6) F.T.t) (h7 : Rd w (.slice x7 F.T.e.length k7) F.T.e) (h8 : Rd2 w (.slice x8 F.T.m.length k8) F.T.m) (h9 : Rd w (.slice x9 F.o.length k9) F.o) (h10 : Rd w (.slice x10 F.a.length k10) F.a) : FcL w v F
theorem RdF.lists {w : World} {v : Value} {F : Fct} (h : RdF w v F) : FcL w v F := by
  obtain ⟨s1, s2, s3, s4, t1, t2, t3, t4, vo, va, rfl, ⟨h1, h2, h3, h4⟩, ⟨h5, h6, h7, h8⟩, h9, h10⟩ := h
  obtain ⟨a1, c1, rfl⟩ := rd_form h1
  obtain ⟨a2, c2, rfl⟩ := rd_form h2
  obtain ⟨a3, c3, rfl⟩ := rd_form h3
  obtain ⟨a4, c4, rfl⟩ := rd2_form h4
  obtain ⟨a5, c5, rfl⟩ := rd_form h5
  obtain ⟨a6, c6, rfl⟩ := rd_form h6
  obtain ⟨a7, c7, rfl⟩ := rd_form h7
  obtain ⟨a8, c8, rfl⟩ := rd2_form h8
  obtain ⟨a9, c9, rfl⟩ := rd_form h9
  obtain ⟨a10, c10, rfl⟩ := rd_form h10
  exact ⟨a1, a2, a3, a4, a5, a6, a7, a8, a9, a10, c1, c2, c3, c4, c5, c6, c7, c8, c9, c10, rfl, h1, h2, h3, h4, h5, h6, h7, h8, h9, h10⟩
def InF (w : World) (v : Value) (F : Fct) : Prop :=
  ∃ s1 s2 s3 s4 t1 t2 t3 t4 vo va : Value, v = .agg #[.int .i64 F.S.ob, s1, s2, s3, s4, .int .i64 F.T.ob, t1, t2, t3, t4, vo, va] ∧ InC w (.agg #[.int .i64 F.S.ob, s1, s2, s3, s4]) F.S ∧ InC w (.agg #[.int .i64 F.T.ob, t1, t2, t3, t4]) F.T ∧ In w vo F.o ∧ In w va F.a
def szFn (F : Fct) : Nat := szM F.S + szM F.T + F.o.length + F.a.length
theorem inF_below {w w' : World} {v : Value} {F : Fct} (hb : Below w.heap.size w w') (h : InF w v F) : InF w' v F := by
  obtain ⟨s1, s2, s3, s4, t1, t2, t3, t4, vo, va, hv, h1, h2, h3, h4⟩ := h
  exact ⟨s1, s2, s3, s4, t1, t2, t3, t4, vo, va, hv, inC_below hb h1, inC_below hb h2, in_below hb h3, in_below hb h4⟩
theorem agg5 {a b c d e a' b' c' d' e' : Value} (h : (Value.agg #[a, b, c, d, e]) = .agg #[a', b', c', d', e']) : a = a' ∧ b = b' ∧ c = c' ∧ d = d' ∧ e = e' := by
  simp only [Value.agg.injEq] at h
  have hl := congrArg Array.toList h
  simp only [List.cons.injEq, and_true] at hl
  exact ⟨hl.1, hl.2.1, hl.2.2.1, hl.2.2.2.1, hl.2.2.2.2⟩
theorem InF.rd {w : World} {v : Value} {F : Fct} (h : InF w v F) (hl : szFn F ≤ 1048576) : RdF w v F := by
  unfold szFn at hl
  obtain ⟨s1, s2, s3, s4, t1, t2, t3, t4, vo, va, rfl, h1, h2, h3, h4⟩ := h
  obtain ⟨p1, p2, p3, p4, hp, g1, g2, g3, g4⟩ := h1.rd (by omega)
  obtain ⟨q1, q2, q3, q4, hq, g5, g6, g7, g8⟩ := h2.rd (by omega)
  obtain ⟨_, rfl, rfl, rfl, rfl⟩ := agg5 hp
  obtain ⟨_, rfl, rfl, rfl, rfl⟩ := agg5 hq
  exact rdF_mk g1 g2 g3 g4 g5 g6 g7 g8 (h3.rd (by omega)) (h4.rd (by omega))
inductive FcN (w : World) (v : Value) (F : Fct) : Prop where
  | mk (x1 x2 x3 x4 x5 x6 x7 x8 x9 x10 : Option Addr) (k1 k2 k3 k4 k5 k6 k7 k8 k9 k10 : Nat) (hv : v = .agg #[.int .i64 F.S.ob, .slice x1 F.S.s.length k1, .slice x2 F.S.t.length k2, .slice x3 F.S.e.length k3, .slice x4 F.S.m.length k4, .int .i64 F.T.ob, .slice x5 F.T.s.length k5, .slice x6 F.T.t.length k6, .slice x7 F.T.e.length k7, .slice x8 F.T.m.length k8, .slice x9 F.o.length k9, .slice x10 F.a.length k10]) (h1 : InC w (.agg #[.int .i64 F.S.ob, .slice x1 F.S.s.length k1, .slice x2 F.S.t.length k2, .slice x3 F.S.e.length k3, .slice x4 F.S.m.length k4]) F.S) (h2 : InC w (.agg #[.int .i64 F.T.ob, .slice x5 F.T.s.length k5, .slice x6 F.T.t.length k6, .slice x7 F.T.e.length k7, .slice x8 F.T.m.length k8]) F.T) (h3 : In w (.slice x9 F.o.length k9) F.o) (h4 : In w (.slice x10 F.a.length k10) F.a) : FcN w v F
theorem InF.form {w : World} {v : Value} {F : Fct} (h : InF w v F) : FcN w v F := by
  obtain ⟨s1, s2, s3, s4, t1, t2, t3, t4, vo, va, rfl, h1, h2, h3, h4⟩ := h
  have e1 := h1; have e2 := h2
  obtain ⟨a1, a2, a3, a4, c1, c2, c3, c4, hp⟩ := e1.form
  obtain ⟨a5, a6, a7, a8, c5, c6, c7, c8, hq⟩ := e2.form
  obtain ⟨_, rfl, rfl, rfl, rfl⟩ := agg5 hp
  obtain ⟨_, rfl, rfl, rfl, rfl⟩ := agg5 hq
  obtain ⟨a9, c9, rfl⟩ := h3.form
  obtain ⟨a10, c10, rfl⟩ := h4.form
  exact ⟨a1, a2, a3, a4, a5, a6, a7, a8, a9, a10, c1, c2, c3, c4, c5, c6, c7, c8, c9, c10, rfl, h1, h2, h3, h4⟩
def OwnF (v : Value) (F : Fct) (w : World) (S : Nat → Prop) : Prop :=
  ∃ (s1 s2 s3 s4 t1 t2 t3 t4 vo va : Value) (us ut : List Value), v = .agg #[.int .i64 F.S.ob, s1, s2, s3, s4, .int .i64 F.T.ob, t1, t2, t3, t4, vo, va] ∧
    Star [own1I s1 F.S.s, own1I s2 F.S.t, own1I s3 F.S.e, own2U s4 us F.S.m, own1I t1 F.T.s, own1I t2 F.T.t, own1I t3 F.T.e, own2U t4 ut F.T.m, own1I vo F.o, own1I va F.a] w S
theorem ownF_loc (v : Value) (F : Fct) : Loc (OwnF v F) where
  keep hs ha h := by
    obtain ⟨s1, s2, s3, s4, t1, t2, t3, t4, vo, va, us, ut, hv, h⟩ := h
    exact ⟨s1, s2, s3, s4, t1, t2, t3, t4, vo, va, us, ut, hv, star_keep _ hs ha h⟩
def ownFI (v : Value) (F : Fct) : Itm := ⟨_, ownF_loc v F⟩
theorem starF_1 {is : List Itm} {w : World} {S : Nat → Prop} {n : Nat} {v : Value} {xs : List Int} (h : Star is w S) (hi : is[n]? = some (own1I v xs)) : Rd w v xs := by
  obtain ⟨S1, _, h1⟩ := star_get is hi h
  exact Own1.rd h1
theorem starF_2 {is : List Itm} {w : World} {S : Nat → Prop} {n : Nat} {v : Value} {us : List Value} {rows : List (List Int)} (h : Star is w S) (hi : is[n]? = some (own2U v us rows)) : Rd2 w v rows := by
  obtain ⟨S1, _, h1⟩ := star_get is hi h
  exact Own2.rd (S := S1) ⟨us, h1⟩
theorem OwnF.rd {w : World} {S : Nat → Prop} {v : Value} {F : Fct} (h : OwnF v F w S) : RdF w v F := by
  obtain ⟨s1, s2, s3, s4, t1, t2, t3, t4, vo, va, us, ut, rfl, h⟩ := h
  exact rdF_mk (starF_1 (n := 0) h rfl) (starF_1 (n := 1) h rfl) (starF_1 (n := 2) h rfl) (starF_2 (n := 3) h rfl) (starF_1 (n := 4) h rfl) (starF_1 (n := 5) h rfl) (starF_1 (n := 6) h rfl) (starF_2 (n := 7) h rfl) (starF_1 (n := 8) h rfl) (starF_1 (n := 9) h rfl)
def RetFn (W : World) (F : Fct) (e : Ending) (w : World) : Prop := ∃ v, e = .returned v ∧ OwnF v F w (fun k => W.heap.size ≤ k) ∧ Below W.heap.size W w
section
variable {w0 : World} {is : List Itm} {ops : Array Oper} {Q : Exit → Act → World → Prop} {o : Oper} {rest : List Oper} {N : Frm} {n m : Nat} {e : Env} {v : Value} {d : Nat} {K : Act → World → Prop} {f : FuncId} {fn : Func} {ags : Array Operand} {ts : Array TypeId} {vs : List Value}
theorem mem_rdF {w : World} {F : Fct} (M : Mem w0 w is) (h : RdF w0 v F) : RdF w v F := rdF_below M.1 h
theorem mem_ownF {w : World} {F : Fct} (M : Mem w0 w is) (h : is[n]? = some (ownFI v F)) : OwnF v F w (fun k => w0.heap.size ≤ k) := by
  obtain ⟨S, hS, hb⟩ := mem_get M h
  exact (ownF_loc v F).keep (fun k _ hk => hS k hk) agree_refl hb
theorem go_callFn1 {F : Fct} (hd : o.dst = some d) (hN : Nat.blt d N = true) (hop : o.op = .call { callee := .value (.func f), args := ags, argTypes := ts }) (hfn : Tryz.prog.funcs[f]? = some fn) (hb : fn.body.isNone = false) (hn : (fn.name == "runtime.NumGoroutine") = false)
    (hargs : evoL e ags.toList = some vs) (hc : ∀ w, Mem w0 w is → Calls Tryz.prog f vs.toArray w (RetFn w F))
    (hk : ∀ x1 k1 x2 k2 x3 k3 x4 k4 x5 k5 x6 k6 x7 k7 x8 k8 x9 k9 x10 k10, GK w0 (is ++ [ownFI (.agg #[.int .i64 F.S.ob, .slice x1 F.S.s.length k1, .slice x2 F.S.t.length k2, .slice x3 F.S.e.length k3, .slice x4 F.S.m.length k4, .int .i64 F.T.ob, .slice x5 F.T.s.length k5, .slice x6 F.T.t.length k6, .slice x7 F.T.e.length k7, .slice x8 F.T.m.length k8, .slice x9 F.o.length k9, .slice x10 F.a.length k10]) F]) N K
      ((d, .agg #[.int .i64 F.S.ob, .slice x1 F.S.s.length k1, .slice x2 F.S.t.length k2, .slice x3 F.S.e.length k3, .slice x4 F.S.m.length k4, .int .i64 F.T.ob, .slice x5 F.T.s.length k5, .slice x6 F.T.t.length k6, .slice x7 F.T.e.length k7, .slice x8 F.T.m.length k8, .slice x9 F.o.length k9, .slice x10 F.a.length k10]) :: e)) : GO w0 is N o e Q K := by
  intro w a M F
  refine go_call hd hN F hop hfn hb hn hargs (hc w M) fun e' w' hR => ?_
  obtain ⟨v, rfl, hs, hbl⟩ := hR
  obtain ⟨x1, x2, x3, x4, x5, x6, x7, x8, x9, x10, k1, k2, k3, k4, k5, k6, k7, k8, k9, k10, rfl, _⟩ := hs.rd.lists
  exact ⟨_, rfl, fun a F => hk x1 k1 x2 k2 x3 k3 x4 k4 x5 k5 x6 k6 x7 k7 x8 k8 x9 k9 x10 k10 w' a (mem_new M hbl hs) F⟩
theorem go_storeP {t tb : TypeId} {x y : Operand} {B j : Nat} {cs us : List Value} (jz : Nat) (hd : o.dst = none) (hop : o.op = .store t x y) (hx : evo e x = some (.pointer (some ⟨B, j, none⟩))) (hy : evo e y = some (.agg us.toArray))
    (hs : (Tryz.prog.info? t).map (·.size) = some us.length) (h1 : us.all (·.oneCell') = true) (hi : is[n]? = some (bxI B tb cs)) (hz : j + us.length = jz) (hl : jz ≤ cs.length)
    (hk : ∀ cs', cs' = cs.take j ++ us ++ cs.drop jz → GK w0 (is.set n (bxI B tb cs')) N K e) : GO w0 is N o e Q K := by
  subst hz
  have hk := hk _ rfl
  intro w ac M F
  obtain ⟨S, hS, hp, hset⟩ := mem_set M hi
  have hb : w.heap[B]? = some (.cells cs.toArray tb (0, 0)) := hp.1
  have hr := run_storeCells_at (P := Tryz.prog) B j tb us 0 cs.toArray w hb (by simpa using hl) (fun v hv => List.all_eq_true.1 h1 v hv)
  simp only [Nat.add_zero] at hr
  refine go_skip (w' := w.setRow B (cs.take j ++ us ++ cs.drop (j + us.length)).toArray) hd F ?_ fun a F => hk _ a (hset _ _ ⟨rfl, rfl, rfl, by simp, fun k hk hr => setRow_other w B k _ (fun e => hr (by rw [e]; exact hp.2))⟩ ⟨setRow_heap w B _ _ tb (0, 0) hb, .inl hp.2⟩) F
  intro ρ F; have hx := F _ _ hx; have hy := F _ _ hy
  cases hq : Tryz.prog.info? t with
  | none => simp [hq] at hs
  | some i =>
    have hsz : us.length = i.size := by simp [hq] at hs; omega
    simp [execOp, hop, hx, hy, Instr.storeAt, Instr.sureAddr, storeVar, sizeOf, typeInfo, hq, Value.cells, ← hsz, hr, Sem.run_bind]
end
set_option maxHeartbeats 1000000 in
set_option maxRecDepth 100000 in
theorem szF_le (w : World) (v : Value) (F : Fct) (left : Int) (h : InF w v F) (h0 : 0 ≤ left) (h1 : left ≤ 1048576) (hl : ((szFn F : Nat) : Int) ≤ left) :
    Calls Tryz.prog 11 #[v, .int .i64 left] w (RetI w (left - ((szFn F : Nat) : Int))) := by
  obtain ⟨vx1, vx2, vx3, vx4, vx5, vx6, vx7, vx8, vx9, vx10, vk1, vk2, vk3, vk4, vk5, vk6, vk7, vk8, vk9, vk10, rfl, h1, h2, h3, h4⟩ := h.form
  have hsz : szFn F = szM F.S + szM F.T + F.o.length + F.a.length := rfl
  go_enter Tryz.func11, Tryz.ntmps11
  refine gc_enter (N := 30) rfl (look_cons (k := 0) rfl (look_cons (k := 1) rfl (look_nil _))) ?_
  refine gc_seq fun K1 hK1 => ?_
  refine gc_region ?_
  refine g_op (.free rfl) fun K3 hK3 => ?_
  refine go_box rfl rfl rfl rfl rfl ?_
  intro B2
  refine hK3 _ _ ?_
  refine g_v (.free rfl) rfl rfl (qt_assign rfl rfl) ?_
  refine g_nil ?_
  refine gk_then (hK1 _ _ ?_)
  refine gc_seq fun K4 hK4 => ?_
  refine gc_region ?_
  refine g_v (.free rfl) rfl rfl (qt_field (z := 4) (off := 0) rfl rfl Tryz.underlying27 rfl (by kernel_rfl) rfl) ?_
  refine g_v (.free rfl) rfl rfl (qt_loadP (n := 0) (z := 5) rfl rfl Tryz.underlying25 rfl (by kernel_rfl) rfl (by first | decide | exact Nat.le_refl _ | simp)) ?_
  refine g_v (.free rfl) rfl rfl (qt_move rfl rfl) ?_
  refine g_q (.free rfl) rfl rfl (qt_call rfl Tryz.func20 rfl (by decide) rfl (fun w M => szC_le w _ _ _ (inC_below M.1 h1) (by first | assumption | omega) (by first | assumption | omega) (by first | assumption | omega))) ?_
  refine g_v (.free rfl) rfl rfl (qt_assign rfl rfl) ?_
  refine g_nil ?_
  refine gk_then (hK4 _ _ ?_)
  refine gc_seq fun K5 hK5 => ?_
  refine gc_seq fun K6 hK6 => ?_
  refine gc_region ?_
  refine g_v (.free rfl) rfl rfl (qt_move rfl rfl) ?_
  refine g_v (.free rfl) rfl rfl (qt_lss rfl rfl rfl) ?_
  refine g_nil ?_
  refine gk_then (hK6 _ _ ?_)
  refine gc_cond rfl (fun hc0 => ?_) (fun hc0 => ?_)
  · try simp only [decide_eq_true_eq, decide_eq_false_iff_not, Bool.not_eq_true', Bool.not_eq_false', Bool.not_eq_eq_eq_not, Bool.not_true, Bool.not_false, ne_eq, Decidable.not_not, Classical.not_not] at hc0
    exfalso; omega
  · try simp only [decide_eq_true_eq, decide_eq_false_iff_not, Bool.not_eq_true', Bool.not_eq_false', Bool.not_eq_eq_eq_not, Bool.not_true, Bool.not_false, ne_eq, Decidable.not_not, Classical.not_not] at hc0
    refine gc_skip ?_
    refine gk_then (hK5 _ _ ?_)
    refine gc_seq fun K7 hK7 => ?_
    refine gc_region ?_
    refine g_v (.free rfl) rfl rfl (qt_field (z := 4) (off := 5) rfl rfl Tryz.underlying27 rfl (by kernel_rfl) rfl) ?_
    refine g_v (.free rfl) rfl rfl (qt_loadP (n := 0) (z := 5) rfl rfl Tryz.underlying25 rfl (by kernel_rfl) rfl (by first | decide | exact Nat.le_refl _ | simp)) ?_
    refine g_v (.free rfl) rfl rfl (qt_move rfl rfl) ?_
    refine g_q (.free rfl) rfl rfl (qt_call rfl Tryz.func20 rfl (by decide) rfl (fun w M => szC_le w _ _ _ (inC_below M.1 h2) (by first | assumption | omega) (by first | assumption | omega) (by first | assumption | omega))) ?_
    refine g_v (.free rfl) rfl rfl (qt_assign rfl rfl) ?_
    refine g_nil ?_
    refine gk_then (hK7 _ _ ?_)
    refine gc_seq fun K8 hK8 => ?_
    refine gc_seq fun K9 hK9 => ?_
    refine gc_region ?_
    refine g_v (.free rfl) rfl rfl (qt_move rfl rfl) ?_
    refine g_v (.free rfl) rfl rfl (qt_lss rfl rfl rfl) ?_
    refine g_nil ?_
    refine gk_then (hK9 _ _ ?_)
    refine gc_cond rfl (fun hc1 => ?_) (fun hc1 => ?_)
    · try simp only [decide_eq_true_eq, decide_eq_false_iff_not, Bool.not_eq_true', Bool.not_eq_false', Bool.not_eq_eq_eq_not, Bool.not_true, Bool.not_false, ne_eq, Decidable.not_not, Classical.not_not] at hc1
      exfalso; omega
    · try simp only [decide_eq_true_eq, decide_eq_false_iff_not, Bool.not_eq_true', Bool.not_eq_false', Bool.not_eq_eq_eq_not, Bool.not_true, Bool.not_false, ne_eq, Decidable.not_not, Classical.not_not] at hc1
      refine gc_skip ?_
      refine gk_then (hK8 _ _ ?_)
      refine gc_seq fun K10 hK10 => ?_
      refine gc_region ?_
      refine g_v (.free rfl) rfl rfl (qt_field (z := 0) (off := 10) rfl rfl Tryz.underlying27 rfl (by kernel_rfl) rfl) ?_
      refine g_v (.free rfl) rfl rfl (qt_loadB (n := 0) rfl rfl Tryz.underlying22 rfl rfl rfl) ?_
      refine g_v (.free rfl) rfl rfl (qt_move rfl rfl) ?_
      refine g_q (.free rfl) rfl rfl (qt_call rfl Tryz.func37 rfl (by decide) rfl (fun w M => sz1_le w _ _ _ (in_below M.1 h3) (by first | assumption | omega) (by first | assumption | omega) (by first | assumption | omega))) ?_
      refine g_v (.free rfl) rfl rfl (qt_assign rfl rfl) ?_
      refine g_nil ?_
      refine gk_then (hK10 _ _ ?_)
      refine gc_seq fun K11 hK11 => ?_
      refine gc_seq fun K12 hK12 => ?_
      refine gc_region ?_
      refine g_v (.free rfl) rfl rfl (qt_move rfl rfl) ?_
      refine g_v (.free rfl) rfl rfl (qt_lss rfl rfl rfl) ?_
      refine g_nil ?_
      refine gk_then (hK12 _ _ ?_)
      refine gc_cond rfl (fun hc2 => ?_) (fun hc2 => ?_)
      · try simp only [decide_eq_true_eq, decide_eq_false_iff_not, Bool.not_eq_true', Bool.not_eq_false', Bool.not_eq_eq_eq_not, Bool.not_true, Bool.not_false, ne_eq, Decidable.not_not, Classical.not_not] at hc2
        exfalso; omega
      · try simp only [decide_eq_true_eq, decide_eq_false_iff_not, Bool.not_eq_true', Bool.not_eq_false', Bool.not_eq_eq_eq_not, Bool.not_true, Bool.not_false, ne_eq, Decidable.not_not, Classical.not_not] at hc2
        refine gc_skip ?_
        refine gk_then (hK11 _ _ ?_)
        refine gc_seq fun K13 hK13 => ?_
        refine gc_region ?_
        refine g_v (.free rfl) rfl rfl (qt_field (z := 0) (off := 11) rfl rfl Tryz.underlying27 rfl (by kernel_rfl) rfl) ?_
        refine g_v (.free rfl) rfl rfl (qt_loadB (n := 0) rfl rfl Tryz.underlying22 rfl rfl rfl) ?_
        refine g_v (.free rfl) rfl rfl (qt_move rfl rfl) ?_
        refine g_q (.free rfl) rfl rfl (qt_call rfl Tryz.func37 rfl (by decide) rfl (fun w M => sz1_le w _ _ _ (in_below M.1 h4) (by first | assumption | omega) (by first | assumption | omega) (by first | assumption | omega))) ?_
        refine g_v (.free rfl) rfl rfl (qt_assign rfl rfl) ?_
        refine g_nil ?_
        refine gk_then (hK13 _ _ ?_)
        refine gc_seq fun K14 hK14 => ?_
        refine gc_seq fun K15 hK15 => ?_
        refine gc_region ?_
        refine g_v (.free rfl) rfl rfl (qt_move rfl rfl) ?_
        refine g_v (.free rfl) rfl rfl (qt_lss rfl rfl rfl) ?_
        refine g_nil ?_
        refine gk_then (hK15 _ _ ?_)
        refine gc_cond rfl (fun hc3 => ?_) (fun hc3 => ?_)
        · try simp only [decide_eq_true_eq, decide_eq_false_iff_not, Bool.not_eq_true', Bool.not_eq_false', Bool.not_eq_eq_eq_not, Bool.not_true, Bool.not_false, ne_eq, Decidable.not_not, Classical.not_not] at hc3
          exfalso; omega
        · try simp only [decide_eq_true_eq, decide_eq_false_iff_not, Bool.not_eq_true', Bool.not_eq_false', Bool.not_eq_eq_eq_not, Bool.not_true, Bool.not_false, ne_eq, Decidable.not_not, Classical.not_not] at hc3
          refine gc_skip ?_
          refine gk_then (hK14 _ _ ?_)
          refine gc_seq fun K16 hK16 => ?_
          refine gc_region ?_
          refine g_v (.free rfl) rfl rfl (qt_move rfl rfl) ?_
          refine g_v (.free rfl) rfl rfl (qt_assign rfl rfl) ?_
          refine g_nil ?_
          refine gk_then (hK16 _ _ ?_)
          refine gc_ret ?_
          refine ret_1 rfl rfl  (fun w M => ?_)
          rw [show left - ((szFn F : Nat) : Int) = left - ((szM F.S : Nat) : Int) - ((szM F.T : Nat) : Int) - F.o.length - F.a.length from by omega]; exact ⟨rfl, M.1⟩
set_option maxHeartbeats 1000000 in
set_option maxRecDepth 100000 in
theorem szF_big0 (w : World) (v : Value) (F : Fct) (left : Int) (h : InF w v F) (h0 : 0 ≤ left) (h1 : left ≤ 1048576) (nl : ¬ ((szM F.S : Nat) : Int) ≤ left) :
    Calls Tryz.prog 11 #[v, .int .i64 left] w (RetI w (-1)) := by
  obtain ⟨vx1, vx2, vx3, vx4, vx5, vx6, vx7, vx8, vx9, vx10, vk1, vk2, vk3, vk4, vk5, vk6, vk7, vk8, vk9, vk10, rfl, h1, h2, h3, h4⟩ := h.form
  go_enter Tryz.func11, Tryz.ntmps11
  refine gc_enter (N := 30) rfl (look_cons (k := 0) rfl (look_cons (k := 1) rfl (look_nil _))) ?_
  refine gc_seq fun K1 hK1 => ?_
  refine gc_region ?_
  refine g_op (.free rfl) fun K3 hK3 => ?_
  refine go_box rfl rfl rfl rfl rfl ?_
  intro B2
  refine hK3 _ _ ?_
  refine g_v (.free rfl) rfl rfl (qt_assign rfl rfl) ?_
  refine g_nil ?_
  refine gk_then (hK1 _ _ ?_)
  refine gc_seq fun K4 hK4 => ?_
  refine gc_region ?_
  refine g_v (.free rfl) rfl rfl (qt_field (z := 4) (off := 0) rfl rfl Tryz.underlying27 rfl (by kernel_rfl) rfl) ?_
  refine g_v (.free rfl) rfl rfl (qt_loadP (n := 0) (z := 5) rfl rfl Tryz.underlying25 rfl (by kernel_rfl) rfl (by first | decide | exact Nat.le_refl _ | simp)) ?_
  refine g_v (.free rfl) rfl rfl (qt_move rfl rfl) ?_
  refine g_q (.free rfl) rfl rfl (qt_call rfl Tryz.func20 rfl (by decide) rfl (fun w M => szC_gt w _ _ _ (inC_below M.1 h1) (by first | assumption | omega) (by first | assumption | omega) (by first | assumption | omega))) ?_
  refine g_v (.free rfl) rfl rfl (qt_assign rfl rfl) ?_
  refine g_nil ?_
  refine gk_then (hK4 _ _ ?_)
  refine gc_seq fun K5 hK5 => ?_
  refine gc_seq fun K6 hK6 => ?_
  refine gc_region ?_
  refine g_v (.free rfl) rfl rfl (qt_move rfl rfl) ?_
  refine g_v (.free rfl) rfl rfl (qt_lss_t rfl rfl rfl (by decide)) ?_
  refine g_nil ?_
  refine gk_then (hK6 _ _ ?_)
  refine gc_cond_t rfl ?_
  refine gc_seq fun K7 hK7 => ?_
  refine gc_region ?_
  refine g_v (.free rfl) rfl rfl (qt_assign rfl rfl) ?_
  refine g_nil ?_
  refine gk_then (hK7 _ _ ?_)
  refine gc_ret ?_
  refine gk_then_ret ?_
  refine ret_1 rfl rfl  (fun w M => ?_)
  exact ⟨rfl, M.1⟩
set_option maxHeartbeats 1000000 in
set_option maxRecDepth 100000 in
theorem szF_big1 (w : World) (v : Value) (F : Fct) (left : Int) (h : InF w v F) (h0 : 0 ≤ left) (h1 : left ≤ 1048576) (l0 : ((szM F.S : Nat) : Int) ≤ left) (nl : ¬ ((szM F.T : Nat) : Int) ≤ left - szM F.S) :
    Calls Tryz.prog 11 #[v, .int .i64 left] w (RetI w (-1)) := by
  obtain ⟨vx1, vx2, vx3, vx4, vx5, vx6, vx7, vx8, vx9, vx10, vk1, vk2, vk3, vk4, vk5, vk6, vk7, vk8, vk9, vk10, rfl, h1, h2, h3, h4⟩ := h.form
  go_enter Tryz.func11, Tryz.ntmps11
  refine gc_enter (N := 30) rfl (look_cons (k := 0) rfl (look_cons (k := 1) rfl (look_nil _))) ?_
  refine gc_seq fun K1 hK1 => ?_
  refine gc_region ?_
  refine g_op (.free rfl) fun K3 hK3 => ?_
  refine go_box rfl rfl rfl rfl rfl ?_
  intro B2
  refine hK3 _ _ ?_
  refine g_v (.free rfl) rfl rfl (qt_assign rfl rfl) ?_
  refine g_nil ?_
  refine gk_then (hK1 _ _ ?_)
  refine gc_seq fun K4 hK4 => ?_
  refine gc_region ?_
  refine g_v (.free rfl) rfl rfl (qt_field (z := 4) (off := 0) rfl rfl Tryz.underlying27 rfl (by kernel_rfl) rfl) ?_
  refine g_v (.free rfl) rfl rfl (qt_loadP (n := 0) (z := 5) rfl rfl Tryz.underlying25 rfl (by kernel_rfl) rfl (by first | decide | exact Nat.le_refl _ | simp)) ?_
  refine g_v (.free rfl) rfl rfl (qt_move rfl rfl) ?_
  refine g_q (.free rfl) rfl rfl (qt_call rfl Tryz.func20 rfl (by decide) rfl (fun w M => szC_le w _ _ _ (inC_below M.1 h1) (by first | assumption | omega) (by first | assumption | omega) (by first | assumption | omega))) ?_
  refine g_v (.free rfl) rfl rfl (qt_assign rfl rfl) ?_
  refine g_nil ?_
  refine gk_then (hK4 _ _ ?_)
  refine gc_seq fun K5 hK5 => ?_
  refine gc_seq fun K6 hK6 => ?_
  refine gc_region ?_
  refine g_v (.free rfl) rfl rfl (qt_move rfl rfl) ?_
  refine g_v (.free rfl) rfl rfl (qt_lss rfl rfl rfl) ?_
  refine g_nil ?_
  refine gk_then (hK6 _ _ ?_)
  refine gc_cond rfl (fun hc0 => ?_) (fun hc0 => ?_)
  · try simp only [decide_eq_true_eq, decide_eq_false_iff_not, Bool.not_eq_true', Bool.not_eq_false', Bool.not_eq_eq_eq_not, Bool.not_true, Bool.not_false, ne_eq, Decidable.not_not, Classical.not_not] at hc0
    exfalso; omega
  · try simp only [decide_eq_true_eq, decide_eq_false_iff_not, Bool.not_eq_true', Bool.not_eq_false', Bool.not_eq_eq_eq_not, Bool.not_true, Bool.not_false, ne_eq, Decidable.not_not, Classical.not_not] at hc0
    refine gc_skip ?_
    refine gk_then (hK5 _ _ ?_)
    refine gc_seq fun K7 hK7 => ?_
    refine gc_region ?_
    refine g_v (.free rfl) rfl rfl (qt_field (z := 4) (off := 5) rfl rfl Tryz.underlying27 rfl (by kernel_rfl) rfl) ?_
    refine g_v (.free rfl) rfl rfl (qt_loadP (n := 0) (z := 5) rfl rfl Tryz.underlying25 rfl (by kernel_rfl) rfl (by first | decide | exact Nat.le_refl _ | simp)) ?_
    refine g_v (.free rfl) rfl rfl (qt_move rfl rfl) ?_
    refine g_q (.free rfl) rfl rfl (qt_call rfl Tryz.func20 rfl (by decide) rfl (fun w M => szC_gt w _ _ _ (inC_below M.1 h2) (by first | assumption | omega) (by first | assumption | omega) (by first | assumption | omega))) ?_
    refine g_v (.free rfl) rfl rfl (qt_assign rfl rfl) ?_
    refine g_nil ?_
    refine gk_then (hK7 _ _ ?_)
    refine gc_seq fun K8 hK8 => ?_
    refine gc_seq fun K9 hK9 => ?_
    refine gc_region ?_
    refine g_v (.free rfl) rfl rfl (qt_move rfl rfl) ?_
    refine g_v (.free rfl) rfl rfl (qt_lss_t rfl rfl rfl (by decide)) ?_
    refine g_nil ?_
    refine gk_then (hK9 _ _ ?_)
    refine gc_cond_t rfl ?_
    refine gc_seq fun K10 hK10 => ?_
    refine gc_region ?_
    refine g_v (.free rfl) rfl rfl (qt_assign rfl rfl) ?_
    refine g_nil ?_
    refine gk_then (hK10 _ _ ?_)
    refine gc_ret ?_
    refine gk_then_ret ?_
    refine ret_1 rfl rfl  (fun w M => ?_)
    exact ⟨rfl, M.1⟩
set_option maxHeartbeats 1000000 in
set_option maxRecDepth 100000 in
theorem szF_big2 (w : World) (v : Value) (F : Fct) (left : Int) (h : InF w v F) (h0 : 0 ≤ left) (h1 : left ≤ 1048576) (l0 : ((szM F.S : Nat) : Int) ≤ left) (l1 : ((szM F.T : Nat) : Int) ≤ left - szM F.S) (nl : ¬ (F.o.length : Int) ≤ left - szM F.S - szM F.T) :
    Calls Tryz.prog 11 #[v, .int .i64 left] w (RetI w (-1)) := by
  obtain ⟨vx1, vx2, vx3, vx4, vx5, vx6, vx7, vx8, vx9, vx10, vk1, vk2, vk3, vk4, vk5, vk6, vk7, vk8, vk9, vk10, rfl, h1, h2, h3, h4⟩ := h.form
  go_enter Tryz.func11, Tryz.ntmps11
  refine gc_enter (N := 30) rfl (look_cons (k := 0) rfl (look_cons (k := 1) rfl (look_nil _))) ?_
  refine gc_seq fun K1 hK1 => ?_
  refine gc_region ?_
  refine g_op (.free rfl) fun K3 hK3 => ?_
  refine go_box rfl rfl rfl rfl rfl ?_
  intro B2
  refine hK3 _ _ ?_
  refine g_v (.free rfl) rfl rfl (qt_assign rfl rfl) ?_
  refine g_nil ?_
  refine gk_then (hK1 _ _ ?_)
  refine gc_seq fun K4 hK4 => ?_
  refine gc_region ?_
  refine g_v (.free rfl) rfl rfl (qt_field (z := 4) (off := 0) rfl rfl Tryz.underlying27 rfl (by kernel_rfl) rfl) ?_
  refine g_v (.free rfl) rfl rfl (qt_loadP (n := 0) (z := 5) rfl rfl Tryz.underlying25 rfl (by kernel_rfl) rfl (by first | decide | exact Nat.le_refl _ | simp)) ?_
  refine g_v (.free rfl) rfl rfl (qt_move rfl rfl) ?_
  refine g_q (.free rfl) rfl rfl (qt_call rfl Tryz.func20 rfl (by decide) rfl (fun w M => szC_le w _ _ _ (inC_below M.1 h1) (by first | assumption | omega) (by first | assumption | omega) (by first | assumption | omega))) ?_
  refine g_v (.free rfl) rfl rfl (qt_assign rfl rfl) ?_
  refine g_nil ?_
  refine gk_then (hK4 _ _ ?_)
  refine gc_seq fun K5 hK5 => ?_
  refine gc_seq fun K6 hK6 => ?_
  refine gc_region ?_
  refine g_v (.free rfl) rfl rfl (qt_move rfl rfl) ?_
  refine g_v (.free rfl) rfl rfl (qt_lss rfl rfl rfl) ?_
  refine g_nil ?_
  refine gk_then (hK6 _ _ ?_)
  refine gc_cond rfl (fun hc0 => ?_) (fun hc0 => ?_)
  · try simp only [decide_eq_true_eq, decide_eq_false_iff_not, Bool.not_eq_true', Bool.not_eq_false', Bool.not_eq_eq_eq_not, Bool.not_true, Bool.not_false, ne_eq, Decidable.not_not, Classical.not_not] at hc0
    exfalso; omega
  · try simp only [decide_eq_true_eq, decide_eq_false_iff_not, Bool.not_eq_true', Bool.not_eq_false', Bool.not_eq_eq_eq_not, Bool.not_true, Bool.not_false, ne_eq, Decidable.not_not, Classical.not_not] at hc0
    refine gc_skip ?_
    refine gk_then (hK5 _ _ ?_)
    refine gc_seq fun K7 hK7 => ?_
    refine gc_region ?_
    refine g_v (.free rfl) rfl rfl (qt_field (z := 4) (off := 5) rfl rfl Tryz.underlying27 rfl (by kernel_rfl) rfl) ?_
    refine g_v (.free rfl) rfl rfl (qt_loadP (n := 0) (z := 5) rfl rfl Tryz.underlying25 rfl (by kernel_rfl) rfl (by first | decide | exact Nat.le_refl _ | simp)) ?_
    refine g_v (.free rfl) rfl rfl (qt_move rfl rfl) ?_
    refine g_q (.free rfl) rfl rfl (qt_call rfl Tryz.func20 rfl (by decide) rfl (fun w M => szC_le w _ _ _ (inC_below M.1 h2) (by first | assumption | omega) (by first | assumption | omega) (by first | assumption | omega))) ?_
    refine g_v (.free rfl) rfl rfl (qt_assign rfl rfl) ?_
    refine g_nil ?_
    refine gk_then (hK7 _ _ ?_)
    refine gc_seq fun K8 hK8 => ?_
    refine gc_seq fun K9 hK9 => ?_
    refine gc_region ?_
    refine g_v (.free rfl) rfl rfl (qt_move rfl rfl) ?_
    refine g_v (.free rfl) rfl rfl (qt_lss rfl rfl rfl) ?_
    refine g_nil ?_
    refine gk_then (hK9 _ _ ?_)
    refine gc_cond rfl (fun hc1 => ?_) (fun hc1 => ?_)
    · try simp only [decide_eq_true_eq, decide_eq_false_iff_not, Bool.not_eq_true', Bool.not_eq_false', Bool.not_eq_eq_eq_not, Bool.not_true, Bool.not_false, ne_eq, Decidable.not_not, Classical.not_not] at hc1
      exfalso; omega
    · try simp only [decide_eq_true_eq, decide_eq_false_iff_not, Bool.not_eq_true', Bool.not_eq_false', Bool.not_eq_eq_eq_not, Bool.not_true, Bool.not_false, ne_eq, Decidable.not_not, Classical.not_not] at hc1
      refine gc_skip ?_
      refine gk_then (hK8 _ _ ?_)
      refine gc_seq fun K10 hK10 => ?_
      refine gc_region ?_
      refine g_v (.free rfl) rfl rfl (qt_field (z := 0) (off := 10) rfl rfl Tryz.underlying27 rfl (by kernel_rfl) rfl) ?_
      refine g_v (.free rfl) rfl rfl (qt_loadB (n := 0) rfl rfl Tryz.underlying22 rfl rfl rfl) ?_
      refine g_v (.free rfl) rfl rfl (qt_move rfl rfl) ?_
      refine g_q (.free rfl) rfl rfl (qt_call rfl Tryz.func37 rfl (by decide) rfl (fun w M => sz1_gt w _ _ _ (in_below M.1 h3) (by first | assumption | omega) (by first | assumption | omega) (by first | assumption | omega))) ?_
      refine g_v (.free rfl) rfl rfl (qt_assign rfl rfl) ?_
      refine g_nil ?_
      refine gk_then (hK10 _ _ ?_)
      refine gc_seq fun K11 hK11 => ?_
      refine gc_seq fun K12 hK12 => ?_
      refine gc_region ?_
      refine g_v (.free rfl) rfl rfl (qt_move rfl rfl) ?_
      refine g_v (.free rfl) rfl rfl (qt_lss_t rfl rfl rfl (by decide)) ?_
      refine g_nil ?_
      refine gk_then (hK12 _ _ ?_)
      refine gc_cond_t rfl ?_
      refine gc_seq fun K13 hK13 => ?_
      refine gc_region ?_
      refine g_v (.free rfl) rfl rfl (qt_assign rfl rfl) ?_
      refine g_nil ?_
      refine gk_then (hK13 _ _ ?_)
      refine gc_ret ?_
      refine gk_then_ret ?_
      refine ret_1 rfl rfl  (fun w M => ?_)
      exact ⟨rfl, M.1⟩
set_option maxHeartbeats 1000000 in
set_option maxRecDepth 100000 in
theorem szF_big3 (w : World) (v : Value) (F : Fct) (left : Int) (h : InF w v F) (h0 : 0 ≤ left) (h1 : left ≤ 1048576) (l0 : ((szM F.S : Nat) : Int) ≤ left) (l1 : ((szM F.T : Nat) : Int) ≤ left - szM F.S) (l2 : (F.o.length : Int) ≤ left - szM F.S - szM F.T) (nl : ¬ (F.a.length : Int) ≤ left - szM F.S - szM F.T - F.o.length) :
    Calls Tryz.prog 11 #[v, .int .i64 left] w (RetI w (-1)) := by
  obtain ⟨vx1, vx2, vx3, vx4, vx5, vx6, vx7, vx8, vx9, vx10, vk1, vk2, vk3, vk4, vk5, vk6, vk7, vk8, vk9, vk10, rfl, h1, h2, h3, h4⟩ := h.form
  go_enter Tryz.func11, Tryz.ntmps11
  refine gc_enter (N := 30) rfl (look_cons (k := 0) rfl (look_cons (k := 1) rfl (look_nil _))) ?_
  refine gc_seq fun K1 hK1 => ?_
  refine gc_region ?_
  refine g_op (.free rfl) fun K3 hK3 => ?_
  refine go_box rfl rfl rfl rfl rfl ?_
  intro B2
  refine hK3 _ _ ?_
  refine g_v (.free rfl) rfl rfl (qt_assign rfl rfl) ?_
  refine g_nil ?_
  refine gk_then (hK1 _ _ ?_)
  refine gc_seq fun K4 hK4 => ?_
  refine gc_region ?_
  refine g_v (.free rfl) rfl rfl (qt_field (z := 4) (off := 0) rfl rfl Tryz.underlying27 rfl (by kernel_rfl) rfl) ?_
  refine g_v (.free rfl) rfl rfl (qt_loadP (n := 0) (z := 5) rfl rfl Tryz.underlying25 rfl (by kernel_rfl) rfl (by first | decide | exact Nat.le_refl _ | simp)) ?_
  refine g_v (.free rfl) rfl rfl (qt_move rfl rfl) ?_
  refine g_q (.free rfl) rfl rfl (qt_call rfl Tryz.func20 rfl (by decide) rfl (fun w M => szC_le w _ _ _ (inC_below M.1 h1) (by first | assumption | omega) (by first | assumption | omega) (by first | assumption | omega))) ?_
  refine g_v (.free rfl) rfl rfl (qt_assign rfl rfl) ?_
  refine g_nil ?_
  refine gk_then (hK4 _ _ ?_)
  refine gc_seq fun K5 hK5 => ?_
  refine gc_seq fun K6 hK6 => ?_
  refine gc_region ?_
  refine g_v (.free rfl) rfl rfl (qt_move rfl rfl) ?_
  refine g_v (.free rfl) rfl rfl (qt_lss rfl rfl rfl) ?_
  refine g_nil ?_
  refine gk_then (hK6 _ _ ?_)
  refine gc_cond rfl (fun hc0 => ?_) (fun hc0 => ?_)
  · try simp only [decide_eq_true_eq, decide_eq_false_iff_not, Bool.not_eq_true', Bool.not_eq_false', Bool.not_eq_eq_eq_not, Bool.not_true, Bool.not_false, ne_eq, Decidable.not_not, Classical.not_not] at hc0
    exfalso; omega
  · try simp only [decide_eq_true_eq, decide_eq_false_iff_not, Bool.not_eq_true', Bool.not_eq_false', Bool.not_eq_eq_eq_not, Bool.not_true, Bool.not_false, ne_eq, Decidable.not_not, Classical.not_not] at hc0
    refine gc_skip ?_
    refine gk_then (hK5 _ _ ?_)
    refine gc_seq fun K7 hK7 => ?_
    refine gc_region ?_
    refine g_v (.free rfl) rfl rfl (qt_field (z := 4) (off := 5) rfl rfl Tryz.underlying27 rfl (by kernel_rfl) rfl) ?_
    refine g_v (.free rfl) rfl rfl (qt_loadP (n := 0) (z := 5) rfl rfl Tryz.underlying25 rfl (by kernel_rfl) rfl (by first | decide | exact Nat.le_refl _ | simp)) ?_
    refine g_v (.free rfl) rfl rfl (qt_move rfl rfl) ?_
    refine g_q (.free rfl) rfl rfl (qt_call rfl Tryz.func20 rfl (by decide) rfl (fun w M => szC_le w _ _ _ (inC_below M.1 h2) (by first | assumption | omega) (by first | assumption | omega) (by first | assumption | omega))) ?_
    refine g_v (.free rfl) rfl rfl (qt_assign rfl rfl) ?_
    refine g_nil ?_
    refine gk_then (hK7 _ _ ?_)
    refine gc_seq fun K8 hK8 => ?_
    refine gc_seq fun K9 hK9 => ?_
    refine gc_region ?_
    refine g_v (.free rfl) rfl rfl (qt_move rfl rfl) ?_
    refine g_v (.free rfl) rfl rfl (qt_lss rfl rfl rfl) ?_
    refine g_nil ?_
    refine gk_then (hK9 _ _ ?_)
    refine gc_cond rfl (fun hc1 => ?_) (fun hc1 => ?_)
    · try simp only [decide_eq_true_eq, decide_eq_false_iff_not, Bool.not_eq_true', Bool.not_eq_false', Bool.not_eq_eq_eq_not, Bool.not_true, Bool.not_false, ne_eq, Decidable.not_not, Classical.not_not] at hc1
      exfalso; omega
    · try simp only [decide_eq_true_eq, decide_eq_false_iff_not, Bool.not_eq_true', Bool.not_eq_false', Bool.not_eq_eq_eq_not, Bool.not_true, Bool.not_false, ne_eq, Decidable.not_not, Classical.not_not] at hc1
      refine gc_skip ?_
      refine gk_then (hK8 _ _ ?_)
      refine gc_seq fun K10 hK10 => ?_
      refine gc_region ?_
      refine g_v (.free rfl) rfl rfl (qt_field (z := 0) (off := 10) rfl rfl Tryz.underlying27 rfl (by kernel_rfl) rfl) ?_
      refine g_v (.free rfl) rfl rfl (qt_loadB (n := 0) rfl rfl Tryz.underlying22 rfl rfl rfl) ?_
      refine g_v (.free rfl) rfl rfl (qt_move rfl rfl) ?_
      refine g_q (.free rfl) rfl rfl (qt_call rfl Tryz.func37 rfl (by decide) rfl (fun w M => sz1_le w _ _ _ (in_below M.1 h3) (by first | assumption | omega) (by first | assumption | omega) (by first | assumption | omega))) ?_
      refine g_v (.free rfl) rfl rfl (qt_assign rfl rfl) ?_
      refine g_nil ?_
      refine gk_then (hK10 _ _ ?_)
      refine gc_seq fun K11 hK11 => ?_
      refine gc_seq fun K12 hK12 => ?_
      refine gc_region ?_
      refine g_v (.free rfl) rfl rfl (qt_move rfl rfl) ?_
      refine g_v (.free rfl) rfl rfl (qt_lss rfl rfl rfl) ?_
      refine g_nil ?_
      refine gk_then (hK12 _ _ ?_)
      refine gc_cond rfl (fun hc2 => ?_) (fun hc2 => ?_)
      · try simp only [decide_eq_true_eq, decide_eq_false_iff_not, Bool.not_eq_true', Bool.not_eq_false', Bool.not_eq_eq_eq_not, Bool.not_true, Bool.not_false, ne_eq, Decidable.not_not, Classical.not_not] at hc2
        exfalso; omega
      · try simp only [decide_eq_true_eq, decide_eq_false_iff_not, Bool.not_eq_true', Bool.not_eq_false', Bool.not_eq_eq_eq_not, Bool.not_true, Bool.not_false, ne_eq, Decidable.not_not, Classical.not_not] at hc2
        refine gc_skip ?_
        refine gk_then (hK11 _ _ ?_)
        refine gc_seq fun K13 hK13 => ?_
        refine gc_region ?_
        refine g_v (.free rfl) rfl rfl (qt_field (z := 0) (off := 11) rfl rfl Tryz.underlying27 rfl (by kernel_rfl) rfl) ?_
        refine g_v (.free rfl) rfl rfl (qt_loadB (n := 0) rfl rfl Tryz.underlying22 rfl rfl rfl) ?_
        refine g_v (.free rfl) rfl rfl (qt_move rfl rfl) ?_
        refine g_q (.free rfl) rfl rfl (qt_call rfl Tryz.func37 rfl (by decide) rfl (fun w M => sz1_gt w _ _ _ (in_below M.1 h4) (by first | assumption | omega) (by first | assumption | omega) (by first | assumption | omega))) ?_
        refine g_v (.free rfl) rfl rfl (qt_assign rfl rfl) ?_
        refine g_nil ?_
        refine gk_then (hK13 _ _ ?_)
        refine gc_seq fun K14 hK14 => ?_
        refine gc_seq fun K15 hK15 => ?_
        refine gc_region ?_
        refine g_v (.free rfl) rfl rfl (qt_move rfl rfl) ?_
        refine g_v (.free rfl) rfl rfl (qt_lss_t rfl rfl rfl (by decide)) ?_
        refine g_nil ?_
        refine gk_then (hK15 _ _ ?_)
        refine gc_cond_t rfl ?_
        refine gc_seq fun K16 hK16 => ?_
        refine gc_region ?_
        refine g_v (.free rfl) rfl rfl (qt_assign rfl rfl) ?_
        refine g_nil ?_
        refine gk_then (hK16 _ _ ?_)
        refine gc_ret ?_
        refine gk_then_ret ?_
        refine ret_1 rfl rfl  (fun w M => ?_)
        exact ⟨rfl, M.1⟩
theorem szF_gt (w : World) (v : Value) (F : Fct) (left : Int) (h : InF w v F) (h0 : 0 ≤ left) (h1 : left ≤ 1048576) (hl : ¬ ((szFn F : Nat) : Int) ≤ left) : Calls Tryz.prog 11 #[v, .int .i64 left] w (RetI w (-1)) := by
  have hsz : szFn F = szM F.S + szM F.T + F.o.length + F.a.length := rfl
  by_cases l0 : ((szM F.S : Nat) : Int) ≤ left
  · by_cases l1 : ((szM F.T : Nat) : Int) ≤ left - szM F.S
    · by_cases l2 : (F.o.length : Int) ≤ left - szM F.S - szM F.T
      · exact szF_big3 w v F left h h0 h1 l0 l1 l2 (by omega)
      · exact szF_big2 w v F left h h0 h1 l0 l1 l2
    · exact szF_big1 w v F left h h0 h1 l0 l1
  · exact szF_big0 w v F left h h0 h1 l0
set_option maxHeartbeats 1000000 in
set_option maxRecDepth 100000 in
theorem toF_any (w : World) (v : Value) (F : Fct) (h : RdF w v F) :
    Calls Tryz.prog 13 #[v] w (RetFn w F) := by
  have h0 := h
  obtain ⟨vx1, vx2, vx3, vx4, vx5, vx6, vx7, vx8, vx9, vx10, vk1, vk2, vk3, vk4, vk5, vk6, vk7, vk8, vk9, vk10, rfl, h1, h2, h3, h4, h5, h6, h7, h8, h9, h10⟩ := h.lists
  go_enter Tryz.func13, Tryz.ntmps13
  refine gc_enter (N := 21) rfl (look_cons (k := 0) rfl (look_nil _)) ?_
  refine gc_seq fun K1 hK1 => ?_
  refine gc_region ?_
  refine g_op (.free rfl) fun K3 hK3 => ?_
  refine go_box rfl rfl rfl rfl rfl ?_
  intro B2
  refine hK3 _ _ ?_
  refine g_op (.free rfl) fun K5 hK5 => ?_
  refine go_alloc (z := (.agg #[.int .i64 0, .slice none 0 0, .slice none 0 0, .slice none 0 0, .slice none 0 0, .int .i64 0, .slice none 0 0, .slice none 0 0, .slice none 0 0, .slice none 0 0, .slice none 0 0, .slice none 0 0])) (cs := [.int .i64 0, .slice none 0 0, .slice none 0 0, .slice none 0 0, .slice none 0 0, .int .i64 0, .slice none 0 0, .slice none 0 0, .slice none 0 0, .slice none 0 0, .slice none 0 0, .slice none 0 0]) rfl rfl rfl (fun w => by kernel_rfl) rfl ?_
  intro B4
  refine hK5 _ _ ?_
  refine g_nil ?_
  refine gk_then (hK1 _ _ ?_)
  refine gc_seq fun K6 hK6 => ?_
  refine gc_region ?_
  refine g_op (.free rfl) fun K8 hK8 => ?_
  refine go_alloc (z := (.agg #[.int .i64 0, .slice none 0 0, .slice none 0 0, .slice none 0 0, .slice none 0 0, .int .i64 0, .slice none 0 0, .slice none 0 0, .slice none 0 0, .slice none 0 0, .slice none 0 0, .slice none 0 0])) (cs := [.int .i64 0, .slice none 0 0, .slice none 0 0, .slice none 0 0, .slice none 0 0, .int .i64 0, .slice none 0 0, .slice none 0 0, .slice none 0 0, .slice none 0 0, .slice none 0 0, .slice none 0 0]) rfl rfl rfl (fun w => by kernel_rfl) rfl ?_
  intro B7
  refine hK8 _ _ ?_
  refine g_nil ?_
  refine gk_then (hK6 _ _ ?_)
  refine gc_seq fun K9 hK9 => ?_
  refine gc_region ?_
  refine g_v (.free rfl) rfl rfl (qt_field (z := 4) (off := 0) rfl rfl Tryz.underlying27 rfl (by kernel_rfl) rfl) ?_
  refine g_v (.free rfl) rfl rfl (qt_loadP (n := 0) (z := 5) rfl rfl Tryz.underlying25 rfl (by kernel_rfl) rfl (by first | decide | exact Nat.le_refl _ | simp)) ?_
  refine g_op (.free rfl) fun K11 hK11 => ?_
  refine go_callC rfl rfl rfl Tryz.func22 rfl (by decide) rfl (fun w M => toC_any w _ _ (rdC_mk (mem_rd M h1) (mem_rd M h2) (mem_rd M h3) (mem_rd2 M h4))) ?_
  intro ca10 cb10 cc10 cd10 ce10 cf10 cg10 ch10 cu10
  refine hK11 _ _ ?_
  refine g_v (.free rfl) rfl rfl (qt_field (z := 4) (off := 0) rfl rfl Tryz.underlying31 rfl (by kernel_rfl) rfl) ?_
  refine g_op (.free rfl) fun K13 hK13 => ?_
  refine go_storeP (n := 2) (j := 0) 5 rfl rfl rfl rfl (by kernel_rfl) rfl rfl rfl (by first | decide | simp) ?_
  intro cs12 hcs12; simp only [List.take_succ_cons, List.take_zero, List.drop_succ_cons, List.drop_zero, List.cons_append, List.nil_append] at hcs12; subst hcs12
  refine hK13 _ _ ?_
  refine g_nil ?_
  refine gk_then (hK9 _ _ ?_)
  refine gc_seq fun K14 hK14 => ?_
  refine gc_region ?_
  refine g_v (.free rfl) rfl rfl (qt_field (z := 4) (off := 5) rfl rfl Tryz.underlying27 rfl (by kernel_rfl) rfl) ?_
  refine g_v (.free rfl) rfl rfl (qt_loadP (n := 0) (z := 5) rfl rfl Tryz.underlying25 rfl (by kernel_rfl) rfl (by first | decide | exact Nat.le_refl _ | simp)) ?_
  refine g_op (.free rfl) fun K16 hK16 => ?_
  refine go_callC rfl rfl rfl Tryz.func22 rfl (by decide) rfl (fun w M => toC_any w _ _ (rdC_mk (mem_rd M h5) (mem_rd M h6) (mem_rd M h7) (mem_rd2 M h8))) ?_
  intro ca15 cb15 cc15 cd15 ce15 cf15 cg15 ch15 cu15
  refine hK16 _ _ ?_
  refine g_v (.free rfl) rfl rfl (qt_field (z := 4) (off := 5) rfl rfl Tryz.underlying31 rfl (by kernel_rfl) rfl) ?_
  refine g_op (.free rfl) fun K18 hK18 => ?_
  refine go_storeP (n := 2) (j := 5) 10 rfl rfl rfl rfl (by kernel_rfl) rfl rfl rfl (by first | decide | simp) ?_
  intro cs17 hcs17; simp only [List.take_succ_cons, List.take_zero, List.drop_succ_cons, List.drop_zero, List.cons_append, List.nil_append] at hcs17; subst hcs17
  refine hK18 _ _ ?_
  refine g_nil ?_
  refine gk_then (hK14 _ _ ?_)
  refine gc_seq fun K19 hK19 => ?_
  refine gc_region ?_
  refine g_v (.free rfl) rfl rfl (qt_field (z := 0) (off := 10) rfl rfl Tryz.underlying27 rfl (by kernel_rfl) rfl) ?_
  refine g_v (.free rfl) rfl rfl (qt_loadB (n := 0) rfl rfl Tryz.underlying22 rfl rfl rfl) ?_
  refine g_op (.free rfl) fun K21 hK21 => ?_
  refine go_callL rfl rfl rfl Tryz.func41 rfl (by decide) rfl (fun w M => to_any w _ _ (mem_rd M h9)) ?_
  intro va20 vc20
  refine hK21 _ _ ?_
  refine g_v (.free rfl) rfl rfl (qt_field (z := 0) (off := 10) rfl rfl Tryz.underlying31 rfl (by kernel_rfl) rfl) ?_
  refine g_op (.free rfl) fun K22 hK22 => ?_
  refine go_storeB (n := 2) rfl rfl rfl rfl (by kernel_rfl) rfl rfl rfl (by first | decide | simp) ?_
  refine hK22 _ _ ?_
  refine g_nil ?_
  refine gk_then (hK19 _ _ ?_)
  refine gc_seq fun K23 hK23 => ?_
  refine gc_region ?_
  refine g_v (.free rfl) rfl rfl (qt_field (z := 0) (off := 11) rfl rfl Tryz.underlying27 rfl (by kernel_rfl) rfl) ?_
  refine g_v (.free rfl) rfl rfl (qt_loadB (n := 0) rfl rfl Tryz.underlying22 rfl rfl rfl) ?_
  refine g_op (.free rfl) fun K25 hK25 => ?_
  refine go_callL rfl rfl rfl Tryz.func41 rfl (by decide) rfl (fun w M => to_any w _ _ (mem_rd M h10)) ?_
  intro va24 vc24
  refine hK25 _ _ ?_
  refine g_v (.free rfl) rfl rfl (qt_field (z := 0) (off := 11) rfl rfl Tryz.underlying31 rfl (by kernel_rfl) rfl) ?_
  refine g_op (.free rfl) fun K26 hK26 => ?_
  refine go_storeB (n := 2) rfl rfl rfl rfl (by kernel_rfl) rfl rfl rfl (by first | decide | simp) ?_
  refine hK26 _ _ ?_
  refine g_nil ?_
  refine gk_then (hK23 _ _ ?_)
  refine gc_seq fun K27 hK27 => ?_
  refine gc_region ?_
  refine g_v (.free rfl) rfl rfl (qt_loadS (n := 2) rfl rfl Tryz.underlying31 rfl (by kernel_rfl) rfl) ?_
  refine g_op (.free rfl) fun K28 hK28 => ?_
  refine go_storeS (n := 1) rfl rfl rfl rfl (by kernel_rfl) rfl rfl rfl ?_
  refine hK28 _ _ ?_
  refine g_nil ?_
  refine gk_then (hK27 _ _ ?_)
  refine gc_ret ?_
  refine ret_S (n := 1) rfl rfl Tryz.underlying31 rfl (by kernel_rfl) rfl (fun w M => ?_)
  exact ⟨_, rfl, ⟨_, _, _, _, _, _, _, _, _, _, _, _, rfl, (mem_erase 0 (mem_erase 0 (mem_erase 0 M))).2⟩, M.1⟩
set_option maxHeartbeats 1000000 in
set_option maxRecDepth 100000 in
theorem eqF_refl_any (w : World) (v : Value) (u : Value) (F : Fct) (h : RdF w v F) (g : RdF w u F) :
    Calls Tryz.prog 15 #[v, u] w (RetB w true) := by
  have h0 := h
  obtain ⟨vx1, vx2, vx3, vx4, vx5, vx6, vx7, vx8, vx9, vx10, vk1, vk2, vk3, vk4, vk5, vk6, vk7, vk8, vk9, vk10, rfl, h1, h2, h3, h4, h5, h6, h7, h8, h9, h10⟩ := h.lists
  have g0 := g
  obtain ⟨ux1, ux2, ux3, ux4, ux5, ux6, ux7, ux8, ux9, ux10, uk1, uk2, uk3, uk4, uk5, uk6, uk7, uk8, uk9, uk10, rfl, g1, g2, g3, g4, g5, g6, g7, g8, g9, g10⟩ := g.lists
  go_enter Tryz.func15, Tryz.ntmps15
  refine gc_enter (N := 29) rfl (look_cons (k := 0) rfl (look_cons (k := 1) rfl (look_nil _))) ?_
  refine gc_seq fun K1 hK1 => ?_
  refine gc_region ?_
  refine g_op (.free rfl) fun K3 hK3 => ?_
  refine go_box rfl rfl rfl rfl rfl ?_
  intro B2
  refine hK3 _ _ ?_
  refine g_op (.free rfl) fun K5 hK5 => ?_
  refine go_box rfl rfl rfl rfl rfl ?_
  intro B4
  refine hK5 _ _ ?_
  refine g_v (.free rfl) rfl rfl (qt_assign rfl rfl) ?_
  refine g_nil ?_
  refine gk_then (hK1 _ _ ?_)
  refine gc_seq fun K6 hK6 => ?_
  refine gc_seq fun K7 hK7 => ?_
  refine gc_region ?_
  refine g_v (.free rfl) rfl rfl (qt_field (z := 4) (off := 0) rfl rfl Tryz.underlying31 rfl (by kernel_rfl) rfl) ?_
  refine g_v (.free rfl) rfl rfl (qt_loadP (n := 0) (z := 5) rfl rfl Tryz.underlying29 rfl (by kernel_rfl) rfl (by first | decide | exact Nat.le_refl _ | simp)) ?_
  refine g_v (.free rfl) rfl rfl (qt_field (z := 4) (off := 0) rfl rfl Tryz.underlying31 rfl (by kernel_rfl) rfl) ?_
  refine g_v (.free rfl) rfl rfl (qt_loadP (n := 1) (z := 5) rfl rfl Tryz.underlying29 rfl (by kernel_rfl) rfl (by first | decide | exact Nat.le_refl _ | simp)) ?_
  refine g_q (.free rfl) rfl rfl (qt_call rfl Tryz.func24 rfl (by decide) rfl (fun w M => eqC_refl_any w _ _ _ (rdC_mk (mem_rd M h1) (mem_rd M h2) (mem_rd M h3) (mem_rd2 M h4)) (rdC_mk (mem_rd M g1) (mem_rd M g2) (mem_rd M g3) (mem_rd2 M g4)))) ?_
  refine g_v (.free rfl) rfl rfl (qt_not rfl rfl) ?_
  refine g_nil ?_
  refine gk_then (hK7 _ _ ?_)
  refine gc_cond_f rfl ?_
  refine gc_skip ?_
  refine gk_then (hK6 _ _ ?_)
  refine gc_seq fun K8 hK8 => ?_
  refine gc_seq fun K9 hK9 => ?_
  refine gc_region ?_
  refine g_v (.free rfl) rfl rfl (qt_field (z := 4) (off := 5) rfl rfl Tryz.underlying31 rfl (by kernel_rfl) rfl) ?_
  refine g_v (.free rfl) rfl rfl (qt_loadP (n := 0) (z := 5) rfl rfl Tryz.underlying29 rfl (by kernel_rfl) rfl (by first | decide | exact Nat.le_refl _ | simp)) ?_
  refine g_v (.free rfl) rfl rfl (qt_field (z := 4) (off := 5) rfl rfl Tryz.underlying31 rfl (by kernel_rfl) rfl) ?_
  refine g_v (.free rfl) rfl rfl (qt_loadP (n := 1) (z := 5) rfl rfl Tryz.underlying29 rfl (by kernel_rfl) rfl (by first | decide | exact Nat.le_refl _ | simp)) ?_
  refine g_q (.free rfl) rfl rfl (qt_call rfl Tryz.func24 rfl (by decide) rfl (fun w M => eqC_refl_any w _ _ _ (rdC_mk (mem_rd M h5) (mem_rd M h6) (mem_rd M h7) (mem_rd2 M h8)) (rdC_mk (mem_rd M g5) (mem_rd M g6) (mem_rd M g7) (mem_rd2 M g8)))) ?_
  refine g_v (.free rfl) rfl rfl (qt_not rfl rfl) ?_
  refine g_nil ?_
  refine gk_then (hK9 _ _ ?_)
  refine gc_cond_f rfl ?_
  refine gc_skip ?_
  refine gk_then (hK8 _ _ ?_)
  refine gc_seq fun K10 hK10 => ?_
  refine gc_seq fun K11 hK11 => ?_
  refine gc_region ?_
  refine g_v (.free rfl) rfl rfl (qt_field (z := 0) (off := 10) rfl rfl Tryz.underlying31 rfl (by kernel_rfl) rfl) ?_
  refine g_v (.free rfl) rfl rfl (qt_loadB (n := 0) rfl rfl Tryz.underlying22 rfl rfl rfl) ?_
  refine g_v (.free rfl) rfl rfl (qt_field (z := 0) (off := 10) rfl rfl Tryz.underlying31 rfl (by kernel_rfl) rfl) ?_
  refine g_v (.free rfl) rfl rfl (qt_loadB (n := 1) rfl rfl Tryz.underlying22 rfl rfl rfl) ?_
  refine g_q (.free rfl) rfl rfl (qt_call rfl Tryz.func47 rfl (by decide) rfl (fun w M => eq_refl_any w _ _ _ (mem_rd M h9) (mem_rd M g9))) ?_
  refine g_v (.free rfl) rfl rfl (qt_not rfl rfl) ?_
  refine g_nil ?_
  refine gk_then (hK11 _ _ ?_)
  refine gc_cond_f rfl ?_
  refine gc_skip ?_
  refine gk_then (hK10 _ _ ?_)
  refine gc_seq fun K12 hK12 => ?_
  refine gc_seq fun K13 hK13 => ?_
  refine gc_region ?_
  refine g_v (.free rfl) rfl rfl (qt_field (z := 0) (off := 11) rfl rfl Tryz.underlying31 rfl (by kernel_rfl) rfl) ?_
  refine g_v (.free rfl) rfl rfl (qt_loadB (n := 0) rfl rfl Tryz.underlying22 rfl rfl rfl) ?_
  refine g_v (.free rfl) rfl rfl (qt_field (z := 0) (off := 11) rfl rfl Tryz.underlying31 rfl (by kernel_rfl) rfl) ?_
  refine g_v (.free rfl) rfl rfl (qt_loadB (n := 1) rfl rfl Tryz.underlying22 rfl rfl rfl) ?_
  refine g_q (.free rfl) rfl rfl (qt_call rfl Tryz.func47 rfl (by decide) rfl (fun w M => eq_refl_any w _ _ _ (mem_rd M h10) (mem_rd M g10))) ?_
  refine g_v (.free rfl) rfl rfl (qt_not rfl rfl) ?_
  refine g_nil ?_
  refine gk_then (hK13 _ _ ?_)
  refine gc_cond_f rfl ?_
  refine gc_skip ?_
  refine gk_then (hK12 _ _ ?_)
  refine gc_seq fun K14 hK14 => ?_
  refine gc_region ?_
  refine g_v (.free rfl) rfl rfl (qt_assign rfl rfl) ?_
  refine g_nil ?_
  refine gk_then (hK14 _ _ ?_)
  refine gc_ret ?_
  refine ret_1 rfl rfl  (fun w M => ?_)
  exact ⟨rfl, M.1⟩
set_option maxRecDepth 100000 in
theorem open_inCells {H : Type} {enc : TypeId × Value → H} {w : World} {c0 c1 c2 c3 c4 : Value} {fuel : Nat} {x : DataW H × List MemPlace}
    (hf : DataW.trod enc Tryz.prog w 0 (fun _ => true) true fuel 25 [c0, c1, c2, c3, c4] = some x) : ∃ c, InC w (.agg #[c0, c1, c2, c3, c4]) c := by
  obtain ⟨xs, n, _, hx, _, hlen, hg⟩ := DataW.trod_struct Tryz.underlying25 hf
  have k22 : Tryz.prog.cellsOf 22 = 1 := by kernel_rfl
  have k23 : Tryz.prog.cellsOf 23 = 1 := by kernel_rfl
  have k2 : Tryz.prog.cellsOf 2 = 1 := by kernel_rfl
  match xs, hlen with
  | [y0, y1, y2, y3, y4], _ =>
    have t0 := hg 0 _ rfl
    have t1 := hg 1 _ rfl
    have t2 := hg 2 _ rfl
    have t3 := hg 3 _ rfl
    have t4 := hg 4 _ rfl
    simp [k22, k23, k2] at t0 t1 t2 t3 t4
    obtain ⟨xs, h1⟩ := in_of_trod t1
    obtain ⟨ys, h2⟩ := in_of_trod t2
    obtain ⟨zs, h3⟩ := in_of_trod t3
    obtain ⟨rows, h4⟩ := in2_of_trod t4
    obtain ⟨x, hx, _⟩ := DataW.trod_int Tryz.underlying2 t0
    simp at hx
    subst hx
    exact ⟨⟨x, xs, ys, zs, rows⟩, _, _, _, _, rfl, h1, h2, h3, h4⟩
set_option maxRecDepth 100000 in
theorem open_inF {H : Type} {enc : TypeId × Value → H} {w : World} {v : Value} {d : DataW H} {ps : List MemPlace} {base : Nat}
    (hv : Value.okWide Tryz.prog w .any base 27 v) (h : DataW.Trod enc Tryz.prog w 0 (fun _ => true) true 27 v d ps) : ∃ F, InF w v F := by
  obtain ⟨cs, rfl, hsz⟩ := Go.WideShapes.okWide_struct Tryz.underlying27 hv
  obtain ⟨l⟩ := cs
  have hC : Tryz.prog.cellsOf 27 = 12 := by kernel_rfl
  have k25 : Tryz.prog.cellsOf 25 = 5 := by kernel_rfl
  have k22 : Tryz.prog.cellsOf 22 = 1 := by kernel_rfl
  match l, hsz.trans hC with
  | [c0, c1, c2, c3, c4, d0, d1, d2, d3, d4, vo, va], _ =>
    obtain ⟨fuel, hf⟩ := h
    obtain ⟨xs, n, _, hx, _, hlen, hg⟩ := DataW.trod_struct Tryz.underlying27 hf
    match xs, hlen with
    | [y0, y1, y2, y3], _ =>
      have t0 := hg 0 _ rfl
      have t1 := hg 1 _ rfl
      have t2 := hg 2 _ rfl
      have t3 := hg 3 _ rfl
      simp [Value.cells, k25, k22] at t0 t1 t2 t3
      obtain ⟨S, h1⟩ := open_inCells t0
      obtain ⟨T, h2⟩ := open_inCells t1
      obtain ⟨xo, h3⟩ := in_of_trod t2
      obtain ⟨xa, h4⟩ := in_of_trod t3
      have e1 := h1; have e2 := h2
      obtain ⟨p1, p2, p3, p4, hp, _⟩ := e1
      obtain ⟨q1, q2, q3, q4, hq, _⟩ := e2
      obtain ⟨rfl, rfl, rfl, rfl, rfl⟩ := agg5 hp
      obtain ⟨rfl, rfl, rfl, rfl, rfl⟩ := agg5 hq
      exact ⟨⟨S, T, xo, xa⟩, _, _, _, _, _, _, _, _, _, _, rfl, h1, h2, h3, h4⟩
end Go.Proofs.YtpcabkdkdnchaaaGreat
