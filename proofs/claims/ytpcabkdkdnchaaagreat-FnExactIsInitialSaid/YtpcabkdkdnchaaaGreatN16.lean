import Derived.Test.YtpcabkdkdnchaaaGreatN14
import Derived.Test.YtpcabkdkdnchaaaGreatN15
import Derived.Test.YtpcabkdkdnchaaaGreatN9
import Derived.Test.YtpcabkdkdnchaaaGreatN6
import Derived.Test.YtpcabkdkdnchaaaGreatN11
set_option linter.unusedSimpArgs false
set_option linter.unusedVariables false
set_option linter.unusedSectionVars false
namespace Go.Proofs.YtpcabkdkdnchaaaGreat
open Go.RowKit
inductive RetCRR (W : World) (c : Cat) (r1 r2 : List (List Int)) (e : Ending) (w' : World) : Prop where
  | mk (z1 z2 z3 z4 q1 q2 : Option Addr) (m1 m2 m3 m4 n1 n2 : Nat) (p p1 p2 : List Value) (he : e = .returned (.tuple #[.agg #[.int .i64 c.ob, .slice z1 c.s.length m1, .slice z2 c.t.length m2, .slice z3 c.e.length m3, .slice z4 c.m.length m4], .slice q1 r1.length n1, .slice q2 r2.length n2])) (hs : Star [own1I (.slice z1 c.s.length m1) c.s, own1I (.slice z2 c.t.length m2) c.t, own1I (.slice z3 c.e.length m3) c.e, own2U (.slice z4 c.m.length m4) p c.m, own2U (.slice q1 r1.length n1) p1 r1, own2U (.slice q2 r2.length n2) p2 r2] w' (fun k => W.heap.size ≤ k)) (hb : Below W.heap.size W w') : RetCRR W c r1 r2  e w'
section
variable {w0 : World} {is : List Itm} {ops : Array Oper} {Q : Exit → Act → World → Prop} {o : Oper} {rest : List Oper} {N : Frm} {e : Env} {v : Value} {d : Nat} {K : Act → World → Prop} {f : FuncId} {fn : Func} {ags : Array Operand} {ts : Array TypeId} {vs : List Value}
end
inductive RetCRRI (W : World) (c : Cat) (r1 r2 : List (List Int)) (n : Int) (e : Ending) (w' : World) : Prop where
  | mk (z1 z2 z3 z4 q1 q2 : Option Addr) (m1 m2 m3 m4 n1 n2 : Nat) (p p1 p2 : List Value) (he : e = .returned (.tuple #[.agg #[.int .i64 c.ob, .slice z1 c.s.length m1, .slice z2 c.t.length m2, .slice z3 c.e.length m3, .slice z4 c.m.length m4], .slice q1 r1.length n1, .slice q2 r2.length n2, .int .i64 n])) (hs : Star [own1I (.slice z1 c.s.length m1) c.s, own1I (.slice z2 c.t.length m2) c.t, own1I (.slice z3 c.e.length m3) c.e, own2U (.slice z4 c.m.length m4) p c.m, own2U (.slice q1 r1.length n1) p1 r1, own2U (.slice q2 r2.length n2) p2 r2] w' (fun k => W.heap.size ≤ k)) (hb : Below W.heap.size W w') : RetCRRI W c r1 r2 n e w'
section
variable {w0 : World} {is : List Itm} {ops : Array Oper} {Q : Exit → Act → World → Prop} {o : Oper} {rest : List Oper} {N : Frm} {e : Env} {v : Value} {d : Nat} {K : Act → World → Prop} {f : FuncId} {fn : Func} {ags : Array Operand} {ts : Array TypeId} {vs : List Value}
end
end Go.Proofs.YtpcabkdkdnchaaaGreat
set_option linter.unusedSimpArgs false
set_option linter.unusedVariables false
set_option linter.unusedSectionVars false
namespace Go.Proofs.YtpcabkdkdnchaaaGreat
open Go.RowKit
end Go.Proofs.YtpcabkdkdnchaaaGreat
set_option linter.unusedSimpArgs false
set_option linter.unusedVariables false
set_option linter.unusedSectionVars false
namespace Go.Proofs.YtpcabkdkdnchaaaGreat
open Go.RowKit
end Go.Proofs.YtpcabkdkdnchaaaGreat
set_option linter.unusedSimpArgs false
set_option linter.unusedVariables false
set_option linter.unusedSectionVars false
namespace Go.Proofs.YtpcabkdkdnchaaaGreat
open Go.RowKit
section
variable {w0 : World} {is : List Itm} {ops : Array Oper} {Q : Exit → Act → World → Prop} {o : Oper} {N : Frm} {e : Env} {v u : Value} {d : Nat} {K : Act → World → Prop} {f : FuncId} {fn : Func} {ags : Array Operand} {ts : Array TypeId} {vs : List Value}
end
def IsFn (v : Value) : Prop := ∃ (f : Fn) (a b : Array Value), v = .func f a b
theorem IsFn.cells {v : Value} (h : IsFn v) : v.cells = #[v] := by obtain ⟨f, a, b, rfl⟩ := h; rfl
theorem IsFn.one {v : Value} (h : IsFn v) : v.oneCell' = true := by obtain ⟨f, a, b, rfl⟩ := h; rfl
section
variable {w0 : World} {is : List Itm} {ops : Array Oper} {Q : Exit → Act → World → Prop} {o : Oper} {N : Frm} {e : Env} {v u : Value} {d : Nat} {K : Act → World → Prop} {f : FuncId} {fn : Func} {ags : Array Operand} {ts : Array TypeId} {vs : List Value}
end
section
variable {w0 : World} {is : List Itm} {Q : Exit → Act → World → Prop} {o : Oper} {N : Frm} {e : Env} {v u : Value} {d : Nat} {K : Act → World → Prop}
end
section
variable {w0 : World} {is : List Itm} {o : Oper} {e : Env}
end
end Go.Proofs.YtpcabkdkdnchaaaGreat
set_option linter.unusedSimpArgs false
set_option linter.unusedVariables false
set_option linter.unusedSectionVars false
namespace Go.Proofs.YtpcabkdkdnchaaaGreat
open Go.RowKit
section
variable {w0 : World} {is : List Itm} {ops : Array Oper} {Q : Exit → Act → World → Prop} {o : Oper} {rest : List Oper} {N : Frm} {e : Env} {v u : Value} {d : Nat} {K : Act → World → Prop} {f : FuncId} {fn : Func} {ags : Array Operand} {ts : Array TypeId} {vs : List Value}
end
end Go.Proofs.YtpcabkdkdnchaaaGreat
set_option linter.unusedSimpArgs false
set_option linter.unusedVariables false
set_option linter.unusedSectionVars false
namespace Go.Proofs.YtpcabkdkdnchaaaGreat
open Go.RowKit
set_option maxHeartbeats 4000000 in
set_option maxRecDepth 100000 in
theorem allOb_run (w0 w : World) (C Cx : List (Ent Int) → Itm) (l B : Nat) {x1 x2 x3 x4 x5 x6 x7 x8 x9 x10 y1 y2 y3 y4 y5 y6 y7 y8 y9 y10 : Option Addr} {k1 k2 k3 k4 k5 k6 k7 k8 k9 k10 l1 l2 l3 l4 l5 l6 l7 l8 l9 l10 : Nat} (F G : Fct) (H : Itm) (hH : HoldC w0 H F G x1 x2 x3 x4 x5 x6 x7 x8 x9 x10 y1 y2 y3 y4 y5 y6 y7 y8 y9 y10 k1 k2 k3 k4 k5 k6 k7 k8 k9 k10 l1 l2 l3 l4 l5 l6 l7 l8 l9 l10) (hP : CspP F G) (Y : YieldC w0 C Cx l (fun e : Ent Int => Value.agg #[.int .i64 e.1, .int .i64 e.2.1, .int .i64 e.2.2]) (fun _ : Ent Int => ([] : List Itm)) (fun x : Ent Int => x) (obL F G)) (M : Mem w0 w [C [], bxI B 58 [.int .i64 F.S.ob, .slice x1 F.S.s.length k1, .slice x2 F.S.t.length k2, .slice x3 F.S.e.length k3, .slice x4 F.S.m.length k4, .int .i64 F.T.ob, .slice x5 F.T.s.length k5, .slice x6 F.T.t.length k6, .slice x7 F.T.e.length k7, .slice x8 F.T.m.length k8, .slice x9 F.o.length k9, .slice x10 F.a.length k10, .int .i64 G.S.ob, .slice y1 G.S.s.length l1, .slice y2 G.S.t.length l2, .slice y3 G.S.e.length l3, .slice y4 G.S.m.length l4, .int .i64 G.T.ob, .slice y5 G.T.s.length l5, .slice y6 G.T.t.length l6, .slice y7 G.T.e.length l7, .slice y8 G.T.m.length l8, .slice y9 G.o.length l9, .slice y10 G.a.length l10], H]) :
    Calls Tryz.prog 115 #[.func (.yield l) #[] #[], .pointer (some ⟨B, 0, none⟩)] w (fun e W' => (∃ v, e = .returned v) ∧ ((∃ xs, xs.map (fun x : Ent Int => x) = (obL F G) ∧ Mem w0 W' (C xs :: [bxI B 58 [.int .i64 F.S.ob, .slice x1 F.S.s.length k1, .slice x2 F.S.t.length k2, .slice x3 F.S.e.length k3, .slice x4 F.S.m.length k4, .int .i64 F.T.ob, .slice x5 F.T.s.length k5, .slice x6 F.T.t.length k6, .slice x7 F.T.e.length k7, .slice x8 F.T.m.length k8, .slice x9 F.o.length k9, .slice x10 F.a.length k10, .int .i64 G.S.ob, .slice y1 G.S.s.length l1, .slice y2 G.S.t.length l2, .slice y3 G.S.e.length l3, .slice y4 G.S.m.length l4, .int .i64 G.T.ob, .slice y5 G.T.s.length l5, .slice y6 G.T.t.length l6, .slice y7 G.T.e.length l7, .slice y8 G.T.m.length l8, .slice y9 G.o.length l9, .slice y10 G.a.length l10], H])) ∨ (∃ pre, (pre.map (fun x : Ent Int => x)) <+: (obL F G) ∧ Mem w0 W' (Cx pre :: [bxI B 58 [.int .i64 F.S.ob, .slice x1 F.S.s.length k1, .slice x2 F.S.t.length k2, .slice x3 F.S.e.length k3, .slice x4 F.S.m.length k4, .int .i64 F.T.ob, .slice x5 F.T.s.length k5, .slice x6 F.T.t.length k6, .slice x7 F.T.e.length k7, .slice x8 F.T.m.length k8, .slice x9 F.o.length k9, .slice x10 F.a.length k10, .int .i64 G.S.ob, .slice y1 G.S.s.length l1, .slice y2 G.S.t.length l2, .slice y3 G.S.e.length l3, .slice y4 G.S.m.length l4, .int .i64 G.T.ob, .slice y5 G.T.s.length l5, .slice y6 G.T.t.length l6, .slice y7 G.T.e.length l7, .slice y8 G.T.m.length l8, .slice y9 G.o.length l9, .slice y10 G.a.length l10], H])))) := by
  have fS := (isCat_of hP.f.cs).toShapeP; have fT := (isCat_of hP.f.ct).toShapeP; have gS := (isCat_of hP.g.cs).toShapeP
  have fo := hP.f.lo; have fa := hP.f.la; have go := hP.g.lo; have ga := hP.g.la
  have s8 := fS.ob8; have s0 := fS.ob0; have g8 := gS.ob8; have g0 := gS.ob0; have n1 := fS.n40; have n2 := gS.n40; have n3 := fT.n40
  go_enter Tryz.func115, Tryz.ntmps115
  refine gc_enterM M (N := 49) rfl (look_cons (k := 0) rfl (look_cons (k := 1) rfl (look_nil _))) ?_
  clear M
  refine gc_seq fun K1 hK1 => ?_
  refine gc_region ?_
  refine g_v (.free rfl) rfl rfl (qt_field (z := 11) (off := 0) rfl rfl Tryz.underlying58 rfl (by kernel_rfl) rfl) ?_
  refine g_v (.free rfl) rfl rfl (qt_field (z := 0) (off := 10) rfl rfl Tryz.underlying31 rfl (by kernel_rfl) rfl) ?_
  refine g_v (.free rfl) rfl rfl (qt_loadB (n := 1) rfl rfl Tryz.underlying22 rfl rfl rfl) ?_
  refine g_v (.free rfl) rfl rfl (qt_len rfl rfl ulE1 (fun w M => lenV_rd ((hH _ 2 _ M rfl).Fo))) ?_
  refine g_v (.free rfl) rfl rfl (qt_move rfl rfl) ?_
  refine g_nil ?_
  refine gk_then (hK1 _ _ ?_)
  refine gc_block ?_
  rw [show C [] = C (obU F G 0 0 0) by rw [obU_0]]
  try simp only [List.nil_append, List.cons_append, List.append_assoc, List.set_cons_succ, List.set_cons_zero]
  refine gc_loop ([(0, _), (1, _), (11, _), (12, _)] : Env) (fun s : Nat => (fun (k : Nat) => ([(13, .int .i64 (k : Int))] : Env)) s) (fun s : Nat => (fun (k : Nat) => ([(0, C (obU F G k 0 0))] : List (Nat × Itm))) s) (fun s : Nat => (fun (k : Nat) => k ≤ F.o.length) s) (fun s : Nat => (fun (k : Nat) => F.o.length - k) s) (0) (sub_cons rfl (sub_cons rfl (sub_cons rfl (sub_cons rfl (sub_cons rfl sub_nil))))) rfl (Nat.zero_le _) ?_
  rintro k hinv KL2 hKL2
  simp only [updL, List.foldl_cons, List.foldl_nil, List.set_cons_succ, List.set_cons_zero, List.cons_append, List.nil_append] at hinv hKL2 ⊢
  have hk := hinv
  refine gc_seq fun K3 hK3 => ?_
  refine gc_region ?_
  refine g_v (.free rfl) rfl rfl (qt_lss rfl rfl rfl) ?_
  refine g_nil ?_
  refine gk_then (hK3 _ _ ?_)
  refine gc_seq fun K4 hK4 => ?_
  refine gc_cond rfl (fun hc0 => ?_) (fun hc0 => ?_)
  · try simp only [decide_eq_true_eq, decide_eq_false_iff_not, Bool.not_eq_true', Bool.not_eq_false', Bool.not_eq_eq_eq_not, Bool.not_true, Bool.not_false, ne_eq, Decidable.not_not, Classical.not_not] at hc0
    refine gc_skip ?_
    refine gk_then (hK4 _ _ ?_)
    refine gc_seq fun K5 hK5 => ?_
    refine gc_block ?_
    refine gc_seq fun K6 hK6 => ?_
    refine gc_region ?_
    refine g_v (.free rfl) rfl rfl (qt_move rfl rfl) ?_
    refine g_v (.free rfl) rfl rfl (qt_index rfl rfl rfl ulE1 szE1 (fun w M => lenA_rd ((hH _ 2 _ M rfl).Fo)) (by omega) (by omega)) ?_
    refine g_v (.free rfl) rfl rfl (qt_load1 rfl rfl Tryz.underlying2 rfl (fun w M => (hH _ 2 _ M rfl).Fo) (by omega) (by omega)) ?_
    refine g_v (.free rfl) rfl rfl (qt_assign rfl rfl) ?_
    refine g_v (.free rfl) rfl rfl (qt_assign rfl rfl) ?_
    refine g_nil ?_
    refine gk_then (hK6 _ _ ?_)
    refine gc_seq fun K7 hK7 => ?_
    refine gc_region ?_
    refine g_v (.free rfl) rfl rfl (qt_field (z := 11) (off := 12) rfl rfl Tryz.underlying58 rfl (by kernel_rfl) rfl) ?_
    refine g_v (.free rfl) rfl rfl (qt_field (z := 0) (off := 10) rfl rfl Tryz.underlying31 rfl (by kernel_rfl) rfl) ?_
    refine g_v (.free rfl) rfl rfl (qt_loadB (n := 1) rfl rfl Tryz.underlying22 rfl rfl rfl) ?_
    refine g_v (.free rfl) rfl rfl (qt_len rfl rfl ulE1 (fun w M => lenV_rd ((hH _ 2 _ M rfl).Go))) ?_
    refine g_v (.free rfl) rfl rfl (qt_move rfl rfl) ?_
    refine g_nil ?_
    refine gk_then (hK7 _ _ ?_)
    refine gc_block ?_
    try simp only [List.nil_append, List.cons_append, List.append_assoc, List.set_cons_succ, List.set_cons_zero]
    refine gc_loop ([(0, _), (1, _), (3, _), (4, _), (11, _), (12, _), (13, _), (14, _), (20, _), (21, _)] : Env) (fun s : Nat => (fun (j : Nat) => ([(22, .int .i64 (j : Int))] : Env)) s) (fun s : Nat => (fun (j : Nat) => ([(0, C (obU F G k j 0))] : List (Nat × Itm))) s) (fun s : Nat => (fun (j : Nat) => j ≤ G.o.length) s) (fun s : Nat => (fun (j : Nat) => G.o.length - j) s) (0) (sub_cons rfl (sub_cons rfl (sub_cons rfl (sub_cons rfl (sub_cons rfl (sub_cons rfl (sub_cons rfl (sub_cons rfl (sub_cons rfl (sub_cons rfl (sub_cons rfl sub_nil))))))))))) rfl (Nat.zero_le _) ?_
    rintro j hinv KL8 hKL8
    simp only [updL, List.foldl_cons, List.foldl_nil, List.set_cons_succ, List.set_cons_zero, List.cons_append, List.nil_append] at hinv hKL8 ⊢
    have hj := hinv
    refine gc_seq fun K9 hK9 => ?_
    refine gc_region ?_
    refine g_v (.free rfl) rfl rfl (qt_lss rfl rfl rfl) ?_
    refine g_nil ?_
    refine gk_then (hK9 _ _ ?_)
    refine gc_seq fun K10 hK10 => ?_
    refine gc_cond rfl (fun hc1 => ?_) (fun hc1 => ?_)
    · try simp only [decide_eq_true_eq, decide_eq_false_iff_not, Bool.not_eq_true', Bool.not_eq_false', Bool.not_eq_eq_eq_not, Bool.not_true, Bool.not_false, ne_eq, Decidable.not_not, Classical.not_not] at hc1
      refine gc_skip ?_
      refine gk_then (hK10 _ _ ?_)
      refine gc_seq fun K11 hK11 => ?_
      refine gc_block ?_
      refine gc_seq fun K12 hK12 => ?_
      refine gc_region ?_
      refine g_v (.free rfl) rfl rfl (qt_move rfl rfl) ?_
      refine g_v (.free rfl) rfl rfl (qt_index rfl rfl rfl ulE1 szE1 (fun w M => lenA_rd ((hH _ 2 _ M rfl).Go)) (by omega) (by omega)) ?_
      refine g_v (.free rfl) rfl rfl (qt_load1 rfl rfl Tryz.underlying2 rfl (fun w M => (hH _ 2 _ M rfl).Go) (by omega) (by omega)) ?_
      refine g_v (.free rfl) rfl rfl (qt_assign rfl rfl) ?_
      refine g_v (.free rfl) rfl rfl (qt_assign rfl rfl) ?_
      refine g_nil ?_
      refine gk_then (hK12 _ _ ?_)
      refine gc_seq fun K13 hK13 => ?_
      refine gc_region ?_
      refine g_v (.free rfl) rfl rfl (qt_field (z := 11) (off := 0) rfl rfl Tryz.underlying58 rfl (by kernel_rfl) rfl) ?_
      refine g_v (.free rfl) rfl rfl (qt_field (z := 4) (off := 5) rfl rfl Tryz.underlying31 rfl (by kernel_rfl) rfl) ?_
      refine g_v (.free rfl) rfl rfl (qt_loadP (n := 1) (z := 5) rfl rfl Tryz.underlying29 rfl (by kernel_rfl) rfl (by first | decide | exact Nat.le_refl _ | simp)) ?_
      refine g_v (.free rfl) rfl rfl (qt_move rfl rfl) ?_
      refine g_v (.free rfl) rfl rfl (qt_move rfl rfl) ?_
      refine g_v (.free rfl) rfl rfl (qt_build rfl rfl bt_arrowEnds) ?_
      refine g_op (.free rfl) fun K15 hK15 => ?_
      refine go_callL rfl rfl rfl Tryz.func116 rfl (by decide) rfl (fun w M => arrowsBetween_any w _ _ _ _ ((hH _ 2 _ M rfl).FT) (by first | assumption | omega)) ?_
      intro va14 vc14
      refine hK15 _ _ ?_
      refine g_v (.free rfl) rfl rfl (qt_len rfl rfl ulE1 (fun w M => lenV_own1 (n := 3) rfl M)) ?_
      refine g_v (.free rfl) rfl rfl (qt_move rfl rfl) ?_
      refine g_nil ?_
      refine gk_then (hK13 _ _ ?_)
      refine gc_block ?_
      try simp only [List.nil_append, List.cons_append, List.append_assoc, List.set_cons_succ, List.set_cons_zero]
      refine gc_loop ([(0, _), (1, _), (3, _), (4, _), (5, _), (6, _), (11, _), (12, _), (13, _), (14, _), (20, _), (21, _), (22, _), (23, _), (33, _), (34, _)] : Env) (fun s : Nat => (fun (i : Nat) => ([(35, .int .i64 (i : Int))] : Env)) s) (fun s : Nat => (fun (i : Nat) => ([(0, C (obU F G k j i))] : List (Nat × Itm))) s) (fun s : Nat => (fun (i : Nat) => i ≤ (homTo F.T (at0 F.o (k : Int)) (at0 G.o (j : Int)) F.T.s.length).length) s) (fun s : Nat => (fun (i : Nat) => (homTo F.T (at0 F.o (k : Int)) (at0 G.o (j : Int)) F.T.s.length).length - i) s) (0) (sub_cons rfl (sub_cons rfl (sub_cons rfl (sub_cons rfl (sub_cons rfl (sub_cons rfl (sub_cons rfl (sub_cons rfl (sub_cons rfl (sub_cons rfl (sub_cons rfl (sub_cons rfl (sub_cons rfl (sub_cons rfl (sub_cons rfl (sub_cons rfl (sub_cons rfl sub_nil))))))))))))))))) rfl (Nat.zero_le _) ?_
      rintro i hinv KL16 hKL16
      simp only [updL, List.foldl_cons, List.foldl_nil, List.set_cons_succ, List.set_cons_zero, List.cons_append, List.nil_append] at hinv hKL16 ⊢
      have hi := hinv
      have hhl := homTo_len F.T (at0 F.o (k : Int)) (at0 G.o (j : Int)) F.T.s.length
      refine gc_seq fun K17 hK17 => ?_
      refine gc_region ?_
      refine g_v (.free rfl) rfl rfl (qt_lss rfl rfl rfl) ?_
      refine g_nil ?_
      refine gk_then (hK17 _ _ ?_)
      refine gc_seq fun K18 hK18 => ?_
      refine gc_cond rfl (fun hc2 => ?_) (fun hc2 => ?_)
      · try simp only [decide_eq_true_eq, decide_eq_false_iff_not, Bool.not_eq_true', Bool.not_eq_false', Bool.not_eq_eq_eq_not, Bool.not_true, Bool.not_false, ne_eq, Decidable.not_not, Classical.not_not] at hc2
        refine gc_skip ?_
        refine gk_then (hK18 _ _ ?_)
        refine gc_seq fun K19 hK19 => ?_
        refine gc_block ?_
        refine gc_seq fun K20 hK20 => ?_
        refine gc_region ?_
        refine g_v (.free rfl) rfl rfl (qt_index rfl rfl rfl ulE1 szE1 (fun w M => lenA_own1 (n := 3) rfl M) (by omega) (by omega)) ?_
        refine g_v (.free rfl) rfl rfl (qt_load1 rfl rfl Tryz.underlying2 rfl (fun w M => (mem_own1 (n := 3) M rfl).rd) (by omega) (by omega)) ?_
        refine g_v (.free rfl) rfl rfl (qt_assign rfl rfl) ?_
        refine g_nil ?_
        refine gk_then (hK20 _ _ ?_)
        refine gc_seq fun K21 hK21 => ?_
        refine gc_region ?_
        refine g_v (.free rfl) rfl rfl (qt_move rfl rfl) ?_
        refine g_v (.free rfl) rfl rfl (qt_move rfl rfl) ?_
        refine g_v (.free rfl) rfl rfl (qt_move rfl rfl) ?_
        refine g_v (.free rfl) rfl rfl (qt_move rfl rfl) ?_
        refine g_v (.free rfl) rfl rfl (qt_build rfl rfl bt_commaObject) ?_
        refine g_yield (((k : Int), (j : Int), at0 (homTo F.T (at0 F.o (k : Int)) (at0 G.o (j : Int)) F.T.s.length) (i : Int)) : Ent Int) (.free rfl) rfl rfl rfl rfl rfl Y (by rw [cm_mapid]; exact obU_pre (by omega) (by omega) (by omega)) (List.Perm.refl _) ?_ ?_
        · skip
          refine g_v (.free rfl) rfl rfl (qt_not rfl rfl) ?_
          refine g_nil ?_
          refine gk_then (hK21 _ _ ?_)
          refine gc_cond_f rfl ?_
          refine gc_skip ?_
          refine gk_block ?_
          refine gk_then (hK19 _ _ ?_)
          refine gc_region ?_
          refine g_v (.free rfl) rfl rfl (qt_add rfl rfl rfl (by omega)) ?_
          refine g_v (.free rfl) rfl rfl (qt_move rfl rfl) ?_
          refine g_nil ?_
          rw [obU_succ (by omega)]
          refine gk_then (gk_take 4 ?_)
          refine gk_sub ?hs_22 (hKL16 (i + 1) ?hi_22 ?hm_22)
          case hs_22 => exact (sub_cons rfl (sub_cons rfl (sub_cons rfl (sub_cons rfl (sub_cons rfl (sub_cons rfl (sub_cons rfl (sub_cons rfl (sub_cons rfl (sub_cons rfl (sub_cons rfl (sub_cons rfl (sub_cons rfl (sub_cons rfl (sub_cons rfl (sub_cons rfl (sub_cons rfl sub_nil)))))))))))))))))
          case hi_22 => omega
          case hm_22 => omega
        · skip
          refine g_v (.free rfl) rfl rfl (qt_not rfl rfl) ?_
          refine g_nil ?_
          refine gk_then (hK21 _ _ ?_)
          refine gc_cond_t rfl ?_
          refine gc_ret ?_
          refine gk_block_ret ?_
          refine gk_then_ret ?_
          refine gk_then_ret ?_
          refine gk_block_ret ?_
          refine gk_block_ret ?_
          refine gk_then_ret ?_
          refine gk_then_ret ?_
          refine gk_block_ret ?_
          refine gk_block_ret ?_
          refine gk_then_ret ?_
          refine gk_then_ret ?_
          refine gk_block_ret ?_
          refine ret_0 rfl (fun w M => ?_)
          exact ⟨⟨_, rfl⟩, .inr ⟨_, by rw [cm_mapid]; exact obU_pre (by omega) (by omega) (by omega), mem_take 3 M⟩⟩
      · try simp only [decide_eq_true_eq, decide_eq_false_iff_not, Bool.not_eq_true', Bool.not_eq_false', Bool.not_eq_eq_eq_not, Bool.not_true, Bool.not_false, ne_eq, Decidable.not_not, Classical.not_not] at hc2
        refine gc_exit ?_
        refine gk_then_exit ?_
        refine gk_then_exit ?_
        refine gk_block_hit ?_
        refine gk_block ?_
        refine gk_then (hK11 _ _ ?_)
        refine gc_region ?_
        refine g_v (.free rfl) rfl rfl (qt_add rfl rfl rfl (by omega)) ?_
        refine g_v (.free rfl) rfl rfl (qt_move rfl rfl) ?_
        refine g_nil ?_
        obtain rfl : i = (homTo F.T (at0 F.o (k : Int)) (at0 G.o (j : Int)) F.T.s.length).length := by omega
        rw [obU_b]
        refine gk_then (gk_take 3 ?_)
        refine gk_sub ?hs_23 (hKL8 (j + 1) ?hi_23 ?hm_23)
        case hs_23 => exact (sub_cons rfl (sub_cons rfl (sub_cons rfl (sub_cons rfl (sub_cons rfl (sub_cons rfl (sub_cons rfl (sub_cons rfl (sub_cons rfl (sub_cons rfl (sub_cons rfl sub_nil)))))))))))
        case hi_23 => omega
        case hm_23 => omega
    · try simp only [decide_eq_true_eq, decide_eq_false_iff_not, Bool.not_eq_true', Bool.not_eq_false', Bool.not_eq_eq_eq_not, Bool.not_true, Bool.not_false, ne_eq, Decidable.not_not, Classical.not_not] at hc1
      refine gc_exit ?_
      refine gk_then_exit ?_
      refine gk_then_exit ?_
      refine gk_block_hit ?_
      refine gk_block ?_
      refine gk_then (hK5 _ _ ?_)
      refine gc_region ?_
      refine g_v (.free rfl) rfl rfl (qt_add rfl rfl rfl (by omega)) ?_
      refine g_v (.free rfl) rfl rfl (qt_move rfl rfl) ?_
      refine g_nil ?_
      obtain rfl : j = G.o.length := by omega
      rw [obU_a]
      refine gk_then (gk_take 3 ?_)
      refine gk_sub ?hs_24 (hKL2 (k + 1) ?hi_24 ?hm_24)
      case hs_24 => exact (sub_cons rfl (sub_cons rfl (sub_cons rfl (sub_cons rfl (sub_cons rfl sub_nil)))))
      case hi_24 => omega
      case hm_24 => omega
  · try simp only [decide_eq_true_eq, decide_eq_false_iff_not, Bool.not_eq_true', Bool.not_eq_false', Bool.not_eq_eq_eq_not, Bool.not_true, Bool.not_false, ne_eq, Decidable.not_not, Classical.not_not] at hc0
    refine gc_exit ?_
    refine gk_then_exit ?_
    refine gk_then_exit ?_
    refine gk_block_hit ?_
    refine ret_0n rfl (fun w M => ?_)
    obtain rfl : k = F.o.length := by omega
    rw [obU_end] at M
    exact ⟨⟨_, rfl⟩, .inl ⟨obL F G, cm_mapid _, M⟩⟩
theorem allOb_seq {w0 : World} {B : Nat} {x1 x2 x3 x4 x5 x6 x7 x8 x9 x10 y1 y2 y3 y4 y5 y6 y7 y8 y9 y10 : Option Addr} {k1 k2 k3 k4 k5 k6 k7 k8 k9 k10 l1 l2 l3 l4 l5 l6 l7 l8 l9 l10 : Nat} {F G : Fct} {H : Itm} (hH : HoldC w0 H F G x1 x2 x3 x4 x5 x6 x7 x8 x9 x10 y1 y2 y3 y4 y5 y6 y7 y8 y9 y10 k1 k2 k3 k4 k5 k6 k7 k8 k9 k10 l1 l2 l3 l4 l5 l6 l7 l8 l9 l10) (hP : CspP F G) : SeqC w0 [bxI B 58 [.int .i64 F.S.ob, .slice x1 F.S.s.length k1, .slice x2 F.S.t.length k2, .slice x3 F.S.e.length k3, .slice x4 F.S.m.length k4, .int .i64 F.T.ob, .slice x5 F.T.s.length k5, .slice x6 F.T.t.length k6, .slice x7 F.T.e.length k7, .slice x8 F.T.m.length k8, .slice x9 F.o.length k9, .slice x10 F.a.length k10, .int .i64 G.S.ob, .slice y1 G.S.s.length l1, .slice y2 G.S.t.length l2, .slice y3 G.S.e.length l3, .slice y4 G.S.m.length l4, .int .i64 G.T.ob, .slice y5 G.T.s.length l5, .slice y6 G.T.t.length l6, .slice y7 G.T.e.length l7, .slice y8 G.T.m.length l8, .slice y9 G.o.length l9, .slice y10 G.a.length l10], H] 115 [.pointer (some ⟨B, 0, none⟩)] (fun e : Ent Int => Value.agg #[.int .i64 e.1, .int .i64 e.2.1, .int .i64 e.2.2]) (fun _ : Ent Int => ([] : List Itm)) (fun x : Ent Int => x) (obL F G) := fun C Cx l Y W M => allOb_run w0 W C Cx l B F G H hH hP Y M
set_option maxHeartbeats 1000000 in
set_option maxRecDepth 100000 in
theorem allObj_any (w : World) {x1 x2 x3 x4 x5 x6 x7 x8 x9 x10 y1 y2 y3 y4 y5 y6 y7 y8 y9 y10 : Option Addr} {k1 k2 k3 k4 k5 k6 k7 k8 k9 k10 l1 l2 l3 l4 l5 l6 l7 l8 l9 l10 : Nat} (F G : Fct) (hC : CspR w F G x1 x2 x3 x4 x5 x6 x7 x8 x9 x10 y1 y2 y3 y4 y5 y6 y7 y8 y9 y10 k1 k2 k3 k4 k5 k6 k7 k8 k9 k10 l1 l2 l3 l4 l5 l6 l7 l8 l9 l10) :
    Calls Tryz.prog 82 #[.agg #[.int .i64 F.S.ob, .slice x1 F.S.s.length k1, .slice x2 F.S.t.length k2, .slice x3 F.S.e.length k3, .slice x4 F.S.m.length k4, .int .i64 F.T.ob, .slice x5 F.T.s.length k5, .slice x6 F.T.t.length k6, .slice x7 F.T.e.length k7, .slice x8 F.T.m.length k8, .slice x9 F.o.length k9, .slice x10 F.a.length k10, .int .i64 G.S.ob, .slice y1 G.S.s.length l1, .slice y2 G.S.t.length l2, .slice y3 G.S.e.length l3, .slice y4 G.S.m.length l4, .int .i64 G.T.ob, .slice y5 G.T.s.length l5, .slice y6 G.T.t.length l6, .slice y7 G.T.e.length l7, .slice y8 G.T.m.length l8, .slice y9 G.o.length l9, .slice y10 G.a.length l10]] w (RetCl1 w 115 58 [.int .i64 F.S.ob, .slice x1 F.S.s.length k1, .slice x2 F.S.t.length k2, .slice x3 F.S.e.length k3, .slice x4 F.S.m.length k4, .int .i64 F.T.ob, .slice x5 F.T.s.length k5, .slice x6 F.T.t.length k6, .slice x7 F.T.e.length k7, .slice x8 F.T.m.length k8, .slice x9 F.o.length k9, .slice x10 F.a.length k10, .int .i64 G.S.ob, .slice y1 G.S.s.length l1, .slice y2 G.S.t.length l2, .slice y3 G.S.e.length l3, .slice y4 G.S.m.length l4, .int .i64 G.T.ob, .slice y5 G.T.s.length l5, .slice y6 G.T.t.length l6, .slice y7 G.T.e.length l7, .slice y8 G.T.m.length l8, .slice y9 G.o.length l9, .slice y10 G.a.length l10]) := by
  go_enter Tryz.func82, Tryz.ntmps82
  refine gc_enter (N := 4) rfl (look_cons (k := 0) rfl (look_nil _)) ?_
  refine gc_seq fun K1 hK1 => ?_
  refine gc_region ?_
  refine g_op (.free rfl) fun K3 hK3 => ?_
  refine go_box rfl rfl rfl rfl rfl ?_
  intro B2
  refine hK3 _ _ ?_
  refine g_v (.free rfl) rfl rfl (qt_assign rfl rfl) ?_
  refine g_nil ?_
  refine gk_then (hK1 _ _ ?_)
  refine gc_seq fun K4 hK4 => ?_
  refine gc_region ?_
  refine g_v (.free rfl) rfl rfl (qt_makeF rfl rfl) ?_
  refine g_v (.free rfl) rfl rfl (qt_assign rfl rfl) ?_
  refine g_nil ?_
  refine gk_then (hK4 _ _ ?_)
  refine gc_ret ?_
  refine ret_1 rfl rfl  (fun w M => ?_)
  exact ⟨_, rfl, M.2, M.1⟩
set_option maxHeartbeats 2000000 in
set_option maxRecDepth 100000 in
theorem commutes_any (w : World) {x1 x2 x3 x4 x5 x6 x7 x8 x9 x10 y1 y2 y3 y4 y5 y6 y7 y8 y9 y10 : Option Addr} {k1 k2 k3 k4 k5 k6 k7 k8 k9 k10 l1 l2 l3 l4 l5 l6 l7 l8 l9 l10 : Nat} (F G : Fct) (hC : CspR w F G x1 x2 x3 x4 x5 x6 x7 x8 x9 x10 y1 y2 y3 y4 y5 y6 y7 y8 y9 y10 k1 k2 k3 k4 k5 k6 k7 k8 k9 k10 l1 l2 l3 l4 l5 l6 l7 l8 l9 l10) (hP : CspP F G) (h k u v : Int) (ha0 : 0 ≤ h) (ha1 : h < F.T.s.length) (hb0 : 0 ≤ k) (hb1 : k < F.T.s.length) (hc0 : 0 ≤ u) (hc1 : u < F.S.s.length) (hd0 : 0 ≤ v) (hd1 : v < G.S.s.length) :
    Calls Tryz.prog 148 #[.agg #[.int .i64 F.S.ob, .slice x1 F.S.s.length k1, .slice x2 F.S.t.length k2, .slice x3 F.S.e.length k3, .slice x4 F.S.m.length k4, .int .i64 F.T.ob, .slice x5 F.T.s.length k5, .slice x6 F.T.t.length k6, .slice x7 F.T.e.length k7, .slice x8 F.T.m.length k8, .slice x9 F.o.length k9, .slice x10 F.a.length k10, .int .i64 G.S.ob, .slice y1 G.S.s.length l1, .slice y2 G.S.t.length l2, .slice y3 G.S.e.length l3, .slice y4 G.S.m.length l4, .int .i64 G.T.ob, .slice y5 G.T.s.length l5, .slice y6 G.T.t.length l6, .slice y7 G.T.e.length l7, .slice y8 G.T.m.length l8, .slice y9 G.o.length l9, .slice y10 G.a.length l10], .int .i64 h, .int .i64 k, .int .i64 u, .int .i64 v] w (RetB w (cmB F G h k u v)) := by
  have fS := (isCat_of hP.f.cs).toShapeP; have fT := (isCat_of hP.f.ct).toShapeP; have gS := (isCat_of hP.g.cs).toShapeP
  have fo := hP.f.lo; have fa := hP.f.la; have go := hP.g.lo; have ga := hP.g.la
  have s8 := fS.ob8; have s0 := fS.ob0; have g8 := gS.ob8; have g0 := gS.ob0; have n1 := fS.n40; have n2 := gS.n40; have n3 := fT.n40
  have hU := (fct_en hP.f hc0 hc1).1; have hV := (fct_en hP.g hd0 hd1).1
  rw [← hP.t] at hV
  have hU0 := hU.1; have hU1 := hU.2; have hV0 := hV.1; have hV1 := hV.2
  have A1 := arrP fT hU.1 hU.2; have A2 := arrP fT ha0 ha1
  have r1 := A1.row; have r2 := A2.row; have f1 := A1.fm; have f2 := A2.fm
  go_enter Tryz.func148, Tryz.ntmps148
  refine gc_enter (N := 34) rfl (look_cons (k := 0) rfl (look_cons (k := 1) rfl (look_cons (k := 2) rfl (look_cons (k := 3) rfl (look_cons (k := 4) rfl (look_nil _)))))) ?_
  refine gc_seq fun K1 hK1 => ?_
  refine gc_region ?_
  refine g_op (.free rfl) fun K3 hK3 => ?_
  refine go_box rfl rfl rfl rfl rfl ?_
  intro B2
  refine hK3 _ _ ?_
  refine g_v (.free rfl) rfl rfl (qt_assign rfl rfl) ?_
  refine g_nil ?_
  refine gk_then (hK1 _ _ ?_)
  refine gc_seq fun K4 hK4 => ?_
  refine gc_region ?_
  refine g_v (.free rfl) rfl rfl (qt_field (z := 11) (off := 0) rfl rfl Tryz.underlying58 rfl (by kernel_rfl) rfl) ?_
  refine g_v (.free rfl) rfl rfl (qt_field (z := 4) (off := 5) rfl rfl Tryz.underlying31 rfl (by kernel_rfl) rfl) ?_
  refine g_v (.free rfl) rfl rfl (qt_loadP (n := 0) (z := 5) rfl rfl Tryz.underlying29 rfl (by kernel_rfl) rfl (by first | decide | exact Nat.le_refl _ | simp)) ?_
  refine g_op (.free rfl) fun K6 hK6 => ?_
  refine go_alloc (z := (.agg #[.int .i64 0, .slice none 0 0, .slice none 0 0, .slice none 0 0, .slice none 0 0])) (cs := [.int .i64 0, .slice none 0 0, .slice none 0 0, .slice none 0 0, .slice none 0 0]) rfl rfl rfl (fun w => by kernel_rfl) rfl ?_
  intro B5
  refine hK6 _ _ ?_
  refine g_op (.free rfl) fun K7 hK7 => ?_
  refine go_storeS (n := 1) rfl rfl rfl rfl (by kernel_rfl) rfl rfl rfl ?_
  refine hK7 _ _ ?_
  refine g_nil ?_
  refine gk_then (hK4 _ _ ?_)
  refine gc_seq fun K8 hK8 => ?_
  refine gc_draw (by kernel_rfl) ?_
  refine gd_v (.free rfl) rfl rfl (qt_loadS (n := 1) rfl rfl Tryz.underlying29 rfl (by kernel_rfl) rfl) ?_
  refine gd_v (.free rfl) rfl rfl (qt_field (z := 11) (off := 0) rfl rfl Tryz.underlying58 rfl (by kernel_rfl) rfl) ?_
  refine gd_v (.free rfl) rfl rfl (qt_field (z := 0) (off := 11) rfl rfl Tryz.underlying31 rfl (by kernel_rfl) rfl) ?_
  refine gd_v (.free rfl) rfl rfl (qt_loadB (n := 0) rfl rfl Tryz.underlying22 rfl rfl rfl) ?_
  refine gd_v (.free rfl) rfl rfl (qt_move rfl rfl) ?_
  refine gd_v (.free rfl) rfl rfl (qt_index rfl rfl rfl ulE1 szE1 (fun w M => lenA_rd hC.Fa) (by omega) (by omega)) ?_
  refine gd_v (.free rfl) rfl rfl (qt_load1 rfl rfl Tryz.underlying2 rfl (fun w M => mem_rd M hC.Fa) (by omega) (by omega)) ?_
  refine gd_v (.free rfl) rfl rfl (qt_move rfl rfl) ?_
  refine gd_q (.free rfl) rfl rfl (qt_call rfl Tryz.func119 rfl (by decide) rfl (fun w M => then_any w _ _ _ _ (mem_rdC M hC.FT) (by first | assumption | omega) (by first | assumption | omega) (by first | assumption | omega) (by first | assumption | omega))) ?_
  refine gd_v (.free rfl) rfl rfl (qt_loadS (n := 1) rfl rfl Tryz.underlying29 rfl (by kernel_rfl) rfl) ?_
  refine gd_v (.free rfl) rfl rfl (qt_move rfl rfl) ?_
  refine gd_v (.free rfl) rfl rfl (qt_field (z := 11) (off := 12) rfl rfl Tryz.underlying58 rfl (by kernel_rfl) rfl) ?_
  refine gd_v (.free rfl) rfl rfl (qt_field (z := 0) (off := 11) rfl rfl Tryz.underlying31 rfl (by kernel_rfl) rfl) ?_
  refine gd_v (.free rfl) rfl rfl (qt_loadB (n := 0) rfl rfl Tryz.underlying22 rfl rfl rfl) ?_
  refine gd_v (.free rfl) rfl rfl (qt_move rfl rfl) ?_
  refine gd_v (.free rfl) rfl rfl (qt_index rfl rfl rfl ulE1 szE1 (fun w M => lenA_rd hC.Ga) (by omega) (by omega)) ?_
  refine gd_v (.free rfl) rfl rfl (qt_load1 rfl rfl Tryz.underlying2 rfl (fun w M => mem_rd M hC.Ga) (by omega) (by omega)) ?_
  refine gd_q (.free rfl) rfl rfl (qt_call rfl Tryz.func119 rfl (by decide) rfl (fun w M => then_any w _ _ _ _ (mem_rdC M hC.FT) (by first | assumption | omega) (by first | assumption | omega) (by first | assumption | omega) (by first | assumption | omega))) ?_
  refine gd_v (.free rfl) rfl rfl (qt_eql rfl rfl rfl) ?_
  refine gd_v (.free rfl) rfl rfl (qt_assign rfl rfl) ?_
  refine gd_nil ?_
  refine gk_then (hK8 _ _ ?_)
  refine gc_ret ?_
  refine ret_1 rfl rfl  (fun w M => ?_)
  unfold cmB; rw [bP_dec]; exact ⟨rfl, M.1⟩
set_option maxHeartbeats 4000000 in
set_option maxRecDepth 100000 in
theorem parts_run (w0 w : World) (C Cx : List (Int × Int) → Itm) (l B D E : Nat) {x1 x2 x3 x4 x5 x6 x7 x8 x9 x10 y1 y2 y3 y4 y5 y6 y7 y8 y9 y10 : Option Addr} {k1 k2 k3 k4 k5 k6 k7 k8 k9 k10 l1 l2 l3 l4 l5 l6 l7 l8 l9 l10 : Nat} (F G : Fct) (H : Itm) (hH : HoldC w0 H F G x1 x2 x3 x4 x5 x6 x7 x8 x9 x10 y1 y2 y3 y4 y5 y6 y7 y8 y9 y10 k1 k2 k3 k4 k5 k6 k7 k8 k9 k10 l1 l2 l3 l4 l5 l6 l7 l8 l9 l10) (hP : CspP F G) (x y : Ent Int) (hx0 : 0 ≤ x.2.2) (hx1 : x.2.2 < F.T.s.length) (hy0 : 0 ≤ y.2.2) (hy1 : y.2.2 < F.T.s.length) (Y : YieldC w0 C Cx l (fun p : Int × Int => Value.agg #[.int .i64 p.1, .int .i64 p.2]) (fun _ : Int × Int => ([] : List Itm)) (fun x : Int × Int => x) (paL F G x y)) (M : Mem w0 w [C [], bxI B 58 [.int .i64 F.S.ob, .slice x1 F.S.s.length k1, .slice x2 F.S.t.length k2, .slice x3 F.S.e.length k3, .slice x4 F.S.m.length k4, .int .i64 F.T.ob, .slice x5 F.T.s.length k5, .slice x6 F.T.t.length k6, .slice x7 F.T.e.length k7, .slice x8 F.T.m.length k8, .slice x9 F.o.length k9, .slice x10 F.a.length k10, .int .i64 G.S.ob, .slice y1 G.S.s.length l1, .slice y2 G.S.t.length l2, .slice y3 G.S.e.length l3, .slice y4 G.S.m.length l4, .int .i64 G.T.ob, .slice y5 G.T.s.length l5, .slice y6 G.T.t.length l6, .slice y7 G.T.e.length l7, .slice y8 G.T.m.length l8, .slice y9 G.o.length l9, .slice y10 G.a.length l10], bxI D 67 [.int .i64 x.1, .int .i64 x.2.1, .int .i64 x.2.2], bxI E 67 [.int .i64 y.1, .int .i64 y.2.1, .int .i64 y.2.2], H]) :
    Calls Tryz.prog 147 #[.func (.yield l) #[] #[], .pointer (some ⟨B, 0, none⟩), .pointer (some ⟨D, 0, none⟩), .pointer (some ⟨E, 0, none⟩)] w (fun e W' => (∃ v, e = .returned v) ∧ ((∃ xs, xs.map (fun x : Int × Int => x) = (paL F G x y) ∧ Mem w0 W' (C xs :: [bxI B 58 [.int .i64 F.S.ob, .slice x1 F.S.s.length k1, .slice x2 F.S.t.length k2, .slice x3 F.S.e.length k3, .slice x4 F.S.m.length k4, .int .i64 F.T.ob, .slice x5 F.T.s.length k5, .slice x6 F.T.t.length k6, .slice x7 F.T.e.length k7, .slice x8 F.T.m.length k8, .slice x9 F.o.length k9, .slice x10 F.a.length k10, .int .i64 G.S.ob, .slice y1 G.S.s.length l1, .slice y2 G.S.t.length l2, .slice y3 G.S.e.length l3, .slice y4 G.S.m.length l4, .int .i64 G.T.ob, .slice y5 G.T.s.length l5, .slice y6 G.T.t.length l6, .slice y7 G.T.e.length l7, .slice y8 G.T.m.length l8, .slice y9 G.o.length l9, .slice y10 G.a.length l10], bxI D 67 [.int .i64 x.1, .int .i64 x.2.1, .int .i64 x.2.2], bxI E 67 [.int .i64 y.1, .int .i64 y.2.1, .int .i64 y.2.2], H])) ∨ (∃ pre, (pre.map (fun x : Int × Int => x)) <+: (paL F G x y) ∧ Mem w0 W' (Cx pre :: [bxI B 58 [.int .i64 F.S.ob, .slice x1 F.S.s.length k1, .slice x2 F.S.t.length k2, .slice x3 F.S.e.length k3, .slice x4 F.S.m.length k4, .int .i64 F.T.ob, .slice x5 F.T.s.length k5, .slice x6 F.T.t.length k6, .slice x7 F.T.e.length k7, .slice x8 F.T.m.length k8, .slice x9 F.o.length k9, .slice x10 F.a.length k10, .int .i64 G.S.ob, .slice y1 G.S.s.length l1, .slice y2 G.S.t.length l2, .slice y3 G.S.e.length l3, .slice y4 G.S.m.length l4, .int .i64 G.T.ob, .slice y5 G.T.s.length l5, .slice y6 G.T.t.length l6, .slice y7 G.T.e.length l7, .slice y8 G.T.m.length l8, .slice y9 G.o.length l9, .slice y10 G.a.length l10], bxI D 67 [.int .i64 x.1, .int .i64 x.2.1, .int .i64 x.2.2], bxI E 67 [.int .i64 y.1, .int .i64 y.2.1, .int .i64 y.2.2], H])))) := by
  have fS := (isCat_of hP.f.cs).toShapeP; have fT := (isCat_of hP.f.ct).toShapeP; have gS := (isCat_of hP.g.cs).toShapeP
  have fo := hP.f.lo; have fa := hP.f.la; have go := hP.g.lo; have ga := hP.g.la
  have s8 := fS.ob8; have s0 := fS.ob0; have g8 := gS.ob8; have g0 := gS.ob0; have n1 := fS.n40; have n2 := gS.n40; have n3 := fT.n40
  go_enter Tryz.func147, Tryz.ntmps147
  refine gc_enterM M (N := 55) rfl (look_cons (k := 0) rfl (look_cons (k := 1) rfl (look_cons (k := 2) rfl (look_cons (k := 3) rfl (look_nil _))))) ?_
  clear M
  refine gc_seq fun K1 hK1 => ?_
  refine gc_region ?_
  refine g_v (.free rfl) rfl rfl (qt_field (z := 11) (off := 0) rfl rfl Tryz.underlying58 rfl (by kernel_rfl) rfl) ?_
  refine g_v (.free rfl) rfl rfl (qt_field (z := 4) (off := 0) rfl rfl Tryz.underlying31 rfl (by kernel_rfl) rfl) ?_
  refine g_v (.free rfl) rfl rfl (qt_loadP (n := 1) (z := 5) rfl rfl Tryz.underlying29 rfl (by kernel_rfl) rfl (by first | decide | exact Nat.le_refl _ | simp)) ?_
  refine g_v (.free rfl) rfl rfl (qt_field (z := 0) (off := 0) rfl rfl Tryz.underlying67 rfl (by kernel_rfl) rfl) ?_
  refine g_v (.free rfl) rfl rfl (qt_loadB (n := 2) rfl rfl Tryz.underlying2 rfl rfl rfl) ?_
  refine g_v (.free rfl) rfl rfl (qt_field (z := 0) (off := 0) rfl rfl Tryz.underlying67 rfl (by kernel_rfl) rfl) ?_
  refine g_v (.free rfl) rfl rfl (qt_loadB (n := 3) rfl rfl Tryz.underlying2 rfl rfl rfl) ?_
  refine g_v (.free rfl) rfl rfl (qt_build rfl rfl bt_arrowEnds) ?_
  refine g_op (.free rfl) fun K3 hK3 => ?_
  refine go_callL rfl rfl rfl Tryz.func116 rfl (by decide) rfl (fun w M => arrowsBetween_any w _ _ _ _ ((hH _ 4 _ M rfl).FS) (by first | assumption | omega)) ?_
  intro va2 vc2
  refine hK3 _ _ ?_
  refine g_v (.free rfl) rfl rfl (qt_len rfl rfl ulE1 (fun w M => lenV_own1 (n := 5) rfl M)) ?_
  refine g_v (.free rfl) rfl rfl (qt_move rfl rfl) ?_
  refine g_nil ?_
  refine gk_then (hK1 _ _ ?_)
  refine gc_block ?_
  rw [show C [] = C (paI F G x y 0 0) by rw [paI_0]]
  try simp only [List.nil_append, List.cons_append, List.append_assoc, List.set_cons_succ, List.set_cons_zero]
  refine gc_loop ([(0, _), (1, _), (2, _), (3, _), (17, _), (18, _)] : Env) (fun s : Nat => (fun (i : Nat) => ([(19, .int .i64 (i : Int))] : Env)) s) (fun s : Nat => (fun (i : Nat) => ([(0, C (paI F G x y i 0))] : List (Nat × Itm))) s) (fun s : Nat => (fun (i : Nat) => i ≤ (homTo F.S x.1 y.1 F.S.s.length).length) s) (fun s : Nat => (fun (i : Nat) => (homTo F.S x.1 y.1 F.S.s.length).length - i) s) (0) (sub_cons rfl (sub_cons rfl (sub_cons rfl (sub_cons rfl (sub_cons rfl (sub_cons rfl (sub_cons rfl sub_nil))))))) rfl (Nat.zero_le _) ?_
  rintro i hinv KL4 hKL4
  simp only [updL, List.foldl_cons, List.foldl_nil, List.set_cons_succ, List.set_cons_zero, List.cons_append, List.nil_append] at hinv hKL4 ⊢
  have hi := hinv
  have hul := homTo_len F.S x.1 y.1 F.S.s.length
  refine gc_seq fun K5 hK5 => ?_
  refine gc_region ?_
  refine g_v (.free rfl) rfl rfl (qt_lss rfl rfl rfl) ?_
  refine g_nil ?_
  refine gk_then (hK5 _ _ ?_)
  refine gc_seq fun K6 hK6 => ?_
  refine gc_cond rfl (fun hc0 => ?_) (fun hc0 => ?_)
  · try simp only [decide_eq_true_eq, decide_eq_false_iff_not, Bool.not_eq_true', Bool.not_eq_false', Bool.not_eq_eq_eq_not, Bool.not_true, Bool.not_false, ne_eq, Decidable.not_not, Classical.not_not] at hc0
    refine gc_skip ?_
    refine gk_then (hK6 _ _ ?_)
    refine gc_seq fun K7 hK7 => ?_
    refine gc_block ?_
    refine gc_seq fun K8 hK8 => ?_
    refine gc_region ?_
    refine g_v (.free rfl) rfl rfl (qt_index rfl rfl rfl ulE1 szE1 (fun w M => lenA_own1 (n := 5) rfl M) (by omega) (by omega)) ?_
    refine g_v (.free rfl) rfl rfl (qt_load1 rfl rfl Tryz.underlying2 rfl (fun w M => (mem_own1 (n := 5) M rfl).rd) (by omega) (by omega)) ?_
    refine g_v (.free rfl) rfl rfl (qt_assign rfl rfl) ?_
    refine g_nil ?_
    refine gk_then (hK8 _ _ ?_)
    refine gc_seq fun K9 hK9 => ?_
    refine gc_region ?_
    refine g_v (.free rfl) rfl rfl (qt_field (z := 11) (off := 12) rfl rfl Tryz.underlying58 rfl (by kernel_rfl) rfl) ?_
    refine g_v (.free rfl) rfl rfl (qt_field (z := 4) (off := 0) rfl rfl Tryz.underlying31 rfl (by kernel_rfl) rfl) ?_
    refine g_v (.free rfl) rfl rfl (qt_loadP (n := 1) (z := 5) rfl rfl Tryz.underlying29 rfl (by kernel_rfl) rfl (by first | decide | exact Nat.le_refl _ | simp)) ?_
    refine g_v (.free rfl) rfl rfl (qt_field (z := 0) (off := 1) rfl rfl Tryz.underlying67 rfl (by kernel_rfl) rfl) ?_
    refine g_v (.free rfl) rfl rfl (qt_loadB (n := 2) rfl rfl Tryz.underlying2 rfl rfl rfl) ?_
    refine g_v (.free rfl) rfl rfl (qt_field (z := 0) (off := 1) rfl rfl Tryz.underlying67 rfl (by kernel_rfl) rfl) ?_
    refine g_v (.free rfl) rfl rfl (qt_loadB (n := 3) rfl rfl Tryz.underlying2 rfl rfl rfl) ?_
    refine g_v (.free rfl) rfl rfl (qt_build rfl rfl bt_arrowEnds) ?_
    refine g_op (.free rfl) fun K11 hK11 => ?_
    refine go_callL rfl rfl rfl Tryz.func116 rfl (by decide) rfl (fun w M => arrowsBetween_any w _ _ _ _ ((hH _ 4 _ M rfl).GS) (by first | assumption | omega)) ?_
    intro va10 vc10
    refine hK11 _ _ ?_
    refine g_v (.free rfl) rfl rfl (qt_len rfl rfl ulE1 (fun w M => lenV_own1 (n := 6) rfl M)) ?_
    refine g_v (.free rfl) rfl rfl (qt_move rfl rfl) ?_
    refine g_nil ?_
    refine gk_then (hK9 _ _ ?_)
    refine gc_block ?_
    try simp only [List.nil_append, List.cons_append, List.append_assoc, List.set_cons_succ, List.set_cons_zero]
    refine gc_loop ([(0, _), (1, _), (2, _), (3, _), (6, _), (17, _), (18, _), (19, _), (20, _), (31, _), (32, _)] : Env) (fun s : Nat => (fun (j : Nat) => ([(33, .int .i64 (j : Int))] : Env)) s) (fun s : Nat => (fun (j : Nat) => ([(0, C (paI F G x y i j))] : List (Nat × Itm))) s) (fun s : Nat => (fun (j : Nat) => j ≤ (homTo G.S x.2.1 y.2.1 G.S.s.length).length) s) (fun s : Nat => (fun (j : Nat) => (homTo G.S x.2.1 y.2.1 G.S.s.length).length - j) s) (0) (sub_cons rfl (sub_cons rfl (sub_cons rfl (sub_cons rfl (sub_cons rfl (sub_cons rfl (sub_cons rfl (sub_cons rfl (sub_cons rfl (sub_cons rfl (sub_cons rfl (sub_cons rfl sub_nil)))))))))))) rfl (Nat.zero_le _) ?_
    rintro j hinv KL12 hKL12
    simp only [updL, List.foldl_cons, List.foldl_nil, List.set_cons_succ, List.set_cons_zero, List.cons_append, List.nil_append] at hinv hKL12 ⊢
    have hj := hinv
    have hvl := homTo_len G.S x.2.1 y.2.1 G.S.s.length
    refine gc_seq fun K13 hK13 => ?_
    refine gc_region ?_
    refine g_v (.free rfl) rfl rfl (qt_lss rfl rfl rfl) ?_
    refine g_nil ?_
    refine gk_then (hK13 _ _ ?_)
    refine gc_seq fun K14 hK14 => ?_
    refine gc_cond rfl (fun hc1 => ?_) (fun hc1 => ?_)
    · try simp only [decide_eq_true_eq, decide_eq_false_iff_not, Bool.not_eq_true', Bool.not_eq_false', Bool.not_eq_eq_eq_not, Bool.not_true, Bool.not_false, ne_eq, Decidable.not_not, Classical.not_not] at hc1
      refine gc_skip ?_
      refine gk_then (hK14 _ _ ?_)
      refine gc_seq fun K15 hK15 => ?_
      refine gc_block ?_
      refine gc_seq fun K16 hK16 => ?_
      refine gc_region ?_
      refine g_v (.free rfl) rfl rfl (qt_index rfl rfl rfl ulE1 szE1 (fun w M => lenA_own1 (n := 6) rfl M) (by omega) (by omega)) ?_
      refine g_v (.free rfl) rfl rfl (qt_load1 rfl rfl Tryz.underlying2 rfl (fun w M => (mem_own1 (n := 6) M rfl).rd) (by omega) (by omega)) ?_
      refine g_v (.free rfl) rfl rfl (qt_assign rfl rfl) ?_
      refine g_nil ?_
      refine gk_then (hK16 _ _ ?_)
      refine gc_seq fun K17 hK17 => ?_
      have hUu := homTo_at (c := F.S) (x := x.1) (y := y.1) (n := F.S.s.length) (k := i) (by omega)
      have hVv := homTo_at (c := G.S) (x := x.2.1) (y := y.2.1) (n := G.S.s.length) (k := j) (by omega)
      refine gc_region ?_
      refine g_v (.free rfl) rfl rfl (qt_loadS (n := 1) rfl rfl Tryz.underlying58 rfl (by kernel_rfl) rfl) ?_
      refine g_v (.free rfl) rfl rfl (qt_field (z := 0) (off := 2) rfl rfl Tryz.underlying67 rfl (by kernel_rfl) rfl) ?_
      refine g_v (.free rfl) rfl rfl (qt_loadB (n := 2) rfl rfl Tryz.underlying2 rfl rfl rfl) ?_
      refine g_v (.free rfl) rfl rfl (qt_field (z := 0) (off := 2) rfl rfl Tryz.underlying67 rfl (by kernel_rfl) rfl) ?_
      refine g_v (.free rfl) rfl rfl (qt_loadB (n := 3) rfl rfl Tryz.underlying2 rfl rfl rfl) ?_
      refine g_v (.free rfl) rfl rfl (qt_move rfl rfl) ?_
      refine g_v (.free rfl) rfl rfl (qt_move rfl rfl) ?_
      refine g_q (.free rfl) rfl rfl (qt_call rfl Tryz.func148 rfl (by decide) rfl (fun w M => commutes_any w F G (hH _ 4 _ M rfl) hP x.2.2 y.2.2 (at0 (homTo F.S x.1 y.1 F.S.s.length) (i : Int)) (at0 (homTo G.S x.2.1 y.2.1 G.S.s.length) (j : Int)) hx0 hx1 hy0 hy1 hUu.1 hUu.2.1 hVv.1 hVv.2.1)) ?_
      refine g_splitv (.free rfl) rfl rfl (qt_move rfl rfl) (fun hs6_8 => ?_) (fun hs6_8 => ?_)
      · try simp only [decide_eq_true_eq, decide_eq_false_iff_not, Bool.not_eq_true', Bool.not_eq_false', Bool.not_eq_eq_eq_not, Bool.not_true, Bool.not_false, ne_eq, Decidable.not_not, Classical.not_not] at hs6_8
        refine g_v (.held _ _ _ rfl rfl rfl) rfl rfl (qt_move rfl rfl) ?_
        refine g_v (.held _ _ _ rfl rfl rfl) rfl rfl (qt_move rfl rfl) ?_
        refine g_v (.held _ _ _ rfl rfl rfl) rfl rfl (qt_move rfl rfl) ?_
        refine g_v (.held _ _ _ rfl rfl rfl) rfl rfl (qt_build rfl rfl bt_arrowPair) ?_
        refine g_yield ((at0 (homTo F.S x.1 y.1 F.S.s.length) (i : Int), at0 (homTo G.S x.2.1 y.2.1 G.S.s.length) (j : Int)) : Int × Int) (.held _ _ _ rfl rfl rfl) rfl rfl rfl rfl rfl Y (by rw [cm_mapid, paI_t (by omega) hs6_8]; exact paI_pre (by omega)) (List.Perm.refl _) ?_ ?_
        · skip
          refine g_v (.held _ _ _ rfl rfl rfl) rfl rfl (qt_not rfl rfl) ?_
          refine g_v (.free rfl) rfl rfl (qt_pick_t rfl rfl rfl) ?_
          refine g_nil ?_
          refine gk_then (hK17 _ _ ?_)
          refine gc_cond_f rfl ?_
          refine gc_skip ?_
          refine gk_block ?_
          refine gk_then (hK15 _ _ ?_)
          refine gc_region ?_
          refine g_v (.free rfl) rfl rfl (qt_add rfl rfl rfl (by omega)) ?_
          refine g_v (.free rfl) rfl rfl (qt_move rfl rfl) ?_
          refine g_nil ?_
          first | rw [paI_t (by omega) hs6_8] | rw [paI_f (j := j) (by omega) hs6_8]
          refine gk_then (gk_take 7 ?_)
          refine gk_sub ?hs_18 (hKL12 (j + 1) ?hi_18 ?hm_18)
          case hs_18 => exact (sub_cons rfl (sub_cons rfl (sub_cons rfl (sub_cons rfl (sub_cons rfl (sub_cons rfl (sub_cons rfl (sub_cons rfl (sub_cons rfl (sub_cons rfl (sub_cons rfl (sub_cons rfl sub_nil))))))))))))
          case hi_18 => omega
          case hm_18 => omega
        · skip
          refine g_v (.held _ _ _ rfl rfl rfl) rfl rfl (qt_not rfl rfl) ?_
          refine g_v (.free rfl) rfl rfl (qt_pick_t rfl rfl rfl) ?_
          refine g_nil ?_
          refine gk_then (hK17 _ _ ?_)
          refine gc_cond_t rfl ?_
          refine gc_ret ?_
          refine gk_block_ret ?_
          refine gk_then_ret ?_
          refine gk_then_ret ?_
          refine gk_block_ret ?_
          refine gk_block_ret ?_
          refine gk_then_ret ?_
          refine gk_then_ret ?_
          refine gk_block_ret ?_
          refine ret_0 rfl (fun w M => ?_)
          exact ⟨⟨_, rfl⟩, .inr ⟨_, by rw [cm_mapid, paI_t (by omega) hs6_8]; exact paI_pre (by omega), mem_take 5 M⟩⟩
      · try simp only [decide_eq_true_eq, decide_eq_false_iff_not, Bool.not_eq_true', Bool.not_eq_false', Bool.not_eq_eq_eq_not, Bool.not_true, Bool.not_false, ne_eq, Decidable.not_not, Classical.not_not] at hs6_8
        refine g_skip (.not _ _ _ _ rfl rfl rfl rfl) rfl rfl ?_
        refine g_skip (.not _ _ _ _ rfl rfl rfl rfl) rfl rfl ?_
        refine g_skip (.not _ _ _ _ rfl rfl rfl rfl) rfl rfl ?_
        refine g_skip (.not _ _ _ _ rfl rfl rfl rfl) rfl rfl ?_
        refine g_skip (.not _ _ _ _ rfl rfl rfl rfl) rfl rfl ?_
        refine g_skip (.not _ _ _ _ rfl rfl rfl rfl) rfl rfl ?_
        refine g_v (.free rfl) rfl rfl (qt_pick_f rfl rfl rfl) ?_
        refine g_nil ?_
        refine gk_then (hK17 _ _ ?_)
        refine gc_cond_f rfl ?_
        refine gc_skip ?_
        refine gk_block ?_
        refine gk_then (hK15 _ _ ?_)
        refine gc_region ?_
        refine g_v (.free rfl) rfl rfl (qt_add rfl rfl rfl (by omega)) ?_
        refine g_v (.free rfl) rfl rfl (qt_move rfl rfl) ?_
        refine g_nil ?_
        first | rw [paI_t (by omega) hs6_8] | rw [paI_f (j := j) (by omega) hs6_8]
        refine gk_then (gk_take 7 ?_)
        refine gk_sub ?hs_19 (hKL12 (j + 1) ?hi_19 ?hm_19)
        case hs_19 => exact (sub_cons rfl (sub_cons rfl (sub_cons rfl (sub_cons rfl (sub_cons rfl (sub_cons rfl (sub_cons rfl (sub_cons rfl (sub_cons rfl (sub_cons rfl (sub_cons rfl (sub_cons rfl sub_nil))))))))))))
        case hi_19 => omega
        case hm_19 => omega
    · try simp only [decide_eq_true_eq, decide_eq_false_iff_not, Bool.not_eq_true', Bool.not_eq_false', Bool.not_eq_eq_eq_not, Bool.not_true, Bool.not_false, ne_eq, Decidable.not_not, Classical.not_not] at hc1
      refine gc_exit ?_
      refine gk_then_exit ?_
      refine gk_then_exit ?_
      refine gk_block_hit ?_
      refine gk_block ?_
      refine gk_then (hK7 _ _ ?_)
      refine gc_region ?_
      refine g_v (.free rfl) rfl rfl (qt_add rfl rfl rfl (by omega)) ?_
      refine g_v (.free rfl) rfl rfl (qt_move rfl rfl) ?_
      refine g_nil ?_
      obtain rfl : j = (homTo G.S x.2.1 y.2.1 G.S.s.length).length := by omega
      rw [paI_i (by omega)]
      refine gk_then (gk_take 6 ?_)
      refine gk_sub ?hs_20 (hKL4 (i + 1) ?hi_20 ?hm_20)
      case hs_20 => exact (sub_cons rfl (sub_cons rfl (sub_cons rfl (sub_cons rfl (sub_cons rfl (sub_cons rfl (sub_cons rfl sub_nil)))))))
      case hi_20 => omega
      case hm_20 => omega
  · try simp only [decide_eq_true_eq, decide_eq_false_iff_not, Bool.not_eq_true', Bool.not_eq_false', Bool.not_eq_eq_eq_not, Bool.not_true, Bool.not_false, ne_eq, Decidable.not_not, Classical.not_not] at hc0
    refine gc_exit ?_
    refine gk_then_exit ?_
    refine gk_then_exit ?_
    refine gk_block_hit ?_
    refine ret_0n rfl (fun w M => ?_)
    obtain rfl : i = (homTo F.S x.1 y.1 F.S.s.length).length := by omega
    rw [paI_end] at M
    exact ⟨⟨_, rfl⟩, .inl ⟨paL F G x y, cm_mapid _, mem_take 5 M⟩⟩
theorem parts_seq {w0 : World} {B D E : Nat} {x1 x2 x3 x4 x5 x6 x7 x8 x9 x10 y1 y2 y3 y4 y5 y6 y7 y8 y9 y10 : Option Addr} {k1 k2 k3 k4 k5 k6 k7 k8 k9 k10 l1 l2 l3 l4 l5 l6 l7 l8 l9 l10 : Nat} {F G : Fct} {H : Itm} (hH : HoldC w0 H F G x1 x2 x3 x4 x5 x6 x7 x8 x9 x10 y1 y2 y3 y4 y5 y6 y7 y8 y9 y10 k1 k2 k3 k4 k5 k6 k7 k8 k9 k10 l1 l2 l3 l4 l5 l6 l7 l8 l9 l10) (hP : CspP F G) {x y : Ent Int} (hx0 : 0 ≤ x.2.2) (hx1 : x.2.2 < F.T.s.length) (hy0 : 0 ≤ y.2.2) (hy1 : y.2.2 < F.T.s.length) : SeqC w0 [bxI B 58 [.int .i64 F.S.ob, .slice x1 F.S.s.length k1, .slice x2 F.S.t.length k2, .slice x3 F.S.e.length k3, .slice x4 F.S.m.length k4, .int .i64 F.T.ob, .slice x5 F.T.s.length k5, .slice x6 F.T.t.length k6, .slice x7 F.T.e.length k7, .slice x8 F.T.m.length k8, .slice x9 F.o.length k9, .slice x10 F.a.length k10, .int .i64 G.S.ob, .slice y1 G.S.s.length l1, .slice y2 G.S.t.length l2, .slice y3 G.S.e.length l3, .slice y4 G.S.m.length l4, .int .i64 G.T.ob, .slice y5 G.T.s.length l5, .slice y6 G.T.t.length l6, .slice y7 G.T.e.length l7, .slice y8 G.T.m.length l8, .slice y9 G.o.length l9, .slice y10 G.a.length l10], bxI D 67 [.int .i64 x.1, .int .i64 x.2.1, .int .i64 x.2.2], bxI E 67 [.int .i64 y.1, .int .i64 y.2.1, .int .i64 y.2.2], H] 147 [.pointer (some ⟨B, 0, none⟩), .pointer (some ⟨D, 0, none⟩), .pointer (some ⟨E, 0, none⟩)] (fun p : Int × Int => Value.agg #[.int .i64 p.1, .int .i64 p.2]) (fun _ : Int × Int => ([] : List Itm)) (fun x : Int × Int => x) (paL F G x y) := fun C Cx l Y W M => parts_run w0 W C Cx l B D E F G H hH hP x y hx0 hx1 hy0 hy1 Y M
set_option maxHeartbeats 1000000 in
set_option maxRecDepth 100000 in
theorem partsB_any (w : World) {x1 x2 x3 x4 x5 x6 x7 x8 x9 x10 y1 y2 y3 y4 y5 y6 y7 y8 y9 y10 : Option Addr} {k1 k2 k3 k4 k5 k6 k7 k8 k9 k10 l1 l2 l3 l4 l5 l6 l7 l8 l9 l10 : Nat} (F G : Fct) (hC : CspR w F G x1 x2 x3 x4 x5 x6 x7 x8 x9 x10 y1 y2 y3 y4 y5 y6 y7 y8 y9 y10 k1 k2 k3 k4 k5 k6 k7 k8 k9 k10 l1 l2 l3 l4 l5 l6 l7 l8 l9 l10) (x y : Ent Int) :
    Calls Tryz.prog 118 #[.agg #[.int .i64 F.S.ob, .slice x1 F.S.s.length k1, .slice x2 F.S.t.length k2, .slice x3 F.S.e.length k3, .slice x4 F.S.m.length k4, .int .i64 F.T.ob, .slice x5 F.T.s.length k5, .slice x6 F.T.t.length k6, .slice x7 F.T.e.length k7, .slice x8 F.T.m.length k8, .slice x9 F.o.length k9, .slice x10 F.a.length k10, .int .i64 G.S.ob, .slice y1 G.S.s.length l1, .slice y2 G.S.t.length l2, .slice y3 G.S.e.length l3, .slice y4 G.S.m.length l4, .int .i64 G.T.ob, .slice y5 G.T.s.length l5, .slice y6 G.T.t.length l6, .slice y7 G.T.e.length l7, .slice y8 G.T.m.length l8, .slice y9 G.o.length l9, .slice y10 G.a.length l10], .agg #[.int .i64 x.1, .int .i64 x.2.1, .int .i64 x.2.2], .agg #[.int .i64 y.1, .int .i64 y.2.1, .int .i64 y.2.2]] w (RetCl3 w 147 58 [.int .i64 F.S.ob, .slice x1 F.S.s.length k1, .slice x2 F.S.t.length k2, .slice x3 F.S.e.length k3, .slice x4 F.S.m.length k4, .int .i64 F.T.ob, .slice x5 F.T.s.length k5, .slice x6 F.T.t.length k6, .slice x7 F.T.e.length k7, .slice x8 F.T.m.length k8, .slice x9 F.o.length k9, .slice x10 F.a.length k10, .int .i64 G.S.ob, .slice y1 G.S.s.length l1, .slice y2 G.S.t.length l2, .slice y3 G.S.e.length l3, .slice y4 G.S.m.length l4, .int .i64 G.T.ob, .slice y5 G.T.s.length l5, .slice y6 G.T.t.length l6, .slice y7 G.T.e.length l7, .slice y8 G.T.m.length l8, .slice y9 G.o.length l9, .slice y10 G.a.length l10] 67 [.int .i64 x.1, .int .i64 x.2.1, .int .i64 x.2.2] 67 [.int .i64 y.1, .int .i64 y.2.1, .int .i64 y.2.2]) := by
  go_enter Tryz.func118, Tryz.ntmps118
  refine gc_enter (N := 8) rfl (look_cons (k := 0) rfl (look_cons (k := 1) rfl (look_cons (k := 2) rfl (look_nil _)))) ?_
  refine gc_seq fun K1 hK1 => ?_
  refine gc_region ?_
  refine g_op (.free rfl) fun K3 hK3 => ?_
  refine go_box rfl rfl rfl rfl rfl ?_
  intro B2
  refine hK3 _ _ ?_
  refine g_op (.free rfl) fun K5 hK5 => ?_
  refine go_box rfl rfl rfl rfl rfl ?_
  intro B4
  refine hK5 _ _ ?_
  refine g_op (.free rfl) fun K7 hK7 => ?_
  refine go_box rfl rfl rfl rfl rfl ?_
  intro B6
  refine hK7 _ _ ?_
  refine g_v (.free rfl) rfl rfl (qt_assign rfl rfl) ?_
  refine g_nil ?_
  refine gk_then (hK1 _ _ ?_)
  refine gc_seq fun K8 hK8 => ?_
  refine gc_region ?_
  refine g_v (.free rfl) rfl rfl (qt_makeF rfl rfl) ?_
  refine g_v (.free rfl) rfl rfl (qt_assign rfl rfl) ?_
  refine g_nil ?_
  refine gk_then (hK8 _ _ ?_)
  refine gc_ret ?_
  refine ret_1 rfl rfl  (fun w M => ?_)
  exact ⟨_, _, _, rfl, M.2, M.1⟩
end Go.Proofs.YtpcabkdkdnchaaaGreat
