import Derived.Test.YtpcabkdkdnchaaaGreatZ14
import Derived.Test.YtpcabkdkdnchaaaGreatZ15
import Derived.Test.YtpcabkdkdnchaaaGreatZ16
import Derived.Test.YtpcabkdkdnchaaaGreatZ9
set_option linter.unusedSimpArgs false
set_option linter.unusedVariables false
set_option linter.unusedSectionVars false
namespace Go.Proofs.YtpcabkdkdnchaaaGreat
open Go.RowKit
noncomputable def lab_co : Lab0 Int where
  z := 1
  lc l := [Value.int .i64 l]
  tE := 67
  tS := 59
  bts := 24
  zc := .agg #[.int .i64 0, .int .i64 0, .int .i64 0]
  td := match Tryz.prog.underlying 67 with | some t => t | none => .bool
  len _ := rfl
  one _ := rfl
  inf := by kernel_rfl
  zl := rfl
  cap := 4000000000000
  hc1 := by decide
  hc2 := by decide
  hcb := by decide
  hz := by decide
  ud := by kernel_rfl
  row := by kernel_rfl
  ul := by kernel_rfl
  el := by kernel_rfl
noncomputable def lab_ca : Lab0 (Int × Int) where
  z := 2
  lc l := [Value.int .i64 l.1, Value.int .i64 l.2]
  tE := 74
  tS := 60
  bts := 32
  zc := .agg #[.int .i64 0, .int .i64 0, .int .i64 0, .int .i64 0]
  td := match Tryz.prog.underlying 74 with | some t => t | none => .bool
  len _ := rfl
  one _ := rfl
  inf := by kernel_rfl
  zl := rfl
  cap := 4000000000000
  hc1 := by decide
  hc2 := by decide
  hcb := by decide
  hz := by decide
  ud := by kernel_rfl
  row := by kernel_rfl
  ul := by kernel_rfl
  el := by kernel_rfl
theorem bt_commaObject {a b c : Int} : Tryz.prog.built 67 [(0, .int .i64 a), (1, .int .i64 b), (2, .int .i64 c)] = some #[.int .i64 a, .int .i64 b, .int .i64 c] := by kernel_rfl
theorem bt_commaArrow {a b c d : Int} : Tryz.prog.built 74 [(0, .agg #[.int .i64 a, .int .i64 b]), (1, .int .i64 c), (2, .int .i64 d)] = some #[.int .i64 a, .int .i64 b, .int .i64 c, .int .i64 d] := by kernel_rfl
theorem bt_cospan {o1 o2 p1 p2 : Int} {x1 x2 x3 x4 x5 x6 x7 x8 x9 x10 y1 y2 y3 y4 y5 y6 y7 y8 y9 y10 : Option Addr} {n1 n2 n3 n4 n5 n6 n7 n8 n9 n10 j1 j2 j3 j4 j5 j6 j7 j8 j9 j10 k1 k2 k3 k4 k5 k6 k7 k8 k9 k10 l1 l2 l3 l4 l5 l6 l7 l8 l9 l10 : Nat} : Tryz.prog.built 58 [(0, .agg #[.int .i64 o1, .slice x1 n1 k1, .slice x2 n2 k2, .slice x3 n3 k3, .slice x4 n4 k4, .int .i64 o2, .slice x5 n5 k5, .slice x6 n6 k6, .slice x7 n7 k7, .slice x8 n8 k8, .slice x9 n9 k9, .slice x10 n10 k10]), (1, .agg #[.int .i64 p1, .slice y1 j1 l1, .slice y2 j2 l2, .slice y3 j3 l3, .slice y4 j4 l4, .int .i64 p2, .slice y5 j5 l5, .slice y6 j6 l6, .slice y7 j7 l7, .slice y8 j8 l8, .slice y9 j9 l9, .slice y10 j10 l10])] = some #[.int .i64 o1, .slice x1 n1 k1, .slice x2 n2 k2, .slice x3 n3 k3, .slice x4 n4 k4, .int .i64 o2, .slice x5 n5 k5, .slice x6 n6 k6, .slice x7 n7 k7, .slice x8 n8 k8, .slice x9 n9 k9, .slice x10 n10 k10, .int .i64 p1, .slice y1 j1 l1, .slice y2 j2 l2, .slice y3 j3 l3, .slice y4 j4 l4, .int .i64 p2, .slice y5 j5 l5, .slice y6 j6 l6, .slice y7 j7 l7, .slice y8 j8 l8, .slice y9 j9 l9, .slice y10 j10 l10] := by kernel_rfl
theorem bt0_cospan : Tryz.prog.built 58 [] = some #[.int .i64 0, .slice none 0 0, .slice none 0 0, .slice none 0 0, .slice none 0 0, .int .i64 0, .slice none 0 0, .slice none 0 0, .slice none 0 0, .slice none 0 0, .slice none 0 0, .slice none 0 0, .int .i64 0, .slice none 0 0, .slice none 0 0, .slice none 0 0, .slice none 0 0, .int .i64 0, .slice none 0 0, .slice none 0 0, .slice none 0 0, .slice none 0 0, .slice none 0 0, .slice none 0 0] := by kernel_rfl
theorem bt_commaSpace {o1 o2 p1 p2 q1 : Int} {x1 x2 x3 x4 x5 x6 x7 x8 x9 x10 y1 y2 y3 y4 y5 y6 y7 y8 y9 y10 z1 z2 z3 z4 oa ra : Option Addr} {n1 n2 n3 n4 n5 n6 n7 n8 n9 n10 j1 j2 j3 j4 j5 j6 j7 j8 j9 j10 h1 h2 h3 h4 k1 k2 k3 k4 k5 k6 k7 k8 k9 k10 l1 l2 l3 l4 l5 l6 l7 l8 l9 l10 m1 m2 m3 m4 on oq rn rq : Nat} : Tryz.prog.built 62 [(0, .agg #[.int .i64 o1, .slice x1 n1 k1, .slice x2 n2 k2, .slice x3 n3 k3, .slice x4 n4 k4, .int .i64 o2, .slice x5 n5 k5, .slice x6 n6 k6, .slice x7 n7 k7, .slice x8 n8 k8, .slice x9 n9 k9, .slice x10 n10 k10, .int .i64 p1, .slice y1 j1 l1, .slice y2 j2 l2, .slice y3 j3 l3, .slice y4 j4 l4, .int .i64 p2, .slice y5 j5 l5, .slice y6 j6 l6, .slice y7 j7 l7, .slice y8 j8 l8, .slice y9 j9 l9, .slice y10 j10 l10]), (1, .agg #[.int .i64 q1, .slice z1 h1 m1, .slice z2 h2 m2, .slice z3 h3 m3, .slice z4 h4 m4]), (2, .slice oa on oq), (3, .slice ra rn rq)] = some #[.int .i64 o1, .slice x1 n1 k1, .slice x2 n2 k2, .slice x3 n3 k3, .slice x4 n4 k4, .int .i64 o2, .slice x5 n5 k5, .slice x6 n6 k6, .slice x7 n7 k7, .slice x8 n8 k8, .slice x9 n9 k9, .slice x10 n10 k10, .int .i64 p1, .slice y1 j1 l1, .slice y2 j2 l2, .slice y3 j3 l3, .slice y4 j4 l4, .int .i64 p2, .slice y5 j5 l5, .slice y6 j6 l6, .slice y7 j7 l7, .slice y8 j8 l8, .slice y9 j9 l9, .slice y10 j10 l10, .int .i64 q1, .slice z1 h1 m1, .slice z2 h2 m2, .slice z3 h3 m3, .slice z4 h4 m4, .slice oa on oq, .slice ra rn rq] := by kernel_rfl
theorem bt0_commaSpace : Tryz.prog.built 62 [] = some #[.int .i64 0, .slice none 0 0, .slice none 0 0, .slice none 0 0, .slice none 0 0, .int .i64 0, .slice none 0 0, .slice none 0 0, .slice none 0 0, .slice none 0 0, .slice none 0 0, .slice none 0 0, .int .i64 0, .slice none 0 0, .slice none 0 0, .slice none 0 0, .slice none 0 0, .int .i64 0, .slice none 0 0, .slice none 0 0, .slice none 0 0, .slice none 0 0, .slice none 0 0, .slice none 0 0, .int .i64 0, .slice none 0 0, .slice none 0 0, .slice none 0 0, .slice none 0 0, .slice none 0 0, .slice none 0 0] := by kernel_rfl
def cpkI (B : List Itm) : Itm := consI (fun _ : Unit => B) (fun _ => True)
theorem cpk_in {w0 w : World} {B js : List Itm} (M : Mem w0 w (B ++ js)) : Mem w0 w (cpkI B :: js) := mem_cons_in () trivial M
theorem cpk_out {w0 w : World} {B js : List Itm} (M : Mem w0 w (cpkI B :: js)) : Mem w0 w (B ++ js) := by obtain ⟨_, _, M⟩ := mem_cons_out M; exact M
theorem cm_parts {w : World} {F : Fct} {s1 s2 s3 s4 t1 t2 t3 t4 vo va : Value} (h : RdF w (.agg #[.int .i64 F.S.ob, s1, s2, s3, s4, .int .i64 F.T.ob, t1, t2, t3, t4, vo, va]) F) : RdC w (.agg #[.int .i64 F.S.ob, s1, s2, s3, s4]) F.S ∧ RdC w (.agg #[.int .i64 F.T.ob, t1, t2, t3, t4]) F.T ∧ Rd w vo F.o ∧ Rd w va F.a ∧ Rd w s3 F.S.e := by
  obtain ⟨y1, y2, y3, y4, y5, y6, y7, y8, y9, y10, hv, h1, h2, h3, h4⟩ := h
  obtain ⟨rfl, rfl, rfl, rfl, rfl, rfl, rfl, rfl, rfl, rfl⟩ := agg12 hv
  exact ⟨⟨_, _, _, _, rfl, h1⟩, ⟨_, _, _, _, rfl, h2⟩, h3, h4, h1.2.2.1⟩
structure CspR (w : World) (F G : Fct) (x1 x2 x3 x4 x5 x6 x7 x8 x9 x10 y1 y2 y3 y4 y5 y6 y7 y8 y9 y10 : Option Addr) (k1 k2 k3 k4 k5 k6 k7 k8 k9 k10 l1 l2 l3 l4 l5 l6 l7 l8 l9 l10 : Nat) : Prop where
  hF : RdF w (.agg #[.int .i64 F.S.ob, .slice x1 F.S.s.length k1, .slice x2 F.S.t.length k2, .slice x3 F.S.e.length k3, .slice x4 F.S.m.length k4, .int .i64 F.T.ob, .slice x5 F.T.s.length k5, .slice x6 F.T.t.length k6, .slice x7 F.T.e.length k7, .slice x8 F.T.m.length k8, .slice x9 F.o.length k9, .slice x10 F.a.length k10]) F
  hG : RdF w (.agg #[.int .i64 G.S.ob, .slice y1 G.S.s.length l1, .slice y2 G.S.t.length l2, .slice y3 G.S.e.length l3, .slice y4 G.S.m.length l4, .int .i64 G.T.ob, .slice y5 G.T.s.length l5, .slice y6 G.T.t.length l6, .slice y7 G.T.e.length l7, .slice y8 G.T.m.length l8, .slice y9 G.o.length l9, .slice y10 G.a.length l10]) G
  FS : RdC w (.agg #[.int .i64 F.S.ob, .slice x1 F.S.s.length k1, .slice x2 F.S.t.length k2, .slice x3 F.S.e.length k3, .slice x4 F.S.m.length k4]) F.S
  FT : RdC w (.agg #[.int .i64 F.T.ob, .slice x5 F.T.s.length k5, .slice x6 F.T.t.length k6, .slice x7 F.T.e.length k7, .slice x8 F.T.m.length k8]) F.T
  Fo : Rd w (.slice x9 F.o.length k9) F.o
  Fa : Rd w (.slice x10 F.a.length k10) F.a
  FSe : Rd w (.slice x3 F.S.e.length k3) F.S.e
  GS : RdC w (.agg #[.int .i64 G.S.ob, .slice y1 G.S.s.length l1, .slice y2 G.S.t.length l2, .slice y3 G.S.e.length l3, .slice y4 G.S.m.length l4]) G.S
  GT : RdC w (.agg #[.int .i64 G.T.ob, .slice y5 G.T.s.length l5, .slice y6 G.T.t.length l6, .slice y7 G.T.e.length l7, .slice y8 G.T.m.length l8]) G.T
  Go : Rd w (.slice y9 G.o.length l9) G.o
  Ga : Rd w (.slice y10 G.a.length l10) G.a
  GSe : Rd w (.slice y3 G.S.e.length l3) G.S.e
theorem csp_mk {w : World} {F G : Fct} {x1 x2 x3 x4 x5 x6 x7 x8 x9 x10 y1 y2 y3 y4 y5 y6 y7 y8 y9 y10 : Option Addr} {k1 k2 k3 k4 k5 k6 k7 k8 k9 k10 l1 l2 l3 l4 l5 l6 l7 l8 l9 l10 : Nat} (h : RdF w (.agg #[.int .i64 F.S.ob, .slice x1 F.S.s.length k1, .slice x2 F.S.t.length k2, .slice x3 F.S.e.length k3, .slice x4 F.S.m.length k4, .int .i64 F.T.ob, .slice x5 F.T.s.length k5, .slice x6 F.T.t.length k6, .slice x7 F.T.e.length k7, .slice x8 F.T.m.length k8, .slice x9 F.o.length k9, .slice x10 F.a.length k10]) F) (h' : RdF w (.agg #[.int .i64 G.S.ob, .slice y1 G.S.s.length l1, .slice y2 G.S.t.length l2, .slice y3 G.S.e.length l3, .slice y4 G.S.m.length l4, .int .i64 G.T.ob, .slice y5 G.T.s.length l5, .slice y6 G.T.t.length l6, .slice y7 G.T.e.length l7, .slice y8 G.T.m.length l8, .slice y9 G.o.length l9, .slice y10 G.a.length l10]) G) : CspR w F G x1 x2 x3 x4 x5 x6 x7 x8 x9 x10 y1 y2 y3 y4 y5 y6 y7 y8 y9 y10 k1 k2 k3 k4 k5 k6 k7 k8 k9 k10 l1 l2 l3 l4 l5 l6 l7 l8 l9 l10 := by
  have p := cm_parts h; have q := cm_parts h'
  exact ⟨h, h', p.1, p.2.1, p.2.2.1, p.2.2.2.1, p.2.2.2.2, q.1, q.2.1, q.2.2.1, q.2.2.2.1, q.2.2.2.2⟩
theorem csp_below {w w' : World} {F G : Fct} {x1 x2 x3 x4 x5 x6 x7 x8 x9 x10 y1 y2 y3 y4 y5 y6 y7 y8 y9 y10 : Option Addr} {k1 k2 k3 k4 k5 k6 k7 k8 k9 k10 l1 l2 l3 l4 l5 l6 l7 l8 l9 l10 : Nat} (hb : Below w.heap.size w w') (h : CspR w F G x1 x2 x3 x4 x5 x6 x7 x8 x9 x10 y1 y2 y3 y4 y5 y6 y7 y8 y9 y10 k1 k2 k3 k4 k5 k6 k7 k8 k9 k10 l1 l2 l3 l4 l5 l6 l7 l8 l9 l10) : CspR w' F G x1 x2 x3 x4 x5 x6 x7 x8 x9 x10 y1 y2 y3 y4 y5 y6 y7 y8 y9 y10 k1 k2 k3 k4 k5 k6 k7 k8 k9 k10 l1 l2 l3 l4 l5 l6 l7 l8 l9 l10 := csp_mk (rdF_below hb h.hF) (rdF_below hb h.hG)
theorem csp_get {w0 w : World} {is : List Itm} {F G : Fct} {H : Itm} {x1 x2 x3 x4 x5 x6 x7 x8 x9 x10 y1 y2 y3 y4 y5 y6 y7 y8 y9 y10 : Option Addr} {k1 k2 k3 k4 k5 k6 k7 k8 k9 k10 l1 l2 l3 l4 l5 l6 l7 l8 l9 l10 : Nat} (hH : ∀ w S, H.p w S → CspR w F G x1 x2 x3 x4 x5 x6 x7 x8 x9 x10 y1 y2 y3 y4 y5 y6 y7 y8 y9 y10 k1 k2 k3 k4 k5 k6 k7 k8 k9 k10 l1 l2 l3 l4 l5 l6 l7 l8 l9 l10) (M : Mem w0 w is) {n : Nat} (h : is[n]? = some H) : CspR w F G x1 x2 x3 x4 x5 x6 x7 x8 x9 x10 y1 y2 y3 y4 y5 y6 y7 y8 y9 y10 k1 k2 k3 k4 k5 k6 k7 k8 k9 k10 l1 l2 l3 l4 l5 l6 l7 l8 l9 l10 := by
  obtain ⟨S, _, hp⟩ := mem_get M h
  exact hH w S hp
inductive RetCP (W : World) (F G : Fct) (c : Int) (e : Ending) (w' : World) : Prop where
  | mk (x1 x2 x3 x4 x5 x6 x7 x8 x9 x10 y1 y2 y3 y4 y5 y6 y7 y8 y9 y10 : Option Addr) (k1 k2 k3 k4 k5 k6 k7 k8 k9 k10 l1 l2 l3 l4 l5 l6 l7 l8 l9 l10 : Nat) (u1 u2 v1 v2 : List Value) (he : e = .returned (.tuple #[.agg #[.int .i64 F.S.ob, .slice x1 F.S.s.length k1, .slice x2 F.S.t.length k2, .slice x3 F.S.e.length k3, .slice x4 F.S.m.length k4, .int .i64 F.T.ob, .slice x5 F.T.s.length k5, .slice x6 F.T.t.length k6, .slice x7 F.T.e.length k7, .slice x8 F.T.m.length k8, .slice x9 F.o.length k9, .slice x10 F.a.length k10, .int .i64 G.S.ob, .slice y1 G.S.s.length l1, .slice y2 G.S.t.length l2, .slice y3 G.S.e.length l3, .slice y4 G.S.m.length l4, .int .i64 G.T.ob, .slice y5 G.T.s.length l5, .slice y6 G.T.t.length l6, .slice y7 G.T.e.length l7, .slice y8 G.T.m.length l8, .slice y9 G.o.length l9, .slice y10 G.a.length l10], .int .i64 c])) (hs : Star [cpkI [own1I (.slice x1 F.S.s.length k1) F.S.s, own1I (.slice x2 F.S.t.length k2) F.S.t, own1I (.slice x3 F.S.e.length k3) F.S.e, own2U (.slice x4 F.S.m.length k4) u1 F.S.m, own1I (.slice x5 F.T.s.length k5) F.T.s, own1I (.slice x6 F.T.t.length k6) F.T.t, own1I (.slice x7 F.T.e.length k7) F.T.e, own2U (.slice x8 F.T.m.length k8) u2 F.T.m, own1I (.slice x9 F.o.length k9) F.o, own1I (.slice x10 F.a.length k10) F.a, own1I (.slice y1 G.S.s.length l1) G.S.s, own1I (.slice y2 G.S.t.length l2) G.S.t, own1I (.slice y3 G.S.e.length l3) G.S.e, own2U (.slice y4 G.S.m.length l4) v1 G.S.m, own1I (.slice y5 G.T.s.length l5) G.T.s, own1I (.slice y6 G.T.t.length l6) G.T.t, own1I (.slice y7 G.T.e.length l7) G.T.e, own2U (.slice y8 G.T.m.length l8) v2 G.T.m, own1I (.slice y9 G.o.length l9) G.o, own1I (.slice y10 G.a.length l10) G.a]] w' (fun k => W.heap.size ≤ k)) (hb : Below W.heap.size W w') : RetCP W F G c e w'
theorem retCP_star {W w' : World} {F G : Fct} {c : Int} {x1 x2 x3 x4 x5 x6 x7 x8 x9 x10 y1 y2 y3 y4 y5 y6 y7 y8 y9 y10 : Option Addr} {k1 k2 k3 k4 k5 k6 k7 k8 k9 k10 l1 l2 l3 l4 l5 l6 l7 l8 l9 l10 : Nat} {u1 u2 v1 v2 : List Value} {is : List Itm} (M : Mem W w' (own1I (.slice x1 F.S.s.length k1) F.S.s :: own1I (.slice x2 F.S.t.length k2) F.S.t :: own1I (.slice x3 F.S.e.length k3) F.S.e :: own2U (.slice x4 F.S.m.length k4) u1 F.S.m :: own1I (.slice x5 F.T.s.length k5) F.T.s :: own1I (.slice x6 F.T.t.length k6) F.T.t :: own1I (.slice x7 F.T.e.length k7) F.T.e :: own2U (.slice x8 F.T.m.length k8) u2 F.T.m :: own1I (.slice x9 F.o.length k9) F.o :: own1I (.slice x10 F.a.length k10) F.a :: own1I (.slice y1 G.S.s.length l1) G.S.s :: own1I (.slice y2 G.S.t.length l2) G.S.t :: own1I (.slice y3 G.S.e.length l3) G.S.e :: own2U (.slice y4 G.S.m.length l4) v1 G.S.m :: own1I (.slice y5 G.T.s.length l5) G.T.s :: own1I (.slice y6 G.T.t.length l6) G.T.t :: own1I (.slice y7 G.T.e.length l7) G.T.e :: own2U (.slice y8 G.T.m.length l8) v2 G.T.m :: own1I (.slice y9 G.o.length l9) G.o :: own1I (.slice y10 G.a.length l10) G.a :: is)) : RetCP W F G c (.returned (.tuple #[.agg #[.int .i64 F.S.ob, .slice x1 F.S.s.length k1, .slice x2 F.S.t.length k2, .slice x3 F.S.e.length k3, .slice x4 F.S.m.length k4, .int .i64 F.T.ob, .slice x5 F.T.s.length k5, .slice x6 F.T.t.length k6, .slice x7 F.T.e.length k7, .slice x8 F.T.m.length k8, .slice x9 F.o.length k9, .slice x10 F.a.length k10, .int .i64 G.S.ob, .slice y1 G.S.s.length l1, .slice y2 G.S.t.length l2, .slice y3 G.S.e.length l3, .slice y4 G.S.m.length l4, .int .i64 G.T.ob, .slice y5 G.T.s.length l5, .slice y6 G.T.t.length l6, .slice y7 G.T.e.length l7, .slice y8 G.T.m.length l8, .slice y9 G.o.length l9, .slice y10 G.a.length l10], .int .i64 c])) w' :=
  .mk x1 x2 x3 x4 x5 x6 x7 x8 x9 x10 y1 y2 y3 y4 y5 y6 y7 y8 y9 y10 k1 k2 k3 k4 k5 k6 k7 k8 k9 k10 l1 l2 l3 l4 l5 l6 l7 l8 l9 l10 u1 u2 v1 v2 rfl (cpk_in (js := []) (mem_take 20 M)).2 M.1
theorem nil1 (w' : World) : Own1 (.slice none 0 0) [] w' (fun _ => False) := own1_nil _ _
theorem nil2 (w' : World) : Own2U (.slice none 0 0) [] [] w' (fun _ => False) := ⟨rfl, by simp, World.ownsRow_nil w' 0 _ 1, fun i hi => by simp at hi, fun i j _ hj => by simp at hj, fun q hq => by simp [Value.ownBlock] at hq⟩
theorem nil3 {α : Type} (L : Lab0 α) (w' : World) : OwnE0 L (.slice none 0 0) [] w' (fun _ => False) := ⟨World.ownsRow_nil w' 0 _ _, Nat.zero_le _, fun q hq => by simp [Value.ownBlock] at hq⟩
theorem retCP_zero {W w' : World} {c : Int} (hb : Below W.heap.size W w') : RetCP W fct0 fct0 c (.returned (.tuple #[.agg #[.int .i64 0, .slice none 0 0, .slice none 0 0, .slice none 0 0, .slice none 0 0, .int .i64 0, .slice none 0 0, .slice none 0 0, .slice none 0 0, .slice none 0 0, .slice none 0 0, .slice none 0 0, .int .i64 0, .slice none 0 0, .slice none 0 0, .slice none 0 0, .slice none 0 0, .int .i64 0, .slice none 0 0, .slice none 0 0, .slice none 0 0, .slice none 0 0, .slice none 0 0, .slice none 0 0], .int .i64 c])) w' := by
  have n1 := nil1 w'; have n2 := nil2 w'
  have st : ∀ (i : Itm) (is : List Itm), i.p w' (fun _ => False) → Star is w' (fun k => W.heap.size ≤ k) → Star (i :: is) w' (fun k => W.heap.size ≤ k) := fun i is h h2 => ⟨fun _ => False, _, fun k h => h.elim, fun k h => h, fun k h => h.elim, h, h2⟩
  exact .mk none none none none none none none none none none none none none none none none none none none none 0 0 0 0 0 0 0 0 0 0 0 0 0 0 0 0 0 0 0 0 [] [] [] [] rfl ⟨_, fun _ => False, fun k h => h, fun k h => h.elim, fun k _ h => h, ⟨(), trivial, st _ _ n1 (st _ _ n1 (st _ _ n1 (st _ _ n2 (st _ _ n1 (st _ _ n1 (st _ _ n1 (st _ _ n2 (st _ _ n1 (st _ _ n1 (st _ _ n1 (st _ _ n1 (st _ _ n1 (st _ _ n2 (st _ _ n1 (st _ _ n1 (st _ _ n1 (st _ _ n2 (st _ _ n1 (st _ _ n1 (trivial))))))))))))))))))))⟩, trivial⟩ hb
inductive RetCS (W : World) (F G : Fct) (c : Cat) (os : List (Ent Int)) (rs : List (Ent (Int × Int))) (n : Int) (e : Ending) (w' : World) : Prop where
  | mk (x1 x2 x3 x4 x5 x6 x7 x8 x9 x10 y1 y2 y3 y4 y5 y6 y7 y8 y9 y10 z1 z2 z3 z4 oa ra : Option Addr) (k1 k2 k3 k4 k5 k6 k7 k8 k9 k10 l1 l2 l3 l4 l5 l6 l7 l8 l9 l10 m1 m2 m3 m4 oq rq : Nat) (u1 u2 v1 v2 p : List Value) (he : e = .returned (.tuple #[.agg #[.int .i64 F.S.ob, .slice x1 F.S.s.length k1, .slice x2 F.S.t.length k2, .slice x3 F.S.e.length k3, .slice x4 F.S.m.length k4, .int .i64 F.T.ob, .slice x5 F.T.s.length k5, .slice x6 F.T.t.length k6, .slice x7 F.T.e.length k7, .slice x8 F.T.m.length k8, .slice x9 F.o.length k9, .slice x10 F.a.length k10, .int .i64 G.S.ob, .slice y1 G.S.s.length l1, .slice y2 G.S.t.length l2, .slice y3 G.S.e.length l3, .slice y4 G.S.m.length l4, .int .i64 G.T.ob, .slice y5 G.T.s.length l5, .slice y6 G.T.t.length l6, .slice y7 G.T.e.length l7, .slice y8 G.T.m.length l8, .slice y9 G.o.length l9, .slice y10 G.a.length l10, .int .i64 c.ob, .slice z1 c.s.length m1, .slice z2 c.t.length m2, .slice z3 c.e.length m3, .slice z4 c.m.length m4, .slice oa os.length oq, .slice ra rs.length rq], .int .i64 n])) (hs : Star [own1I (.slice x1 F.S.s.length k1) F.S.s, own1I (.slice x2 F.S.t.length k2) F.S.t, own1I (.slice x3 F.S.e.length k3) F.S.e, own2U (.slice x4 F.S.m.length k4) u1 F.S.m, own1I (.slice x5 F.T.s.length k5) F.T.s, own1I (.slice x6 F.T.t.length k6) F.T.t, own1I (.slice x7 F.T.e.length k7) F.T.e, own2U (.slice x8 F.T.m.length k8) u2 F.T.m, own1I (.slice x9 F.o.length k9) F.o, own1I (.slice x10 F.a.length k10) F.a, own1I (.slice y1 G.S.s.length l1) G.S.s, own1I (.slice y2 G.S.t.length l2) G.S.t, own1I (.slice y3 G.S.e.length l3) G.S.e, own2U (.slice y4 G.S.m.length l4) v1 G.S.m, own1I (.slice y5 G.T.s.length l5) G.T.s, own1I (.slice y6 G.T.t.length l6) G.T.t, own1I (.slice y7 G.T.e.length l7) G.T.e, own2U (.slice y8 G.T.m.length l8) v2 G.T.m, own1I (.slice y9 G.o.length l9) G.o, own1I (.slice y10 G.a.length l10) G.a, ownEI0 lab_co (.slice oa os.length oq) os, own1I (.slice z1 c.s.length m1) c.s, own1I (.slice z2 c.t.length m2) c.t, own1I (.slice z3 c.e.length m3) c.e, own2U (.slice z4 c.m.length m4) p c.m, ownEI0 lab_ca (.slice ra rs.length rq) rs] w' (fun k => W.heap.size ≤ k)) (hb : Below W.heap.size W w') : RetCS W F G c os rs n e w'
theorem retCS_star {W w' : World} {F G : Fct} {c : Cat} {os : List (Ent Int)} {rs : List (Ent (Int × Int))} {n : Int} {x1 x2 x3 x4 x5 x6 x7 x8 x9 x10 y1 y2 y3 y4 y5 y6 y7 y8 y9 y10 z1 z2 z3 z4 oa ra : Option Addr} {k1 k2 k3 k4 k5 k6 k7 k8 k9 k10 l1 l2 l3 l4 l5 l6 l7 l8 l9 l10 m1 m2 m3 m4 oq rq : Nat} {u1 u2 v1 v2 p : List Value} {is : List Itm} (M : Mem W w' (own1I (.slice x1 F.S.s.length k1) F.S.s :: own1I (.slice x2 F.S.t.length k2) F.S.t :: own1I (.slice x3 F.S.e.length k3) F.S.e :: own2U (.slice x4 F.S.m.length k4) u1 F.S.m :: own1I (.slice x5 F.T.s.length k5) F.T.s :: own1I (.slice x6 F.T.t.length k6) F.T.t :: own1I (.slice x7 F.T.e.length k7) F.T.e :: own2U (.slice x8 F.T.m.length k8) u2 F.T.m :: own1I (.slice x9 F.o.length k9) F.o :: own1I (.slice x10 F.a.length k10) F.a :: own1I (.slice y1 G.S.s.length l1) G.S.s :: own1I (.slice y2 G.S.t.length l2) G.S.t :: own1I (.slice y3 G.S.e.length l3) G.S.e :: own2U (.slice y4 G.S.m.length l4) v1 G.S.m :: own1I (.slice y5 G.T.s.length l5) G.T.s :: own1I (.slice y6 G.T.t.length l6) G.T.t :: own1I (.slice y7 G.T.e.length l7) G.T.e :: own2U (.slice y8 G.T.m.length l8) v2 G.T.m :: own1I (.slice y9 G.o.length l9) G.o :: own1I (.slice y10 G.a.length l10) G.a :: ownEI0 lab_co (.slice oa os.length oq) os :: own1I (.slice z1 c.s.length m1) c.s :: own1I (.slice z2 c.t.length m2) c.t :: own1I (.slice z3 c.e.length m3) c.e :: own2U (.slice z4 c.m.length m4) p c.m :: ownEI0 lab_ca (.slice ra rs.length rq) rs :: is)) : RetCS W F G c os rs n (.returned (.tuple #[.agg #[.int .i64 F.S.ob, .slice x1 F.S.s.length k1, .slice x2 F.S.t.length k2, .slice x3 F.S.e.length k3, .slice x4 F.S.m.length k4, .int .i64 F.T.ob, .slice x5 F.T.s.length k5, .slice x6 F.T.t.length k6, .slice x7 F.T.e.length k7, .slice x8 F.T.m.length k8, .slice x9 F.o.length k9, .slice x10 F.a.length k10, .int .i64 G.S.ob, .slice y1 G.S.s.length l1, .slice y2 G.S.t.length l2, .slice y3 G.S.e.length l3, .slice y4 G.S.m.length l4, .int .i64 G.T.ob, .slice y5 G.T.s.length l5, .slice y6 G.T.t.length l6, .slice y7 G.T.e.length l7, .slice y8 G.T.m.length l8, .slice y9 G.o.length l9, .slice y10 G.a.length l10, .int .i64 c.ob, .slice z1 c.s.length m1, .slice z2 c.t.length m2, .slice z3 c.e.length m3, .slice z4 c.m.length m4, .slice oa os.length oq, .slice ra rs.length rq], .int .i64 n])) w' :=
  .mk x1 x2 x3 x4 x5 x6 x7 x8 x9 x10 y1 y2 y3 y4 y5 y6 y7 y8 y9 y10 z1 z2 z3 z4 oa ra k1 k2 k3 k4 k5 k6 k7 k8 k9 k10 l1 l2 l3 l4 l5 l6 l7 l8 l9 l10 m1 m2 m3 m4 oq rq u1 u2 v1 v2 p rfl (mem_take 26 M).2 M.1
theorem retCS_zero {W w' : World} {n : Int} (hb : Below W.heap.size W w') : RetCS W fct0 fct0 cat0 [] [] n (.returned (.tuple #[.agg #[.int .i64 0, .slice none 0 0, .slice none 0 0, .slice none 0 0, .slice none 0 0, .int .i64 0, .slice none 0 0, .slice none 0 0, .slice none 0 0, .slice none 0 0, .slice none 0 0, .slice none 0 0, .int .i64 0, .slice none 0 0, .slice none 0 0, .slice none 0 0, .slice none 0 0, .int .i64 0, .slice none 0 0, .slice none 0 0, .slice none 0 0, .slice none 0 0, .slice none 0 0, .slice none 0 0, .int .i64 0, .slice none 0 0, .slice none 0 0, .slice none 0 0, .slice none 0 0, .slice none 0 0, .slice none 0 0], .int .i64 n])) w' := by
  have n1 := nil1 w'; have n2 := nil2 w'; have n3 : ∀ {α : Type} (L : Lab0 α), OwnE0 L (.slice none 0 0) [] w' (fun _ => False) := fun {α} L => nil3 L w'
  have st : ∀ (i : Itm) (is : List Itm), i.p w' (fun _ => False) → Star is w' (fun k => W.heap.size ≤ k) → Star (i :: is) w' (fun k => W.heap.size ≤ k) := fun i is h h2 => ⟨fun _ => False, _, fun k h => h.elim, fun k h => h, fun k h => h.elim, h, h2⟩
  exact .mk none none none none none none none none none none none none none none none none none none none none none none none none none none 0 0 0 0 0 0 0 0 0 0 0 0 0 0 0 0 0 0 0 0 0 0 0 0 0 0 [] [] [] [] [] rfl (st _ _ n1 (st _ _ n1 (st _ _ n1 (st _ _ n2 (st _ _ n1 (st _ _ n1 (st _ _ n1 (st _ _ n2 (st _ _ n1 (st _ _ n1 (st _ _ n1 (st _ _ n1 (st _ _ n1 (st _ _ n2 (st _ _ n1 (st _ _ n1 (st _ _ n1 (st _ _ n2 (st _ _ n1 (st _ _ n1 (st _ _ (n3 lab_co) (st _ _ n1 (st _ _ n1 (st _ _ n1 (st _ _ n2 (st _ _ (n3 lab_ca) (trivial))))))))))))))))))))))))))) hb
theorem mem_swap2 {w0 w : World} {i j : Itm} {js : List Itm} (M : Mem w0 w (i :: j :: js)) : Mem w0 w (j :: i :: js) := mem_perm (List.Perm.swap ..) M
theorem seqC_pack {α β : Type} {w0 : World} {B : List Itm} {gf : Nat} {lb : List Value} {val : α → Value} {T : α → List Itm} {dec : α → β} {L : List β} (h : SeqC w0 B gf lb val T dec L) : SeqC w0 [cpkI B] gf lb val T dec L := fun C Cx l Y W M => by
  have out : ∀ {i : Itm} {W : World}, Mem w0 W (i :: [cpkI B]) → Mem w0 W (i :: B) := fun {i W} M => by
    have := cpk_out (mem_swap2 M)
    exact mem_perm (List.perm_append_singleton _ _) this
  have into : ∀ {i : Itm} {W : World}, Mem w0 W (i :: B) → Mem w0 W (i :: [cpkI B]) := fun {i W} M => mem_swap2 (cpk_in (mem_perm (List.perm_append_singleton _ _).symm M))
  refine (h C Cx l Y W (out M)).mono fun e w' hh => ⟨hh.1, ?_⟩
  rcases hh.2 with ⟨xs, h1, h2⟩ | ⟨pre, h1, h2⟩
  · exact .inl ⟨xs, h1, into h2⟩
  · exact .inr ⟨pre, h1, into h2⟩
theorem cm_pick1 : ∀ {is : List Itm} {n : Nat} {i : Itm}, is[n]? = some i → is.Perm (i :: is.eraseIdx n)
  | [], n, i, h => by simp at h
  | j :: is, 0, i, h => by
    simp only [List.getElem?_cons_zero, Option.some.injEq] at h
    subst h; exact List.Perm.refl _
  | j :: is, n + 1, i, h => (List.Perm.cons j (cm_pick1 (by simpa using h))).trans (List.Perm.swap ..)
def cpick : List Itm → List Nat → List Itm
  | is, [] => is
  | is, k :: ks => match is[k]? with
    | some i => i :: cpick (is.eraseIdx k) ks
    | none => cpick is ks
theorem cpick_perm : ∀ (ks : List Nat) (is : List Itm), is.Perm (cpick is ks)
  | [], is => by unfold cpick; exact List.Perm.refl _
  | k :: ks, is => by
    unfold cpick
    cases h : is[k]? with
    | none => exact cpick_perm ks is
    | some i =>
      have h1 : is.Perm (i :: is.eraseIdx k) := cm_pick1 h
      exact h1.trans (List.Perm.cons _ (cpick_perm ks _))
def RetCl1 (W : World) (gf : Nat) (t : TypeId) (cs : List Value) (e : Ending) (w' : World) : Prop := ∃ B, e = .returned (.func (.func gf) #[] #[.pointer (some ⟨B, 0, none⟩)]) ∧ Star [bxI B t cs] w' (fun k => W.heap.size ≤ k) ∧ Below W.heap.size W w'
def RetCl2 (W : World) (gf : Nat) (t : TypeId) (cs : List Value) (t2 : TypeId) (cs2 : List Value) (e : Ending) (w' : World) : Prop := ∃ B D, e = .returned (.func (.func gf) #[] #[.pointer (some ⟨B, 0, none⟩), .pointer (some ⟨D, 0, none⟩)]) ∧ Star [bxI B t cs, bxI D t2 cs2] w' (fun k => W.heap.size ≤ k) ∧ Below W.heap.size W w'
def RetCl3 (W : World) (gf : Nat) (t : TypeId) (cs : List Value) (t2 : TypeId) (cs2 : List Value) (t3 : TypeId) (cs3 : List Value) (e : Ending) (w' : World) : Prop := ∃ B D H, e = .returned (.func (.func gf) #[] #[.pointer (some ⟨B, 0, none⟩), .pointer (some ⟨D, 0, none⟩), .pointer (some ⟨H, 0, none⟩)]) ∧ Star [bxI B t cs, bxI D t2 cs2, bxI H t3 cs3] w' (fun k => W.heap.size ≤ k) ∧ Below W.heap.size W w'
theorem star_rd1 {is : List Itm} {w : World} {S : Nat → Prop} {n : Nat} {v : Value} {xs : List Int} (h : Star is w S) (hi : is[n]? = some (own1I v xs)) : Rd w v xs := by
  obtain ⟨S1, _, hp⟩ := star_get is hi h
  exact Own1.rd (S := S1) hp
theorem star_rdU {is : List Itm} {w : World} {S : Nat → Prop} {n : Nat} {v : Value} {us : List Value} {rows : List (List Int)} (h : Star is w S) (hi : is[n]? = some (own2U v us rows)) : Rd2 w v rows := by
  obtain ⟨S1, _, hp⟩ := star_get is hi h
  exact Own2.rd (S := S1) ⟨us, hp⟩
theorem csp_pack {F G : Fct} {x1 x2 x3 x4 x5 x6 x7 x8 x9 x10 y1 y2 y3 y4 y5 y6 y7 y8 y9 y10 : Option Addr} {k1 k2 k3 k4 k5 k6 k7 k8 k9 k10 l1 l2 l3 l4 l5 l6 l7 l8 l9 l10 : Nat} {u1 u2 v1 v2 : List Value} : ∀ w S, (cpkI [own1I (.slice x1 F.S.s.length k1) F.S.s, own1I (.slice x2 F.S.t.length k2) F.S.t, own1I (.slice x3 F.S.e.length k3) F.S.e, own2U (.slice x4 F.S.m.length k4) u1 F.S.m, own1I (.slice x5 F.T.s.length k5) F.T.s, own1I (.slice x6 F.T.t.length k6) F.T.t, own1I (.slice x7 F.T.e.length k7) F.T.e, own2U (.slice x8 F.T.m.length k8) u2 F.T.m, own1I (.slice x9 F.o.length k9) F.o, own1I (.slice x10 F.a.length k10) F.a, own1I (.slice y1 G.S.s.length l1) G.S.s, own1I (.slice y2 G.S.t.length l2) G.S.t, own1I (.slice y3 G.S.e.length l3) G.S.e, own2U (.slice y4 G.S.m.length l4) v1 G.S.m, own1I (.slice y5 G.T.s.length l5) G.T.s, own1I (.slice y6 G.T.t.length l6) G.T.t, own1I (.slice y7 G.T.e.length l7) G.T.e, own2U (.slice y8 G.T.m.length l8) v2 G.T.m, own1I (.slice y9 G.o.length l9) G.o, own1I (.slice y10 G.a.length l10) G.a]).p w S → CspR w F G x1 x2 x3 x4 x5 x6 x7 x8 x9 x10 y1 y2 y3 y4 y5 y6 y7 y8 y9 y10 k1 k2 k3 k4 k5 k6 k7 k8 k9 k10 l1 l2 l3 l4 l5 l6 l7 l8 l9 l10 := fun w S h => by
  obtain ⟨_, _, h⟩ := h
  exact csp_mk (rdF_mk (star_rd1 (n := 0) h rfl) (star_rd1 (n := 1) h rfl) (star_rd1 (n := 2) h rfl) (star_rdU (n := 3) h rfl) (star_rd1 (n := 4) h rfl) (star_rd1 (n := 5) h rfl) (star_rd1 (n := 6) h rfl) (star_rdU (n := 7) h rfl) (star_rd1 (n := 8) h rfl) (star_rd1 (n := 9) h rfl)) (rdF_mk (star_rd1 (n := 10) h rfl) (star_rd1 (n := 11) h rfl) (star_rd1 (n := 12) h rfl) (star_rdU (n := 13) h rfl) (star_rd1 (n := 14) h rfl) (star_rd1 (n := 15) h rfl) (star_rd1 (n := 16) h rfl) (star_rdU (n := 17) h rfl) (star_rd1 (n := 18) h rfl) (star_rd1 (n := 19) h rfl))
theorem atE0_E {α : Type} [Inhabited α] (es : List (Ent α)) (i : Int) : atE0 es i = atE es i := by unfold atE0 atE; rfl
def eltQF (z : Nat) (v : Value) (i : Int) (off : Nat) : Value := match v with | .slice (some a) _ _ => .pointer (some ⟨a.block, a.off + i.toNat * z + off, none⟩) | _ => .pointer none
def CCg {α : Type} (C Cx : List α → Itm) (b : Bool) (ys : List α) : Itm := match b with | true => C ys | false => Cx ys
theorem cm_sl2U {w0 w : World} {is : List Itm} {n : Nat} {v : Value} {us : List Value} {rows : List (List Int)} (M : Mem w0 w is) (h : is[n]? = some (own2U v us rows)) : Sl2 w w0.heap.size v rows := by
  obtain ⟨S, hS, hb⟩ := mem_get M h
  exact Own2.at (S := S) ⟨_, hb⟩ hS
theorem cm_mapid {α : Type} (l : List α) : l.map (fun x => x) = l := by simp
section
variable {w0 : World} {is : List Itm} {ops : Array Oper} {Q : Exit → Act → World → Prop} {o : Oper} {rest : List Oper} {N : Frm} {n m : Nat} {e : Env} {v : Value} {d : Nat} {K : Act → World → Prop} {f : FuncId} {fn : Func} {ags : Array Operand} {ts : Array TypeId} {vs : List Value}
theorem go_callCP {F G : Fct} {c : Int} (hd : o.dst = some d) (hN : Nat.blt d N = true) (hop : o.op = .call { callee := .value (.func f), args := ags, argTypes := ts }) (hfn : Tryz.prog.funcs[f]? = some fn) (hb : fn.body.isNone = false) (hn : (fn.name == "runtime.NumGoroutine") = false) (hargs : evoL e ags.toList = some vs) (hc : ∀ w, Mem w0 w is → Calls Tryz.prog f vs.toArray w (RetCP w F G c))
    (hk : ∀ x1 k1 x2 k2 x3 k3 x4 k4 x5 k5 x6 k6 x7 k7 x8 k8 x9 k9 x10 k10 y1 l1 y2 l2 y3 l3 y4 l4 y5 l5 y6 l6 y7 l7 y8 l8 y9 l9 y10 l10 u1 u2 v1 v2, GK w0 (is ++ [cpkI [own1I (.slice x1 F.S.s.length k1) F.S.s, own1I (.slice x2 F.S.t.length k2) F.S.t, own1I (.slice x3 F.S.e.length k3) F.S.e, own2U (.slice x4 F.S.m.length k4) u1 F.S.m, own1I (.slice x5 F.T.s.length k5) F.T.s, own1I (.slice x6 F.T.t.length k6) F.T.t, own1I (.slice x7 F.T.e.length k7) F.T.e, own2U (.slice x8 F.T.m.length k8) u2 F.T.m, own1I (.slice x9 F.o.length k9) F.o, own1I (.slice x10 F.a.length k10) F.a, own1I (.slice y1 G.S.s.length l1) G.S.s, own1I (.slice y2 G.S.t.length l2) G.S.t, own1I (.slice y3 G.S.e.length l3) G.S.e, own2U (.slice y4 G.S.m.length l4) v1 G.S.m, own1I (.slice y5 G.T.s.length l5) G.T.s, own1I (.slice y6 G.T.t.length l6) G.T.t, own1I (.slice y7 G.T.e.length l7) G.T.e, own2U (.slice y8 G.T.m.length l8) v2 G.T.m, own1I (.slice y9 G.o.length l9) G.o, own1I (.slice y10 G.a.length l10) G.a]]) N K ((d, .tuple #[.agg #[.int .i64 F.S.ob, .slice x1 F.S.s.length k1, .slice x2 F.S.t.length k2, .slice x3 F.S.e.length k3, .slice x4 F.S.m.length k4, .int .i64 F.T.ob, .slice x5 F.T.s.length k5, .slice x6 F.T.t.length k6, .slice x7 F.T.e.length k7, .slice x8 F.T.m.length k8, .slice x9 F.o.length k9, .slice x10 F.a.length k10, .int .i64 G.S.ob, .slice y1 G.S.s.length l1, .slice y2 G.S.t.length l2, .slice y3 G.S.e.length l3, .slice y4 G.S.m.length l4, .int .i64 G.T.ob, .slice y5 G.T.s.length l5, .slice y6 G.T.t.length l6, .slice y7 G.T.e.length l7, .slice y8 G.T.m.length l8, .slice y9 G.o.length l9, .slice y10 G.a.length l10], .int .i64 c]) :: e)) : GO w0 is N o e Q K := by
  intro w a M _F
  refine go_call hd hN _F hop hfn hb hn hargs (hc w M) fun e' w' hR => ?_
  obtain ⟨x1, x2, x3, x4, x5, x6, x7, x8, x9, x10, y1, y2, y3, y4, y5, y6, y7, y8, y9, y10, k1, k2, k3, k4, k5, k6, k7, k8, k9, k10, l1, l2, l3, l4, l5, l6, l7, l8, l9, l10, u1, u2, v1, v2, rfl, hs, hbl⟩ := hR
  exact ⟨_, rfl, fun a F => hk x1 k1 x2 k2 x3 k3 x4 k4 x5 k5 x6 k6 x7 k7 x8 k8 x9 k9 x10 k10 y1 l1 y2 l2 y3 l3 y4 l4 y5 l5 y6 l6 y7 l7 y8 l8 y9 l9 y10 l10 u1 u2 v1 v2 w' a (mem_news M hbl hs) F⟩
theorem go_callCS {F G : Fct} {c : Cat} {os : List (Ent Int)} {rs : List (Ent (Int × Int))} {n : Int} (hd : o.dst = some d) (hN : Nat.blt d N = true) (hop : o.op = .call { callee := .value (.func f), args := ags, argTypes := ts }) (hfn : Tryz.prog.funcs[f]? = some fn) (hb : fn.body.isNone = false) (hn : (fn.name == "runtime.NumGoroutine") = false) (hargs : evoL e ags.toList = some vs) (hc : ∀ w, Mem w0 w is → Calls Tryz.prog f vs.toArray w (RetCS w F G c os rs n))
    (hk : ∀ x1 k1 x2 k2 x3 k3 x4 k4 x5 k5 x6 k6 x7 k7 x8 k8 x9 k9 x10 k10 y1 l1 y2 l2 y3 l3 y4 l4 y5 l5 y6 l6 y7 l7 y8 l8 y9 l9 y10 l10 z1 m1 z2 m2 z3 m3 z4 m4 oa oq ra rq u1 u2 v1 v2 p, GK w0 (is ++ [own1I (.slice x1 F.S.s.length k1) F.S.s, own1I (.slice x2 F.S.t.length k2) F.S.t, own1I (.slice x3 F.S.e.length k3) F.S.e, own2U (.slice x4 F.S.m.length k4) u1 F.S.m, own1I (.slice x5 F.T.s.length k5) F.T.s, own1I (.slice x6 F.T.t.length k6) F.T.t, own1I (.slice x7 F.T.e.length k7) F.T.e, own2U (.slice x8 F.T.m.length k8) u2 F.T.m, own1I (.slice x9 F.o.length k9) F.o, own1I (.slice x10 F.a.length k10) F.a, own1I (.slice y1 G.S.s.length l1) G.S.s, own1I (.slice y2 G.S.t.length l2) G.S.t, own1I (.slice y3 G.S.e.length l3) G.S.e, own2U (.slice y4 G.S.m.length l4) v1 G.S.m, own1I (.slice y5 G.T.s.length l5) G.T.s, own1I (.slice y6 G.T.t.length l6) G.T.t, own1I (.slice y7 G.T.e.length l7) G.T.e, own2U (.slice y8 G.T.m.length l8) v2 G.T.m, own1I (.slice y9 G.o.length l9) G.o, own1I (.slice y10 G.a.length l10) G.a, ownEI0 lab_co (.slice oa os.length oq) os, own1I (.slice z1 c.s.length m1) c.s, own1I (.slice z2 c.t.length m2) c.t, own1I (.slice z3 c.e.length m3) c.e, own2U (.slice z4 c.m.length m4) p c.m, ownEI0 lab_ca (.slice ra rs.length rq) rs]) N K ((d, .tuple #[.agg #[.int .i64 F.S.ob, .slice x1 F.S.s.length k1, .slice x2 F.S.t.length k2, .slice x3 F.S.e.length k3, .slice x4 F.S.m.length k4, .int .i64 F.T.ob, .slice x5 F.T.s.length k5, .slice x6 F.T.t.length k6, .slice x7 F.T.e.length k7, .slice x8 F.T.m.length k8, .slice x9 F.o.length k9, .slice x10 F.a.length k10, .int .i64 G.S.ob, .slice y1 G.S.s.length l1, .slice y2 G.S.t.length l2, .slice y3 G.S.e.length l3, .slice y4 G.S.m.length l4, .int .i64 G.T.ob, .slice y5 G.T.s.length l5, .slice y6 G.T.t.length l6, .slice y7 G.T.e.length l7, .slice y8 G.T.m.length l8, .slice y9 G.o.length l9, .slice y10 G.a.length l10, .int .i64 c.ob, .slice z1 c.s.length m1, .slice z2 c.t.length m2, .slice z3 c.e.length m3, .slice z4 c.m.length m4, .slice oa os.length oq, .slice ra rs.length rq], .int .i64 n]) :: e)) : GO w0 is N o e Q K := by
  intro w a M _F
  refine go_call hd hN _F hop hfn hb hn hargs (hc w M) fun e' w' hR => ?_
  obtain ⟨x1, x2, x3, x4, x5, x6, x7, x8, x9, x10, y1, y2, y3, y4, y5, y6, y7, y8, y9, y10, z1, z2, z3, z4, oa, ra, k1, k2, k3, k4, k5, k6, k7, k8, k9, k10, l1, l2, l3, l4, l5, l6, l7, l8, l9, l10, m1, m2, m3, m4, oq, rq, u1, u2, v1, v2, p, rfl, hs, hbl⟩ := hR
  exact ⟨_, rfl, fun a F => hk x1 k1 x2 k2 x3 k3 x4 k4 x5 k5 x6 k6 x7 k7 x8 k8 x9 k9 x10 k10 y1 l1 y2 l2 y3 l3 y4 l4 y5 l5 y6 l6 y7 l7 y8 l8 y9 l9 y10 l10 z1 m1 z2 m2 z3 m3 z4 m4 oa oq ra rq u1 u2 v1 v2 p w' a (mem_news M hbl hs) F⟩
theorem go_callIt {σ : Type} {New : σ → List Itm} {V : σ → Value} {X B : List Itm} (ks : List Nat) (hd : o.dst = some d) (hN : Nat.blt d N = true) (hop : o.op = .call { callee := .value (.func f), args := ags, argTypes := ts }) (hfn : Tryz.prog.funcs[f]? = some fn) (hb : fn.body.isNone = false) (hn : (fn.name == "runtime.NumGoroutine") = false) (hargs : evoL e ags.toList = some vs) (hB : cpick is ks = B ++ X)
    (hc : ∀ (R : Itm) w, Mem w0 w [cpkI B, R] → Calls Tryz.prog f vs.toArray w (fun e w' => ∃ s : σ, e = .returned (V s) ∧ Mem w0 w' (cpkI B :: R :: New s)))
    (hk : ∀ s, GK w0 (is ++ New s) N K ((d, V s) :: e)) : GO w0 is N o e Q K := by
  intro w a M F
  have hXB : is.Perm (B ++ X) := by rw [← hB]; exact cpick_perm ks is
  have M1 : Mem w0 w (cpkI B :: [tailI X]) := mem_tail_in (L := [cpkI B]) (cpk_in (mem_perm hXB M))
  refine go_call hd hN F hop hfn hb hn hargs (hc _ w M1) fun e' w' hR => ?_
  obtain ⟨s, rfl, M2⟩ := hR
  have M3 : Mem w0 w' ((cpkI B :: New s) ++ [tailI X]) := mem_perm (List.Perm.cons _ (List.perm_append_singleton _ _).symm) M2
  have M4 := cpk_out (mem_tail_out M3)
  have M5 : Mem w0 w' (is ++ New s) := mem_perm (by
    refine List.Perm.trans ?_ (List.Perm.append_right _ hXB.symm)
    rw [List.append_assoc]
    exact List.Perm.append_left _ List.perm_append_comm) M4
  exact ⟨_, rfl, fun a F => hk s w' a M5 F⟩
theorem qt_loadE0E {α : Type} [Inhabited α] (L : Lab0 α) {x : Operand} {t : TypeId} {u : Value} {es : List (Ent α)} {i : Int} (hop : o.op = .load t x) (hx : evo e x = some (eltE0 (L.z + 2) u i)) (ht : t = L.tE)
    (hr : ∀ w, Mem w0 w is → RdE0 L w u es) (h0 : 0 ≤ i) (h1 : i < es.length) : QV w0 is o e (encA0 L (atE es i)) := by
  rw [← atE0_E]; exact qt_loadE0 L hop hx ht hr h0 h1
theorem qt_load_co {x : Operand} {t : TypeId} {u : Value} {es : List (Ent Int)} {i : Int} (hop : o.op = .load t x) (hx : evo e x = some (eltE0 (lab_co.z + 2) u i)) (ht : t = lab_co.tE)
    (hr : ∀ w, Mem w0 w is → RdE0 lab_co w u es) (h0 : 0 ≤ i) (h1 : i < es.length) : QV w0 is o e (.agg #[.int .i64 (atE es i).1, .int .i64 (atE es i).2.1, .int .i64 (atE es i).2.2]) := qt_loadE0E lab_co hop hx ht hr h0 h1
theorem qt_load_ca {x : Operand} {t : TypeId} {u : Value} {es : List (Ent (Int × Int))} {i : Int} (hop : o.op = .load t x) (hx : evo e x = some (eltE0 (lab_ca.z + 2) u i)) (ht : t = lab_ca.tE)
    (hr : ∀ w, Mem w0 w is → RdE0 lab_ca w u es) (h0 : 0 ≤ i) (h1 : i < es.length) : QV w0 is o e (.agg #[.int .i64 (atE es i).1, .int .i64 (atE es i).2.1, .int .i64 (atE es i).2.2.1, .int .i64 (atE es i).2.2.2]) := qt_loadE0E lab_ca hop hx ht hr h0 h1
theorem qt_fieldQ {α : Type} (L : Lab0 α) {x : Operand} {s : TypeId} {u : Value} {k : Nat} {i : Int} {n2 off z : Nat} {fs : Array Field} {f : Field} (hop : o.op = .fieldAddr s x n2) (hx : evo e x = some (eltE0 (L.z + 2) u i)) (hs : Tryz.prog.underlying s = some (.struct fs)) (hf : fs[n2]? = some f)
    (hz : (Tryz.prog.info? f.type).map (·.size) = some (z + 1)) (ho : f.offset = off) (hl : ∀ w, Mem w0 w is → LenA u k) (h0 : 0 ≤ i) (h1 : i < (k : Int)) : QV w0 is o e (eltQF (L.z + 2) u i off) :=
  fun w ac M F => by
    have hx := F _ _ hx
    obtain ⟨a, cap, rfl, ha⟩ := hl w M
    obtain ⟨b, of_, rfl⟩ := ha (by omega)
    obtain ⟨inf, hi, hz'⟩ := Option.map_eq_some_iff.1 hz
    simp [execOp, hop, hx, eltE0, eltQF, Instr.fieldAt, run_underlying hs, hf, Instr.sureAddr, fieldPlace, sizeOf, typeInfo, hi, hz', Addr.add_mid, ho]
theorem qt_loadQ {α : Type} [Inhabited α] (L : Lab0 α) {x : Operand} {t : TypeId} {u y : Value} {es : List (Ent α)} {i : Int} {off : Nat} {td : TypeDesc} (hop : o.op = .load t x) (hx : evo e x = some (eltQF (L.z + 2) u i off)) (ht : Tryz.prog.underlying t = some td) (hd : aggT td = false)
    (hr : ∀ w, Mem w0 w is → RdE0 L w u es) (h0 : 0 ≤ i) (h1 : i < es.length) (hy : (enc0 L (atE es i))[off]? = some y) : QV w0 is o e y :=
  fun w ac M F => by
    have hx := F _ _ hx
    obtain ⟨a, cap, rfl, _, hc⟩ := hr w M
    obtain ⟨b, off', rfl, _, hcell⟩ := hc (by omega)
    have hlt : i.toNat < es.length := by omega
    have hcc := hcell i.toNat hlt
    have he : atE es i = es[i.toNat] := by rw [← atE0_E]; simp [atE0, List.getD_eq_getElem?_getD, List.getElem?_eq_getElem hlt]
    rw [← he] at hcc
    have hcl := hcc off y hy
    have hx : ac x = .pointer (some ⟨b, off' + i.toNat * (L.z + 2) + off, none⟩) := hx
    simp [execOp, hop, hx, run_load1 ht hd hcl]
theorem go_callCl1 {gf : Nat} {t : TypeId} {cs : List Value} (hd : o.dst = some d) (hN : Nat.blt d N = true) (hop : o.op = .call { callee := .value (.func f), args := ags, argTypes := ts }) (hfn : Tryz.prog.funcs[f]? = some fn) (hb : fn.body.isNone = false) (hn : (fn.name == "runtime.NumGoroutine") = false) (hargs : evoL e ags.toList = some vs) (hc : ∀ w, Mem w0 w is → Calls Tryz.prog f vs.toArray w (RetCl1 w gf t cs))
    (hk : ∀ B, GK w0 (is ++ [bxI B t cs]) N K ((d, .func (.func gf) #[] #[.pointer (some ⟨B, 0, none⟩)]) :: e)) : GO w0 is N o e Q K := by
  intro w a M F
  refine go_call hd hN F hop hfn hb hn hargs (hc w M) fun e' w' hR => ?_
  obtain ⟨B, rfl, hs, hbl⟩ := hR
  exact ⟨_, rfl, fun a F => hk B w' a (mem_news M hbl hs) F⟩
theorem go_callCl2 {gf : Nat} {t : TypeId} {cs : List Value} {t2 : TypeId} {cs2 : List Value} (hd : o.dst = some d) (hN : Nat.blt d N = true) (hop : o.op = .call { callee := .value (.func f), args := ags, argTypes := ts }) (hfn : Tryz.prog.funcs[f]? = some fn) (hb : fn.body.isNone = false) (hn : (fn.name == "runtime.NumGoroutine") = false) (hargs : evoL e ags.toList = some vs) (hc : ∀ w, Mem w0 w is → Calls Tryz.prog f vs.toArray w (RetCl2 w gf t cs t2 cs2))
    (hk : ∀ B D, GK w0 (is ++ [bxI B t cs, bxI D t2 cs2]) N K ((d, .func (.func gf) #[] #[.pointer (some ⟨B, 0, none⟩), .pointer (some ⟨D, 0, none⟩)]) :: e)) : GO w0 is N o e Q K := by
  intro w a M F
  refine go_call hd hN F hop hfn hb hn hargs (hc w M) fun e' w' hR => ?_
  obtain ⟨B, D, rfl, hs, hbl⟩ := hR
  exact ⟨_, rfl, fun a F => hk B D w' a (mem_news M hbl hs) F⟩
theorem go_callCl3 {gf : Nat} {t : TypeId} {cs : List Value} {t2 : TypeId} {cs2 : List Value} {t3 : TypeId} {cs3 : List Value} (hd : o.dst = some d) (hN : Nat.blt d N = true) (hop : o.op = .call { callee := .value (.func f), args := ags, argTypes := ts }) (hfn : Tryz.prog.funcs[f]? = some fn) (hb : fn.body.isNone = false) (hn : (fn.name == "runtime.NumGoroutine") = false) (hargs : evoL e ags.toList = some vs) (hc : ∀ w, Mem w0 w is → Calls Tryz.prog f vs.toArray w (RetCl3 w gf t cs t2 cs2 t3 cs3))
    (hk : ∀ B D H, GK w0 (is ++ [bxI B t cs, bxI D t2 cs2, bxI H t3 cs3]) N K ((d, .func (.func gf) #[] #[.pointer (some ⟨B, 0, none⟩), .pointer (some ⟨D, 0, none⟩), .pointer (some ⟨H, 0, none⟩)]) :: e)) : GO w0 is N o e Q K := by
  intro w a M F
  refine go_call hd hN F hop hfn hb hn hargs (hc w M) fun e' w' hR => ?_
  obtain ⟨B, D, H, rfl, hs, hbl⟩ := hR
  exact ⟨_, rfl, fun a F => hk B D H w' a (mem_news M hbl hs) F⟩
theorem gc_toEnd {c : Code} {i : Itm} (n : Nat) (hi : is[n]? = some i) (hk : GC w0 (is.eraseIdx n ++ [i]) N c Q e) : GC w0 is N c Q e := fun w a M F => hk w a (mem_perm (List.perm_append_singleton _ _).symm (mem_pick M hi)) F
end
end Go.Proofs.YtpcabkdkdnchaaaGreat
set_option linter.unusedSimpArgs false
set_option linter.unusedVariables false
set_option linter.unusedSectionVars false
namespace Go.Proofs.YtpcabkdkdnchaaaGreat
open Go.RowKit
inductive RetCRR (W : World) (c : Cat) (r1 r2 : List (List Int)) (e : Ending) (w' : World) : Prop where
  | mk (z1 z2 z3 z4 q1 q2 : Option Addr) (m1 m2 m3 m4 n1 n2 : Nat) (p p1 p2 : List Value) (he : e = .returned (.tuple #[.agg #[.int .i64 c.ob, .slice z1 c.s.length m1, .slice z2 c.t.length m2, .slice z3 c.e.length m3, .slice z4 c.m.length m4], .slice q1 r1.length n1, .slice q2 r2.length n2])) (hs : Star [own1I (.slice z1 c.s.length m1) c.s, own1I (.slice z2 c.t.length m2) c.t, own1I (.slice z3 c.e.length m3) c.e, own2U (.slice z4 c.m.length m4) p c.m, own2U (.slice q1 r1.length n1) p1 r1, own2U (.slice q2 r2.length n2) p2 r2] w' (fun k => W.heap.size ≤ k)) (hb : Below W.heap.size W w') : RetCRR W c r1 r2  e w'
theorem retCRR_star {W w' : World} {c : Cat} {r1 r2 : List (List Int)} {z1 z2 z3 z4 q1 q2 : Option Addr} {m1 m2 m3 m4 n1 n2 : Nat} {p p1 p2 : List Value} {is : List Itm} (M : Mem W w' (own1I (.slice z1 c.s.length m1) c.s :: own1I (.slice z2 c.t.length m2) c.t :: own1I (.slice z3 c.e.length m3) c.e :: own2U (.slice z4 c.m.length m4) p c.m :: own2U (.slice q1 r1.length n1) p1 r1 :: own2U (.slice q2 r2.length n2) p2 r2 :: is)) : RetCRR W c r1 r2  (.returned (.tuple #[.agg #[.int .i64 c.ob, .slice z1 c.s.length m1, .slice z2 c.t.length m2, .slice z3 c.e.length m3, .slice z4 c.m.length m4], .slice q1 r1.length n1, .slice q2 r2.length n2])) w' :=
  .mk z1 z2 z3 z4 q1 q2 m1 m2 m3 m4 n1 n2 p p1 p2 rfl (mem_take 6 M).2 M.1
section
variable {w0 : World} {is : List Itm} {ops : Array Oper} {Q : Exit → Act → World → Prop} {o : Oper} {rest : List Oper} {N : Frm} {e : Env} {v : Value} {d : Nat} {K : Act → World → Prop} {f : FuncId} {fn : Func} {ags : Array Operand} {ts : Array TypeId} {vs : List Value}
theorem go_callCRR {c : Cat} {r1 r2 : List (List Int)} (hd : o.dst = some d) (hN : Nat.blt d N = true) (hop : o.op = .call { callee := .value (.func f), args := ags, argTypes := ts }) (hfn : Tryz.prog.funcs[f]? = some fn) (hb : fn.body.isNone = false) (hn : (fn.name == "runtime.NumGoroutine") = false) (hargs : evoL e ags.toList = some vs) (hc : ∀ w, Mem w0 w is → Calls Tryz.prog f vs.toArray w (RetCRR w c r1 r2 ))
    (hk : ∀ z1 m1 z2 m2 z3 m3 z4 m4 q1 n1 q2 n2 p p1 p2, GK w0 (is ++ [own1I (.slice z1 c.s.length m1) c.s, own1I (.slice z2 c.t.length m2) c.t, own1I (.slice z3 c.e.length m3) c.e, own2U (.slice z4 c.m.length m4) p c.m, own2U (.slice q1 r1.length n1) p1 r1, own2U (.slice q2 r2.length n2) p2 r2]) N K ((d, .tuple #[.agg #[.int .i64 c.ob, .slice z1 c.s.length m1, .slice z2 c.t.length m2, .slice z3 c.e.length m3, .slice z4 c.m.length m4], .slice q1 r1.length n1, .slice q2 r2.length n2]) :: e)) : GO w0 is N o e Q K := by
  intro w a M _F
  refine go_call hd hN _F hop hfn hb hn hargs (hc w M) fun e' w' hR => ?_
  obtain ⟨z1, z2, z3, z4, q1, q2, m1, m2, m3, m4, n1, n2, p, p1, p2, rfl, hs, hbl⟩ := hR
  exact ⟨_, rfl, fun a F => hk z1 m1 z2 m2 z3 m3 z4 m4 q1 n1 q2 n2 p p1 p2 w' a (mem_news M hbl hs) F⟩
end
inductive RetCRRI (W : World) (c : Cat) (r1 r2 : List (List Int)) (n : Int) (e : Ending) (w' : World) : Prop where
  | mk (z1 z2 z3 z4 q1 q2 : Option Addr) (m1 m2 m3 m4 n1 n2 : Nat) (p p1 p2 : List Value) (he : e = .returned (.tuple #[.agg #[.int .i64 c.ob, .slice z1 c.s.length m1, .slice z2 c.t.length m2, .slice z3 c.e.length m3, .slice z4 c.m.length m4], .slice q1 r1.length n1, .slice q2 r2.length n2, .int .i64 n])) (hs : Star [own1I (.slice z1 c.s.length m1) c.s, own1I (.slice z2 c.t.length m2) c.t, own1I (.slice z3 c.e.length m3) c.e, own2U (.slice z4 c.m.length m4) p c.m, own2U (.slice q1 r1.length n1) p1 r1, own2U (.slice q2 r2.length n2) p2 r2] w' (fun k => W.heap.size ≤ k)) (hb : Below W.heap.size W w') : RetCRRI W c r1 r2 n e w'
theorem retCRRI_star {W w' : World} {c : Cat} {r1 r2 : List (List Int)} {n : Int} {z1 z2 z3 z4 q1 q2 : Option Addr} {m1 m2 m3 m4 n1 n2 : Nat} {p p1 p2 : List Value} {is : List Itm} (M : Mem W w' (own1I (.slice z1 c.s.length m1) c.s :: own1I (.slice z2 c.t.length m2) c.t :: own1I (.slice z3 c.e.length m3) c.e :: own2U (.slice z4 c.m.length m4) p c.m :: own2U (.slice q1 r1.length n1) p1 r1 :: own2U (.slice q2 r2.length n2) p2 r2 :: is)) : RetCRRI W c r1 r2 n (.returned (.tuple #[.agg #[.int .i64 c.ob, .slice z1 c.s.length m1, .slice z2 c.t.length m2, .slice z3 c.e.length m3, .slice z4 c.m.length m4], .slice q1 r1.length n1, .slice q2 r2.length n2, .int .i64 n])) w' :=
  .mk z1 z2 z3 z4 q1 q2 m1 m2 m3 m4 n1 n2 p p1 p2 rfl (mem_take 6 M).2 M.1
section
variable {w0 : World} {is : List Itm} {ops : Array Oper} {Q : Exit → Act → World → Prop} {o : Oper} {rest : List Oper} {N : Frm} {e : Env} {v : Value} {d : Nat} {K : Act → World → Prop} {f : FuncId} {fn : Func} {ags : Array Operand} {ts : Array TypeId} {vs : List Value}
theorem go_callCRRI {c : Cat} {r1 r2 : List (List Int)} {n : Int} (hd : o.dst = some d) (hN : Nat.blt d N = true) (hop : o.op = .call { callee := .value (.func f), args := ags, argTypes := ts }) (hfn : Tryz.prog.funcs[f]? = some fn) (hb : fn.body.isNone = false) (hn : (fn.name == "runtime.NumGoroutine") = false) (hargs : evoL e ags.toList = some vs) (hc : ∀ w, Mem w0 w is → Calls Tryz.prog f vs.toArray w (RetCRRI w c r1 r2 n))
    (hk : ∀ z1 m1 z2 m2 z3 m3 z4 m4 q1 n1 q2 n2 p p1 p2, GK w0 (is ++ [own1I (.slice z1 c.s.length m1) c.s, own1I (.slice z2 c.t.length m2) c.t, own1I (.slice z3 c.e.length m3) c.e, own2U (.slice z4 c.m.length m4) p c.m, own2U (.slice q1 r1.length n1) p1 r1, own2U (.slice q2 r2.length n2) p2 r2]) N K ((d, .tuple #[.agg #[.int .i64 c.ob, .slice z1 c.s.length m1, .slice z2 c.t.length m2, .slice z3 c.e.length m3, .slice z4 c.m.length m4], .slice q1 r1.length n1, .slice q2 r2.length n2, .int .i64 n]) :: e)) : GO w0 is N o e Q K := by
  intro w a M _F
  refine go_call hd hN _F hop hfn hb hn hargs (hc w M) fun e' w' hR => ?_
  obtain ⟨z1, z2, z3, z4, q1, q2, m1, m2, m3, m4, n1, n2, p, p1, p2, rfl, hs, hbl⟩ := hR
  exact ⟨_, rfl, fun a F => hk z1 m1 z2 m2 z3 m3 z4 m4 q1 n1 q2 n2 p p1 p2 w' a (mem_news M hbl hs) F⟩
end
theorem retCRRI_zero {W w' : World} {n : Int} (hb : Below W.heap.size W w') : RetCRRI W cat0 [] [] n (.returned (.tuple #[.agg #[.int .i64 0, .slice none 0 0, .slice none 0 0, .slice none 0 0, .slice none 0 0], .slice none 0 0, .slice none 0 0, .int .i64 n])) w' := by
  have n1 := nil1 w'; have n2 := nil2 w'
  have st : ∀ (i : Itm) (is : List Itm), i.p w' (fun _ => False) → Star is w' (fun k => W.heap.size ≤ k) → Star (i :: is) w' (fun k => W.heap.size ≤ k) := fun i is h h2 => ⟨fun _ => False, _, fun k h => h.elim, fun k h => h, fun k h => h.elim, h, h2⟩
  exact .mk none none none none none none 0 0 0 0 0 0 [] [] [] rfl (st _ _ n1 (st _ _ n1 (st _ _ n1 (st _ _ n2 (st _ _ n2 (st _ _ n2 trivial)))))) hb
end Go.Proofs.YtpcabkdkdnchaaaGreat
set_option linter.unusedSimpArgs false
set_option linter.unusedVariables false
set_option linter.unusedSectionVars false
namespace Go.Proofs.YtpcabkdkdnchaaaGreat
open Go.RowKit
theorem ext_at0 {xs ys : List Int} (hl : xs.length = ys.length) (h : ∀ j : Nat, j < xs.length → at0 xs (j : Int) = at0 ys (j : Int)) : xs = ys := by
  refine List.ext_getElem hl fun j h1 h2 => ?_
  have := h j h1
  rw [at0_nat, at0_nat, List.getD_eq_getElem?_getD, List.getD_eq_getElem?_getD, List.getElem?_eq_getElem h1, List.getElem?_eq_getElem h2] at this
  exact this
set_option maxHeartbeats 1000000 in
set_option maxRecDepth 100000 in
theorem slEqual_any (w : World) (v : Value) (xs : List Int) (u : Value) (ys : List Int) (hv : Rd w v xs) (hu : Rd w u ys) :
    Calls Tryz.prog 144 #[v, u] w (RetB w (decide (xs = ys))) := by
  obtain ⟨va, vc, rfl⟩ := rd_form hv
  obtain ⟨ua, uc, rfl⟩ := rd_form hu
  have hxl : xs.length ≤ 17592186044415 := by obtain ⟨_, _, _, hl, _⟩ := hv; exact hl
  go_enter Tryz.func144, Tryz.ntmps144
  refine gc_enter (N := 26) rfl (look_cons (k := 0) rfl (look_cons (k := 1) rfl (look_nil _))) ?_
  refine gc_seq fun K1 hK1 => ?_
  refine gc_region ?_
  refine g_v (.free rfl) rfl rfl (qt_assign rfl rfl) ?_
  refine g_nil ?_
  refine gk_then (hK1 _ _ ?_)
  refine gc_seq fun K2 hK2 => ?_
  refine gc_seq fun K3 hK3 => ?_
  refine gc_region ?_
  refine g_v (.free rfl) rfl rfl (qt_move rfl rfl) ?_
  refine g_v (.free rfl) rfl rfl (qt_len rfl rfl ulE1 (fun w M => lenV_rd hv)) ?_
  refine g_v (.free rfl) rfl rfl (qt_move rfl rfl) ?_
  refine g_v (.free rfl) rfl rfl (qt_len rfl rfl ulE1 (fun w M => lenV_rd hu)) ?_
  refine g_v (.free rfl) rfl rfl (qt_neq rfl rfl rfl) ?_
  refine g_nil ?_
  refine gk_then (hK3 _ _ ?_)
  refine gc_cond rfl (fun hc0 => ?_) (fun hc0 => ?_)
  · try simp only [decide_eq_true_eq, decide_eq_false_iff_not, Bool.not_eq_true', Bool.not_eq_false', Bool.not_eq_eq_eq_not, Bool.not_true, Bool.not_false, ne_eq, Decidable.not_not, Classical.not_not] at hc0
    refine gc_seq fun K4 hK4 => ?_
    refine gc_region ?_
    refine g_v (.free rfl) rfl rfl (qt_assign rfl rfl) ?_
    refine g_nil ?_
    refine gk_then (hK4 _ _ ?_)
    refine gc_ret ?_
    refine gk_then_ret ?_
    refine ret_1 rfl rfl  (fun w M => ?_)
    rw [decide_eq_false fun h => hc0 (by rw [h])]; exact ⟨rfl, M.1⟩
  · try simp only [decide_eq_true_eq, decide_eq_false_iff_not, Bool.not_eq_true', Bool.not_eq_false', Bool.not_eq_eq_eq_not, Bool.not_true, Bool.not_false, ne_eq, Decidable.not_not, Classical.not_not] at hc0
    refine gc_skip ?_
    refine gk_then (hK2 _ _ ?_)
    refine gc_seq fun K5 hK5 => ?_
    refine gc_seq fun K6 hK6 => ?_
    refine gc_region ?_
    refine g_v (.free rfl) rfl rfl (qt_move rfl rfl) ?_
    refine g_v (.free rfl) rfl rfl (qt_len rfl rfl ulE1 (fun w M => lenV_rd hv)) ?_
    refine g_v (.free rfl) rfl rfl (qt_move rfl rfl) ?_
    refine g_nil ?_
    refine gk_then (hK6 _ _ ?_)
    refine gc_block ?_
    try simp only [List.nil_append, List.cons_append, List.append_assoc, List.set_cons_succ, List.set_cons_zero]
    refine gc_loop ([(0, _), (1, _), (10, _), (12, _)] : Env) (fun s : Nat => (fun (k : Nat) => ([(13, .int .i64 (k : Int))] : Env)) s) (fun s : Nat => (fun (k : Nat) => ([] : List (Nat × Itm))) s) (fun s : Nat => (fun (k : Nat) => k ≤ xs.length ∧ ∀ j : Nat, j < k → at0 xs (j : Int) = at0 ys (j : Int)) s) (fun s : Nat => (fun (k : Nat) => xs.length - k) s) (0) (sub_cons rfl (sub_cons rfl (sub_cons rfl (sub_cons rfl (sub_cons rfl sub_nil))))) rfl ⟨Nat.zero_le _, fun j hj => absurd hj (by omega)⟩ ?_
    rintro k hinv KL7 hKL7
    simp only [updL, List.foldl_cons, List.foldl_nil, List.set_cons_succ, List.set_cons_zero, List.cons_append, List.nil_append] at hinv hKL7 ⊢
    obtain ⟨hk, hj⟩ := hinv
    refine gc_seq fun K8 hK8 => ?_
    refine gc_region ?_
    refine g_v (.free rfl) rfl rfl (qt_lss rfl rfl rfl) ?_
    refine g_nil ?_
    refine gk_then (hK8 _ _ ?_)
    refine gc_seq fun K9 hK9 => ?_
    refine gc_cond rfl (fun hc1 => ?_) (fun hc1 => ?_)
    · try simp only [decide_eq_true_eq, decide_eq_false_iff_not, Bool.not_eq_true', Bool.not_eq_false', Bool.not_eq_eq_eq_not, Bool.not_true, Bool.not_false, ne_eq, Decidable.not_not, Classical.not_not] at hc1
      refine gc_skip ?_
      refine gk_then (hK9 _ _ ?_)
      refine gc_seq fun K10 hK10 => ?_
      refine gc_block ?_
      refine gc_seq fun K11 hK11 => ?_
      refine gc_region ?_
      refine g_v (.free rfl) rfl rfl (qt_move rfl rfl) ?_
      refine g_v (.free rfl) rfl rfl (qt_assign rfl rfl) ?_
      refine g_nil ?_
      refine gk_then (hK11 _ _ ?_)
      refine gc_seq fun K12 hK12 => ?_
      refine gc_draw (by kernel_rfl) ?_
      refine gd_v (.free rfl) rfl rfl (qt_move rfl rfl) ?_
      refine gd_v (.free rfl) rfl rfl (qt_move rfl rfl) ?_
      refine gd_v (.free rfl) rfl rfl (qt_index rfl rfl rfl ulE1 szE1 (fun w M => lenA_rd hv) (by omega) (by omega)) ?_
      refine gd_v (.free rfl) rfl rfl (qt_load1 rfl rfl Tryz.underlying2 rfl (fun w M => mem_rd M hv) (by omega) (by omega)) ?_
      refine gd_v (.free rfl) rfl rfl (qt_move rfl rfl) ?_
      refine gd_v (.free rfl) rfl rfl (qt_move rfl rfl) ?_
      refine gd_v (.free rfl) rfl rfl (qt_index rfl rfl rfl ulE1 szE1 (fun w M => lenA_rd hu) (by omega) (by omega)) ?_
      refine gd_v (.free rfl) rfl rfl (qt_load1 rfl rfl Tryz.underlying2 rfl (fun w M => mem_rd M hu) (by omega) (by omega)) ?_
      refine gd_v (.free rfl) rfl rfl (qt_neq rfl rfl rfl) ?_
      refine gd_nil ?_
      refine gk_then (hK12 _ _ ?_)
      refine gc_cond rfl (fun hc2 => ?_) (fun hc2 => ?_)
      · try simp only [decide_eq_true_eq, decide_eq_false_iff_not, Bool.not_eq_true', Bool.not_eq_false', Bool.not_eq_eq_eq_not, Bool.not_true, Bool.not_false, ne_eq, Decidable.not_not, Classical.not_not] at hc2
        refine gc_seq fun K13 hK13 => ?_
        refine gc_region ?_
        refine g_v (.free rfl) rfl rfl (qt_assign rfl rfl) ?_
        refine g_nil ?_
        refine gk_then (hK13 _ _ ?_)
        refine gc_ret ?_
        refine gk_block_ret ?_
        refine gk_then_ret ?_
        refine gk_then_ret ?_
        refine gk_block_ret ?_
        refine gk_then_ret ?_
        refine ret_1 rfl rfl  (fun w M => ?_)
        rw [decide_eq_false fun h => hc2 (by rw [h])]; exact ⟨rfl, M.1⟩
      · try simp only [decide_eq_true_eq, decide_eq_false_iff_not, Bool.not_eq_true', Bool.not_eq_false', Bool.not_eq_eq_eq_not, Bool.not_true, Bool.not_false, ne_eq, Decidable.not_not, Classical.not_not] at hc2
        refine gc_skip ?_
        refine gk_block ?_
        refine gk_then (hK10 _ _ ?_)
        refine gc_region ?_
        refine g_v (.free rfl) rfl rfl (qt_add rfl rfl rfl (by omega)) ?_
        refine g_v (.free rfl) rfl rfl (qt_move rfl rfl) ?_
        refine g_nil ?_
        refine gk_then (gk_take 0 ?_)
        refine gk_sub ?hs_14 (hKL7 (k + 1) ?hi_14 ?hm_14)
        case hs_14 => exact (sub_cons rfl (sub_cons rfl (sub_cons rfl (sub_cons rfl (sub_cons rfl sub_nil)))))
        case hi_14 => exact ⟨by omega, all_next0 hj hc2⟩
        case hm_14 => omega
    · try simp only [decide_eq_true_eq, decide_eq_false_iff_not, Bool.not_eq_true', Bool.not_eq_false', Bool.not_eq_eq_eq_not, Bool.not_true, Bool.not_false, ne_eq, Decidable.not_not, Classical.not_not] at hc1
      refine gc_exit ?_
      refine gk_then_exit ?_
      refine gk_then_exit ?_
      refine gk_block_hit ?_
      refine gk_then (hK5 _ _ ?_)
      refine gc_seq fun K15 hK15 => ?_
      refine gc_region ?_
      refine g_v (.free rfl) rfl rfl (qt_assign rfl rfl) ?_
      refine g_nil ?_
      refine gk_then (hK15 _ _ ?_)
      refine gc_ret ?_
      refine ret_1 rfl rfl  (fun w M => ?_)
      rw [decide_eq_true (ext_at0 (by omega) fun j h => hj j (by omega))]; exact ⟨rfl, M.1⟩
end Go.Proofs.YtpcabkdkdnchaaaGreat
