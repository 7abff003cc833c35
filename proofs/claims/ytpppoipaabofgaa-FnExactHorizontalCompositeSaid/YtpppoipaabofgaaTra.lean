
/- Natural transformations as values: what reads as one, what is owned, what comes back, the laws' own functions on them. -/
import Derived.Test.YtpppoipaabofgaaFunL
set_option linter.unusedSimpArgs false
set_option linter.unusedVariables false
set_option linter.unusedSectionVars false
namespace Go.Proofs.Ytpppoipaabofgaa
open Go.RowKit


structure Tra where
  S : Fct
  T : Fct
  c : List Int
theorem agg25 {a1 a2 a3 a4 a5 a6 a7 a8 a9 a10 a11 a12 a13 a14 a15 a16 a17 a18 a19 a20 a21 a22 a23 a24 a25 b1 b2 b3 b4 b5 b6 b7 b8 b9 b10 b11 b12 b13 b14 b15 b16 b17 b18 b19 b20 b21 b22 b23 b24 b25 : Value} (q : (Value.agg #[a1, a2, a3, a4, a5, a6, a7, a8, a9, a10, a11, a12, a13, a14, a15, a16, a17, a18, a19, a20, a21, a22, a23, a24, a25]) = .agg #[b1, b2, b3, b4, b5, b6, b7, b8, b9, b10, b11, b12, b13, b14, b15, b16, b17, b18, b19, b20, b21, b22, b23, b24, b25]) : a2 = b2 ∧ a3 = b3 ∧ a4 = b4 ∧ a5 = b5 ∧ a7 = b7 ∧ a8 = b8 ∧ a9 = b9 ∧ a10 = b10 ∧ a11 = b11 ∧ a12 = b12 ∧ a14 = b14 ∧ a15 = b15 ∧ a16 = b16 ∧ a17 = b17 ∧ a19 = b19 ∧ a20 = b20 ∧ a21 = b21 ∧ a22 = b22 ∧ a23 = b23 ∧ a24 = b24 ∧ a25 = b25 := by
  simp only [Value.agg.injEq] at q
  have hl := congrArg Array.toList q
  simp only [List.cons.injEq, and_true] at hl
  obtain ⟨h1, h2, h3, h4, h5, h6, h7, h8, h9, h10, h11, h12, h13, h14, h15, h16, h17, h18, h19, h20, h21, h22, h23, h24, h25⟩ := hl
  exact ⟨h2, h3, h4, h5, h7, h8, h9, h10, h11, h12, h14, h15, h16, h17, h19, h20, h21, h22, h23, h24, h25⟩
def RdTr (w : World) (v : Value) (T : Tra) : Prop := ∃ x1 x2 x3 x4 x5 x6 x7 x8 x9 x10 x11 x12 x13 x14 x15 x16 x17 x18 x19 x20 x21 : Value, v = .agg #[.int .i64 T.S.S.ob, x1, x2, x3, x4, .int .i64 T.S.T.ob, x5, x6, x7, x8, x9, x10, .int .i64 T.T.S.ob, x11, x12, x13, x14, .int .i64 T.T.T.ob, x15, x16, x17, x18, x19, x20, x21] ∧ RdF w (.agg #[.int .i64 T.S.S.ob, x1, x2, x3, x4, .int .i64 T.S.T.ob, x5, x6, x7, x8, x9, x10]) T.S ∧ RdF w (.agg #[.int .i64 T.T.S.ob, x11, x12, x13, x14, .int .i64 T.T.T.ob, x15, x16, x17, x18, x19, x20]) T.T ∧ Rd w x21 T.c
theorem rdTr_mk {w : World} {T : Tra} {x1 x2 x3 x4 x5 x6 x7 x8 x9 x10 x11 x12 x13 x14 x15 x16 x17 x18 x19 x20 x21 : Value} (h1 : Rd w x1 T.S.S.s) (h2 : Rd w x2 T.S.S.t) (h3 : Rd w x3 T.S.S.e) (h4 : Rd2 w x4 T.S.S.m) (h5 : Rd w x5 T.S.T.s) (h6 : Rd w x6 T.S.T.t) (h7 : Rd w x7 T.S.T.e) (h8 : Rd2 w x8 T.S.T.m) (h9 : Rd w x9 T.S.o) (h10 : Rd w x10 T.S.a) (h11 : Rd w x11 T.T.S.s) (h12 : Rd w x12 T.T.S.t) (h13 : Rd w x13 T.T.S.e) (h14 : Rd2 w x14 T.T.S.m) (h15 : Rd w x15 T.T.T.s) (h16 : Rd w x16 T.T.T.t) (h17 : Rd w x17 T.T.T.e) (h18 : Rd2 w x18 T.T.T.m) (h19 : Rd w x19 T.T.o) (h20 : Rd w x20 T.T.a) (h21 : Rd w x21 T.c) : RdTr w (.agg #[.int .i64 T.S.S.ob, x1, x2, x3, x4, .int .i64 T.S.T.ob, x5, x6, x7, x8, x9, x10, .int .i64 T.T.S.ob, x11, x12, x13, x14, .int .i64 T.T.T.ob, x15, x16, x17, x18, x19, x20, x21]) T :=
  ⟨_, _, _, _, _, _, _, _, _, _, _, _, _, _, _, _, _, _, _, _, _, rfl, rdF_mk h1 h2 h3 h4 h5 h6 h7 h8 h9 h10, rdF_mk h11 h12 h13 h14 h15 h16 h17 h18 h19 h20, h21⟩
theorem rdTr_below {w w' : World} {v : Value} {T : Tra} (hb : Below w.heap.size w w') (h : RdTr w v T) : RdTr w' v T := by
  obtain ⟨x1, x2, x3, x4, x5, x6, x7, x8, x9, x10, x11, x12, x13, x14, x15, x16, x17, x18, x19, x20, x21, hv, h1, h2, h3⟩ := h
  exact ⟨x1, x2, x3, x4, x5, x6, x7, x8, x9, x10, x11, x12, x13, x14, x15, x16, x17, x18, x19, x20, x21, hv, rdF_below hb h1, rdF_below hb h2, rd_below hb h3⟩
theorem rdTr_parts {w : World} {T : Tra} {x1 x2 x3 x4 x5 x6 x7 x8 x9 x10 x11 x12 x13 x14 x15 x16 x17 x18 x19 x20 x21 : Value} (h : RdTr w (.agg #[.int .i64 T.S.S.ob, x1, x2, x3, x4, .int .i64 T.S.T.ob, x5, x6, x7, x8, x9, x10, .int .i64 T.T.S.ob, x11, x12, x13, x14, .int .i64 T.T.T.ob, x15, x16, x17, x18, x19, x20, x21]) T) : RdF w (.agg #[.int .i64 T.S.S.ob, x1, x2, x3, x4, .int .i64 T.S.T.ob, x5, x6, x7, x8, x9, x10]) T.S ∧ RdF w (.agg #[.int .i64 T.T.S.ob, x11, x12, x13, x14, .int .i64 T.T.T.ob, x15, x16, x17, x18, x19, x20]) T.T ∧ Rd w x21 T.c := by
  obtain ⟨y1, y2, y3, y4, y5, y6, y7, y8, y9, y10, y11, y12, y13, y14, y15, y16, y17, y18, y19, y20, y21, hv, h1, h2, h3⟩ := h
  obtain ⟨rfl, rfl, rfl, rfl, rfl, rfl, rfl, rfl, rfl, rfl, rfl, rfl, rfl, rfl, rfl, rfl, rfl, rfl, rfl, rfl, rfl⟩ := agg25 hv
  exact ⟨h1, h2, h3⟩
inductive TrL (w : World) (v : Value) (T : Tra) : Prop where
  | mk (x1 x2 x3 x4 x5 x6 x7 x8 x9 x10 x11 x12 x13 x14 x15 x16 x17 x18 x19 x20 x21 : Option Addr) (k1 k2 k3 k4 k5 k6 k7 k8 k9 k10 k11 k12 k13 k14 k15 k16 k17 k18 k19 k20 k21 : Nat) (hv : v = .agg #[.int .i64 T.S.S.ob, .slice x1 T.S.S.s.length k1, .slice x2 T.S.S.t.length k2, .slice x3 T.S.S.e.length k3, .slice x4 T.S.S.m.length k4, .int .i64 T.S.T.ob, .slice x5 T.S.T.s.length k5, .slice x6 T.S.T.t.length k6, .slice x7 T.S.T.e.length k7, .slice x8 T.S.T.m.length k8, .slice x9 T.S.o.length k9, .slice x10 T.S.a.length k10, .int .i64 T.T.S.ob, .slice x11 T.T.S.s.length k11, .slice x12 T.T.S.t.length k12, .slice x13 T.T.S.e.length k13, .slice x14 T.T.S.m.length k14, .int .i64 T.T.T.ob, .slice x15 T.T.T.s.length k15, .slice x16 T.T.T.t.length k16, .slice x17 T.T.T.e.length k17, .slice x18 T.T.T.m.length k18, .slice x19 T.T.o.length k19, .slice x20 T.T.a.length k20, .slice x21 T.c.length k21]) (h1 : Rd w (.slice x1 T.S.S.s.length k1) T.S.S.s) (h2 : Rd w (.slice x2 T.S.S.t.length k2) T.S.S.t) (h3 : Rd w (.slice x3 T.S.S.e.length k3) T.S.S.e) (h4 : Rd2 w (.slice x4 T.S.S.m.length k4) T.S.S.m) (h5 : Rd w (.slice x5 T.S.T.s.length k5) T.S.T.s) (h6 : Rd w (.slice x6 T.S.T.t.length k6) T.S.T.t) (h7 : Rd w (.slice x7 T.S.T.e.length k7) T.S.T.e) (h8 : Rd2 w (.slice x8 T.S.T.m.length k8) T.S.T.m) (h9 : Rd w (.slice x9 T.S.o.length k9) T.S.o) (h10 : Rd w (.slice x10 T.S.a.length k10) T.S.a) (h11 : Rd w (.slice x11 T.T.S.s.length k11) T.T.S.s) (h12 : Rd w (.slice x12 T.T.S.t.length k12) T.T.S.t) (h13 : Rd w (.slice x13 T.T.S.e.length k13) T.T.S.e) (h14 : Rd2 w (.slice x14 T.T.S.m.length k14) T.T.S.m) (h15 : Rd w (.slice x15 T.T.T.s.length k15) T.T.T.s) (h16 : Rd w (.slice x16 T.T.T.t.length k16) T.T.T.t) (h17 : Rd w (.slice x17 T.T.T.e.length k17) T.T.T.e) (h18 : Rd2 w (.slice x18 T.T.T.m.length k18) T.T.T.m) (h19 : Rd w (.slice x19 T.T.o.length k19) T.T.o) (h20 : Rd w (.slice x20 T.T.a.length k20) T.T.a) (h21 : Rd w (.slice x21 T.c.length k21) T.c) : TrL w v T
theorem RdTr.lists {w : World} {v : Value} {T : Tra} (h : RdTr w v T) : TrL w v T := by
  obtain ⟨y1, y2, y3, y4, y5, y6, y7, y8, y9, y10, y11, y12, y13, y14, y15, y16, y17, y18, y19, y20, y21, rfl, hS, hT, hc⟩ := h
  obtain ⟨x1, x2, x3, x4, x5, x6, x7, x8, x9, x10, k1, k2, k3, k4, k5, k6, k7, k8, k9, k10, hv, g1, g2, g3, g4, g5, g6, g7, g8, g9, g10⟩ := hS.lists
  obtain ⟨rfl, rfl, rfl, rfl, rfl, rfl, rfl, rfl, rfl, rfl⟩ := agg12 hv
  obtain ⟨x11, x12, x13, x14, x15, x16, x17, x18, x19, x20, k11, k12, k13, k14, k15, k16, k17, k18, k19, k20, hv', g11, g12, g13, g14, g15, g16, g17, g18, g19, g20⟩ := hT.lists
  obtain ⟨rfl, rfl, rfl, rfl, rfl, rfl, rfl, rfl, rfl, rfl⟩ := agg12 hv'
  obtain ⟨x21, k21, rfl⟩ := rd_form hc
  exact ⟨x1, x2, x3, x4, x5, x6, x7, x8, x9, x10, x11, x12, x13, x14, x15, x16, x17, x18, x19, x20, x21, k1, k2, k3, k4, k5, k6, k7, k8, k9, k10, k11, k12, k13, k14, k15, k16, k17, k18, k19, k20, k21, rfl, g1, g2, g3, g4, g5, g6, g7, g8, g9, g10, g11, g12, g13, g14, g15, g16, g17, g18, g19, g20, hc⟩
/-- As RdTr, of what came in: of any length. -/
def InTr (w : World) (v : Value) (T : Tra) : Prop := ∃ x1 x2 x3 x4 x5 x6 x7 x8 x9 x10 x11 x12 x13 x14 x15 x16 x17 x18 x19 x20 x21 : Value, v = .agg #[.int .i64 T.S.S.ob, x1, x2, x3, x4, .int .i64 T.S.T.ob, x5, x6, x7, x8, x9, x10, .int .i64 T.T.S.ob, x11, x12, x13, x14, .int .i64 T.T.T.ob, x15, x16, x17, x18, x19, x20, x21] ∧ InF w (.agg #[.int .i64 T.S.S.ob, x1, x2, x3, x4, .int .i64 T.S.T.ob, x5, x6, x7, x8, x9, x10]) T.S ∧ InF w (.agg #[.int .i64 T.T.S.ob, x11, x12, x13, x14, .int .i64 T.T.T.ob, x15, x16, x17, x18, x19, x20]) T.T ∧ In w x21 T.c
def szTr (T : Tra) : Nat := szFn T.S + szFn T.T + T.c.length
theorem inTr_below {w w' : World} {v : Value} {T : Tra} (hb : Below w.heap.size w w') (h : InTr w v T) : InTr w' v T := by
  obtain ⟨x1, x2, x3, x4, x5, x6, x7, x8, x9, x10, x11, x12, x13, x14, x15, x16, x17, x18, x19, x20, x21, hv, h1, h2, h3⟩ := h
  exact ⟨x1, x2, x3, x4, x5, x6, x7, x8, x9, x10, x11, x12, x13, x14, x15, x16, x17, x18, x19, x20, x21, hv, inF_below hb h1, inF_below hb h2, in_below hb h3⟩
theorem InTr.rd {w : World} {v : Value} {T : Tra} (h : InTr w v T) (hl : szTr T ≤ 1048576) : RdTr w v T := by
  unfold szTr at hl
  obtain ⟨x1, x2, x3, x4, x5, x6, x7, x8, x9, x10, x11, x12, x13, x14, x15, x16, x17, x18, x19, x20, x21, hv, h1, h2, h3⟩ := h
  exact ⟨x1, x2, x3, x4, x5, x6, x7, x8, x9, x10, x11, x12, x13, x14, x15, x16, x17, x18, x19, x20, x21, hv, h1.rd (by omega), h2.rd (by omega), h3.rd (by omega)⟩
inductive TrN (w : World) (v : Value) (T : Tra) : Prop where
  | mk (x1 x2 x3 x4 x5 x6 x7 x8 x9 x10 x11 x12 x13 x14 x15 x16 x17 x18 x19 x20 x21 : Option Addr) (k1 k2 k3 k4 k5 k6 k7 k8 k9 k10 k11 k12 k13 k14 k15 k16 k17 k18 k19 k20 k21 : Nat) (hv : v = .agg #[.int .i64 T.S.S.ob, .slice x1 T.S.S.s.length k1, .slice x2 T.S.S.t.length k2, .slice x3 T.S.S.e.length k3, .slice x4 T.S.S.m.length k4, .int .i64 T.S.T.ob, .slice x5 T.S.T.s.length k5, .slice x6 T.S.T.t.length k6, .slice x7 T.S.T.e.length k7, .slice x8 T.S.T.m.length k8, .slice x9 T.S.o.length k9, .slice x10 T.S.a.length k10, .int .i64 T.T.S.ob, .slice x11 T.T.S.s.length k11, .slice x12 T.T.S.t.length k12, .slice x13 T.T.S.e.length k13, .slice x14 T.T.S.m.length k14, .int .i64 T.T.T.ob, .slice x15 T.T.T.s.length k15, .slice x16 T.T.T.t.length k16, .slice x17 T.T.T.e.length k17, .slice x18 T.T.T.m.length k18, .slice x19 T.T.o.length k19, .slice x20 T.T.a.length k20, .slice x21 T.c.length k21]) (h1 : InF w (.agg #[.int .i64 T.S.S.ob, .slice x1 T.S.S.s.length k1, .slice x2 T.S.S.t.length k2, .slice x3 T.S.S.e.length k3, .slice x4 T.S.S.m.length k4, .int .i64 T.S.T.ob, .slice x5 T.S.T.s.length k5, .slice x6 T.S.T.t.length k6, .slice x7 T.S.T.e.length k7, .slice x8 T.S.T.m.length k8, .slice x9 T.S.o.length k9, .slice x10 T.S.a.length k10]) T.S) (h2 : InF w (.agg #[.int .i64 T.T.S.ob, .slice x11 T.T.S.s.length k11, .slice x12 T.T.S.t.length k12, .slice x13 T.T.S.e.length k13, .slice x14 T.T.S.m.length k14, .int .i64 T.T.T.ob, .slice x15 T.T.T.s.length k15, .slice x16 T.T.T.t.length k16, .slice x17 T.T.T.e.length k17, .slice x18 T.T.T.m.length k18, .slice x19 T.T.o.length k19, .slice x20 T.T.a.length k20]) T.T) (h3 : In w (.slice x21 T.c.length k21) T.c) : TrN w v T
theorem InTr.form {w : World} {v : Value} {T : Tra} (h : InTr w v T) : TrN w v T := by
  obtain ⟨y1, y2, y3, y4, y5, y6, y7, y8, y9, y10, y11, y12, y13, y14, y15, y16, y17, y18, y19, y20, y21, rfl, hS, hT, hc⟩ := h
  have eS := hS; have eT := hT
  obtain ⟨x1, x2, x3, x4, x5, x6, x7, x8, x9, x10, k1, k2, k3, k4, k5, k6, k7, k8, k9, k10, hv, _⟩ := eS.form
  obtain ⟨rfl, rfl, rfl, rfl, rfl, rfl, rfl, rfl, rfl, rfl⟩ := agg12 hv
  obtain ⟨x11, x12, x13, x14, x15, x16, x17, x18, x19, x20, k11, k12, k13, k14, k15, k16, k17, k18, k19, k20, hv', _⟩ := eT.form
  obtain ⟨rfl, rfl, rfl, rfl, rfl, rfl, rfl, rfl, rfl, rfl⟩ := agg12 hv'
  obtain ⟨x21, k21, rfl⟩ := hc.form
  exact ⟨x1, x2, x3, x4, x5, x6, x7, x8, x9, x10, x11, x12, x13, x14, x15, x16, x17, x18, x19, x20, x21, k1, k2, k3, k4, k5, k6, k7, k8, k9, k10, k11, k12, k13, k14, k15, k16, k17, k18, k19, k20, k21, rfl, hS, hT, hc⟩
/-- A transformation of the call's own. -/
def OwnTr (v : Value) (T : Tra) (w : World) (S : Nat → Prop) : Prop := ∃ x1 x2 x3 x4 x5 x6 x7 x8 x9 x10 x11 x12 x13 x14 x15 x16 x17 x18 x19 x20 x21 : Value, v = .agg #[.int .i64 T.S.S.ob, x1, x2, x3, x4, .int .i64 T.S.T.ob, x5, x6, x7, x8, x9, x10, .int .i64 T.T.S.ob, x11, x12, x13, x14, .int .i64 T.T.T.ob, x15, x16, x17, x18, x19, x20, x21] ∧ Star [ownFI (.agg #[.int .i64 T.S.S.ob, x1, x2, x3, x4, .int .i64 T.S.T.ob, x5, x6, x7, x8, x9, x10]) T.S, ownFI (.agg #[.int .i64 T.T.S.ob, x11, x12, x13, x14, .int .i64 T.T.T.ob, x15, x16, x17, x18, x19, x20]) T.T, own1I x21 T.c] w S
theorem ownTr_loc (v : Value) (T : Tra) : Loc (OwnTr v T) where
  keep hs ha h := by
    obtain ⟨x1, x2, x3, x4, x5, x6, x7, x8, x9, x10, x11, x12, x13, x14, x15, x16, x17, x18, x19, x20, x21, hv, h⟩ := h
    exact ⟨x1, x2, x3, x4, x5, x6, x7, x8, x9, x10, x11, x12, x13, x14, x15, x16, x17, x18, x19, x20, x21, hv, star_keep _ hs ha h⟩
def ownTrI (v : Value) (T : Tra) : Itm := ⟨_, ownTr_loc v T⟩
theorem OwnTr.rd {w : World} {S : Nat → Prop} {v : Value} {T : Tra} (h : OwnTr v T w S) : RdTr w v T := by
  obtain ⟨x1, x2, x3, x4, x5, x6, x7, x8, x9, x10, x11, x12, x13, x14, x15, x16, x17, x18, x19, x20, x21, hv, h⟩ := h
  obtain ⟨S1, _, h1⟩ := star_get (n := 0) _ rfl h
  obtain ⟨S2, _, h2⟩ := star_get (n := 1) _ rfl h
  exact ⟨x1, x2, x3, x4, x5, x6, x7, x8, x9, x10, x11, x12, x13, x14, x15, x16, x17, x18, x19, x20, x21, hv, OwnF.rd h1, OwnF.rd h2, starF_1 (n := 2) h rfl⟩
def tra0 : Tra := ⟨fct0, fct0, []⟩
theorem ownTr_zero (w : World) (S : Nat → Prop) : OwnTr (.agg #[.int .i64 0, .slice none 0 0, .slice none 0 0, .slice none 0 0, .slice none 0 0, .int .i64 0, .slice none 0 0, .slice none 0 0, .slice none 0 0, .slice none 0 0, .slice none 0 0, .slice none 0 0, .int .i64 0, .slice none 0 0, .slice none 0 0, .slice none 0 0, .slice none 0 0, .int .i64 0, .slice none 0 0, .slice none 0 0, .slice none 0 0, .slice none 0 0, .slice none 0 0, .slice none 0 0, .slice none 0 0]) tra0 w S := by
  have n1 : Own1 (.slice none 0 0) [] w (fun _ => False) := own1_nil _ _
  have n2 : OwnF (.agg #[.int .i64 0, .slice none 0 0, .slice none 0 0, .slice none 0 0, .slice none 0 0, .int .i64 0, .slice none 0 0, .slice none 0 0, .slice none 0 0, .slice none 0 0, .slice none 0 0, .slice none 0 0]) fct0 w (fun _ => False) := ownF_zero _ _
  have st : ∀ (i : Itm) (is : List Itm), i.p w (fun _ => False) → Star is w S → Star (i :: is) w S := fun i is h h2 => ⟨fun _ => False, S, fun k h => h.elim, fun k h => h, fun k h => h.elim, h, h2⟩
  exact ⟨_, _, _, _, _, _, _, _, _, _, _, _, _, _, _, _, _, _, _, _, _, rfl, st _ _ n2 (st _ _ n2 (st _ _ n1 trivial))⟩
def RetTr (W : World) (T : Tra) (e : Ending) (w' : World) : Prop := ∃ v, e = .returned v ∧ OwnTr v T w' (fun k => W.heap.size ≤ k) ∧ Below W.heap.size W w'
def RetTrI (W : World) (T : Tra) (n : Int) (e : Ending) (w' : World) : Prop := ∃ v, e = .returned (.tuple #[v, .int .i64 n]) ∧ OwnTr v T w' (fun k => W.heap.size ≤ k) ∧ Below W.heap.size W w'
theorem retTrI_zero {W w' : World} {n : Int} (hb : Below W.heap.size W w') : RetTrI W tra0 n (.returned (.tuple #[.agg #[.int .i64 0, .slice none 0 0, .slice none 0 0, .slice none 0 0, .slice none 0 0, .int .i64 0, .slice none 0 0, .slice none 0 0, .slice none 0 0, .slice none 0 0, .slice none 0 0, .slice none 0 0, .int .i64 0, .slice none 0 0, .slice none 0 0, .slice none 0 0, .slice none 0 0, .int .i64 0, .slice none 0 0, .slice none 0 0, .slice none 0 0, .slice none 0 0, .slice none 0 0, .slice none 0 0, .slice none 0 0], .int .i64 n])) w' := ⟨_, rfl, ownTr_zero _ _, hb⟩
theorem star_groupF {w : World} {S : Nat → Prop} {F : Fct} {s1 s2 s3 s4 t1 t2 t3 t4 vo va : Value} {us ut : List Value} {is : List Itm} (h : Star (own1I s1 F.S.s :: own1I s2 F.S.t :: own1I s3 F.S.e :: own2U s4 us F.S.m :: own1I t1 F.T.s :: own1I t2 F.T.t :: own1I t3 F.T.e :: own2U t4 ut F.T.m :: own1I vo F.o :: own1I va F.a :: is) w S) : Star (ownFI (.agg #[.int .i64 F.S.ob, s1, s2, s3, s4, .int .i64 F.T.ob, t1, t2, t3, t4, vo, va]) F :: is) w S := by
  obtain ⟨S1, S2, k1, k2, kd, h1, h2⟩ := star_unapp [own1I s1 F.S.s, own1I s2 F.S.t, own1I s3 F.S.e, own2U s4 us F.S.m, own1I t1 F.T.s, own1I t2 F.T.t, own1I t3 F.T.e, own2U t4 ut F.T.m, own1I vo F.o, own1I va F.a] is h
  exact ⟨S1, S2, k1, k2, kd, ownF_starS h1, h2⟩
theorem ownTr_mem {W w' : World} {T : Tra} {x1 x2 x3 x4 x5 x6 x7 x8 x9 x10 x11 x12 x13 x14 x15 x16 x17 x18 x19 x20 x21 : Value} {us ut us' ut' : List Value} {is : List Itm} (M : Mem W w' (own1I x1 T.S.S.s :: own1I x2 T.S.S.t :: own1I x3 T.S.S.e :: own2U x4 us T.S.S.m :: own1I x5 T.S.T.s :: own1I x6 T.S.T.t :: own1I x7 T.S.T.e :: own2U x8 ut T.S.T.m :: own1I x9 T.S.o :: own1I x10 T.S.a :: own1I x11 T.T.S.s :: own1I x12 T.T.S.t :: own1I x13 T.T.S.e :: own2U x14 us' T.T.S.m :: own1I x15 T.T.T.s :: own1I x16 T.T.T.t :: own1I x17 T.T.T.e :: own2U x18 ut' T.T.T.m :: own1I x19 T.T.o :: own1I x20 T.T.a :: own1I x21 T.c :: is)) : OwnTr (.agg #[.int .i64 T.S.S.ob, x1, x2, x3, x4, .int .i64 T.S.T.ob, x5, x6, x7, x8, x9, x10, .int .i64 T.T.S.ob, x11, x12, x13, x14, .int .i64 T.T.T.ob, x15, x16, x17, x18, x19, x20, x21]) T w' (fun k => W.heap.size ≤ k) := by
  have h := star_take _ 3 (star_groupF (star_tl (fun S h => star_tl (fun S h => star_tl (fun S h => star_tl (fun S h => star_tl (fun S h => star_tl (fun S h => star_tl (fun S h => star_tl (fun S h => star_tl (fun S h => star_tl (fun S h => star_groupF h) h) h) h) h) h) h) h) h) h) M.2))
  exact ⟨_, _, _, _, _, _, _, _, _, _, _, _, _, _, _, _, _, _, _, _, _, rfl, h⟩
theorem retTrI_star {W w' : World} {T : Tra} {n : Int} {x1 x2 x3 x4 x5 x6 x7 x8 x9 x10 x11 x12 x13 x14 x15 x16 x17 x18 x19 x20 x21 : Value} {us ut us' ut' : List Value} {is : List Itm} (M : Mem W w' (own1I x1 T.S.S.s :: own1I x2 T.S.S.t :: own1I x3 T.S.S.e :: own2U x4 us T.S.S.m :: own1I x5 T.S.T.s :: own1I x6 T.S.T.t :: own1I x7 T.S.T.e :: own2U x8 ut T.S.T.m :: own1I x9 T.S.o :: own1I x10 T.S.a :: own1I x11 T.T.S.s :: own1I x12 T.T.S.t :: own1I x13 T.T.S.e :: own2U x14 us' T.T.S.m :: own1I x15 T.T.T.s :: own1I x16 T.T.T.t :: own1I x17 T.T.T.e :: own2U x18 ut' T.T.T.m :: own1I x19 T.T.o :: own1I x20 T.T.a :: own1I x21 T.c :: is)) : RetTrI W T n (.returned (.tuple #[.agg #[.int .i64 T.S.S.ob, x1, x2, x3, x4, .int .i64 T.S.T.ob, x5, x6, x7, x8, x9, x10, .int .i64 T.T.S.ob, x11, x12, x13, x14, .int .i64 T.T.T.ob, x15, x16, x17, x18, x19, x20, x21], .int .i64 n])) w' := ⟨_, rfl, ownTr_mem M, M.1⟩
theorem retTr_star {W w' : World} {T : Tra} {x1 x2 x3 x4 x5 x6 x7 x8 x9 x10 x11 x12 x13 x14 x15 x16 x17 x18 x19 x20 x21 : Value} {us ut us' ut' : List Value} {is : List Itm} (M : Mem W w' (own1I x1 T.S.S.s :: own1I x2 T.S.S.t :: own1I x3 T.S.S.e :: own2U x4 us T.S.S.m :: own1I x5 T.S.T.s :: own1I x6 T.S.T.t :: own1I x7 T.S.T.e :: own2U x8 ut T.S.T.m :: own1I x9 T.S.o :: own1I x10 T.S.a :: own1I x11 T.T.S.s :: own1I x12 T.T.S.t :: own1I x13 T.T.S.e :: own2U x14 us' T.T.S.m :: own1I x15 T.T.T.s :: own1I x16 T.T.T.t :: own1I x17 T.T.T.e :: own2U x18 ut' T.T.T.m :: own1I x19 T.T.o :: own1I x20 T.T.a :: own1I x21 T.c :: is)) : RetTr W T (.returned (.agg #[.int .i64 T.S.S.ob, x1, x2, x3, x4, .int .i64 T.S.T.ob, x5, x6, x7, x8, x9, x10, .int .i64 T.T.S.ob, x11, x12, x13, x14, .int .i64 T.T.T.ob, x15, x16, x17, x18, x19, x20, x21])) w' := ⟨_, rfl, ownTr_mem M, M.1⟩
theorem bt_Transformation {o1 o2 o3 o4 : Int} {x1 x2 x3 x4 x5 x6 x7 x8 x9 x10 x11 x12 x13 x14 x15 x16 x17 x18 x19 x20 x21 : Option Addr} {n1 n2 n3 n4 n5 n6 n7 n8 n9 n10 n11 n12 n13 n14 n15 n16 n17 n18 n19 n20 n21 k1 k2 k3 k4 k5 k6 k7 k8 k9 k10 k11 k12 k13 k14 k15 k16 k17 k18 k19 k20 k21 : Nat} : Try.prog.built 36 [(0, .agg #[.int .i64 o1, .slice x1 n1 k1, .slice x2 n2 k2, .slice x3 n3 k3, .slice x4 n4 k4, .int .i64 o2, .slice x5 n5 k5, .slice x6 n6 k6, .slice x7 n7 k7, .slice x8 n8 k8, .slice x9 n9 k9, .slice x10 n10 k10]), (1, .agg #[.int .i64 o3, .slice x11 n11 k11, .slice x12 n12 k12, .slice x13 n13 k13, .slice x14 n14 k14, .int .i64 o4, .slice x15 n15 k15, .slice x16 n16 k16, .slice x17 n17 k17, .slice x18 n18 k18, .slice x19 n19 k19, .slice x20 n20 k20]), (2, .slice x21 n21 k21)] = some #[.int .i64 o1, .slice x1 n1 k1, .slice x2 n2 k2, .slice x3 n3 k3, .slice x4 n4 k4, .int .i64 o2, .slice x5 n5 k5, .slice x6 n6 k6, .slice x7 n7 k7, .slice x8 n8 k8, .slice x9 n9 k9, .slice x10 n10 k10, .int .i64 o3, .slice x11 n11 k11, .slice x12 n12 k12, .slice x13 n13 k13, .slice x14 n14 k14, .int .i64 o4, .slice x15 n15 k15, .slice x16 n16 k16, .slice x17 n17 k17, .slice x18 n18 k18, .slice x19 n19 k19, .slice x20 n20 k20, .slice x21 n21 k21] := by kernel_rfl
theorem bt0_Transformation : Try.prog.built 36 [] = some #[.int .i64 0, .slice none 0 0, .slice none 0 0, .slice none 0 0, .slice none 0 0, .int .i64 0, .slice none 0 0, .slice none 0 0, .slice none 0 0, .slice none 0 0, .slice none 0 0, .slice none 0 0, .int .i64 0, .slice none 0 0, .slice none 0 0, .slice none 0 0, .slice none 0 0, .int .i64 0, .slice none 0 0, .slice none 0 0, .slice none 0 0, .slice none 0 0, .slice none 0 0, .slice none 0 0, .slice none 0 0] := by kernel_rfl
section
variable {w0 : World} {is : List Itm} {ops : Array Oper} {Q : Exit → Act → World → Prop} {o : Oper} {rest : List Oper} {N n m : Nat} {e : Env} {v : Value} {d : Nat} {K : Act → World → Prop} {f : FuncId} {fn : Func} {ags : Array Operand} {ts : Array TypeId} {vs : List Value}
theorem mem_rdTr {w : World} {T : Tra} (M : Mem w0 w is) (h : RdTr w0 v T) : RdTr w v T := rdTr_below M.1 h
theorem mem_ownTr {w : World} {T : Tra} (M : Mem w0 w is) (h : is[n]? = some (ownTrI v T)) : OwnTr v T w (fun k => w0.heap.size ≤ k) := by
  obtain ⟨S, hS, hb⟩ := mem_get M h
  exact (ownTr_loc v T).keep (fun k _ hk => hS k hk) agree_refl hb
theorem retTrI_pass {w' : World} {T : Tra} {c : Int} (M : Mem w0 w' is) (h : is[n]? = some (ownTrI v T)) : RetTrI w0 T c (.returned (.tuple #[v, .int .i64 c])) w' := ⟨_, rfl, mem_ownTr M h, M.1⟩
theorem retTr_pass {w' : World} {T : Tra} (M : Mem w0 w' is) (h : is[n]? = some (ownTrI v T)) : RetTr w0 T (.returned v) w' := ⟨_, rfl, mem_ownTr M h, M.1⟩
theorem go_callTr {T : Tra} (hd : o.dst = some d) (hN : Nat.blt d N = true) (hop : o.op = .call { callee := .value (.func f), args := ags, argTypes := ts }) (hfn : Try.prog.funcs[f]? = some fn) (hb : fn.body.isNone = false) (hn : (fn.name == "runtime.NumGoroutine") = false)
    (hargs : evoL e ags.toList = some vs) (hc : ∀ w, Mem w0 w is → Calls Try.prog f vs.toArray w (RetTr w T))
    (hk : ∀ x1 k1 x2 k2 x3 k3 x4 k4 x5 k5 x6 k6 x7 k7 x8 k8 x9 k9 x10 k10 x11 k11 x12 k12 x13 k13 x14 k14 x15 k15 x16 k16 x17 k17 x18 k18 x19 k19 x20 k20 x21 k21, GK w0 (is ++ [ownTrI (.agg #[.int .i64 T.S.S.ob, .slice x1 T.S.S.s.length k1, .slice x2 T.S.S.t.length k2, .slice x3 T.S.S.e.length k3, .slice x4 T.S.S.m.length k4, .int .i64 T.S.T.ob, .slice x5 T.S.T.s.length k5, .slice x6 T.S.T.t.length k6, .slice x7 T.S.T.e.length k7, .slice x8 T.S.T.m.length k8, .slice x9 T.S.o.length k9, .slice x10 T.S.a.length k10, .int .i64 T.T.S.ob, .slice x11 T.T.S.s.length k11, .slice x12 T.T.S.t.length k12, .slice x13 T.T.S.e.length k13, .slice x14 T.T.S.m.length k14, .int .i64 T.T.T.ob, .slice x15 T.T.T.s.length k15, .slice x16 T.T.T.t.length k16, .slice x17 T.T.T.e.length k17, .slice x18 T.T.T.m.length k18, .slice x19 T.T.o.length k19, .slice x20 T.T.a.length k20, .slice x21 T.c.length k21]) T]) N K ((d, .agg #[.int .i64 T.S.S.ob, .slice x1 T.S.S.s.length k1, .slice x2 T.S.S.t.length k2, .slice x3 T.S.S.e.length k3, .slice x4 T.S.S.m.length k4, .int .i64 T.S.T.ob, .slice x5 T.S.T.s.length k5, .slice x6 T.S.T.t.length k6, .slice x7 T.S.T.e.length k7, .slice x8 T.S.T.m.length k8, .slice x9 T.S.o.length k9, .slice x10 T.S.a.length k10, .int .i64 T.T.S.ob, .slice x11 T.T.S.s.length k11, .slice x12 T.T.S.t.length k12, .slice x13 T.T.S.e.length k13, .slice x14 T.T.S.m.length k14, .int .i64 T.T.T.ob, .slice x15 T.T.T.s.length k15, .slice x16 T.T.T.t.length k16, .slice x17 T.T.T.e.length k17, .slice x18 T.T.T.m.length k18, .slice x19 T.T.o.length k19, .slice x20 T.T.a.length k20, .slice x21 T.c.length k21]) :: e)) : GO w0 is N o e Q K := by
  intro w a M F
  refine go_call hd hN F hop hfn hb hn hargs (hc w M) fun e' w' hR => ?_
  obtain ⟨v, rfl, hs, hbl⟩ := hR
  obtain ⟨x1, x2, x3, x4, x5, x6, x7, x8, x9, x10, x11, x12, x13, x14, x15, x16, x17, x18, x19, x20, x21, k1, k2, k3, k4, k5, k6, k7, k8, k9, k10, k11, k12, k13, k14, k15, k16, k17, k18, k19, k20, k21, rfl, _⟩ := hs.rd.lists
  exact ⟨_, rfl, fun a F => hk x1 k1 x2 k2 x3 k3 x4 k4 x5 k5 x6 k6 x7 k7 x8 k8 x9 k9 x10 k10 x11 k11 x12 k12 x13 k13 x14 k14 x15 k15 x16 k16 x17 k17 x18 k18 x19 k19 x20 k20 x21 k21 w' a (mem_new M hbl hs) F⟩
theorem go_callTrI {T : Tra} {c : Int} (hd : o.dst = some d) (hN : Nat.blt d N = true) (hop : o.op = .call { callee := .value (.func f), args := ags, argTypes := ts }) (hfn : Try.prog.funcs[f]? = some fn) (hb : fn.body.isNone = false) (hn : (fn.name == "runtime.NumGoroutine") = false)
    (hargs : evoL e ags.toList = some vs) (hc : ∀ w, Mem w0 w is → Calls Try.prog f vs.toArray w (RetTrI w T c))
    (hk : ∀ x1 k1 x2 k2 x3 k3 x4 k4 x5 k5 x6 k6 x7 k7 x8 k8 x9 k9 x10 k10 x11 k11 x12 k12 x13 k13 x14 k14 x15 k15 x16 k16 x17 k17 x18 k18 x19 k19 x20 k20 x21 k21, GK w0 (is ++ [ownTrI (.agg #[.int .i64 T.S.S.ob, .slice x1 T.S.S.s.length k1, .slice x2 T.S.S.t.length k2, .slice x3 T.S.S.e.length k3, .slice x4 T.S.S.m.length k4, .int .i64 T.S.T.ob, .slice x5 T.S.T.s.length k5, .slice x6 T.S.T.t.length k6, .slice x7 T.S.T.e.length k7, .slice x8 T.S.T.m.length k8, .slice x9 T.S.o.length k9, .slice x10 T.S.a.length k10, .int .i64 T.T.S.ob, .slice x11 T.T.S.s.length k11, .slice x12 T.T.S.t.length k12, .slice x13 T.T.S.e.length k13, .slice x14 T.T.S.m.length k14, .int .i64 T.T.T.ob, .slice x15 T.T.T.s.length k15, .slice x16 T.T.T.t.length k16, .slice x17 T.T.T.e.length k17, .slice x18 T.T.T.m.length k18, .slice x19 T.T.o.length k19, .slice x20 T.T.a.length k20, .slice x21 T.c.length k21]) T]) N K ((d, .tuple #[.agg #[.int .i64 T.S.S.ob, .slice x1 T.S.S.s.length k1, .slice x2 T.S.S.t.length k2, .slice x3 T.S.S.e.length k3, .slice x4 T.S.S.m.length k4, .int .i64 T.S.T.ob, .slice x5 T.S.T.s.length k5, .slice x6 T.S.T.t.length k6, .slice x7 T.S.T.e.length k7, .slice x8 T.S.T.m.length k8, .slice x9 T.S.o.length k9, .slice x10 T.S.a.length k10, .int .i64 T.T.S.ob, .slice x11 T.T.S.s.length k11, .slice x12 T.T.S.t.length k12, .slice x13 T.T.S.e.length k13, .slice x14 T.T.S.m.length k14, .int .i64 T.T.T.ob, .slice x15 T.T.T.s.length k15, .slice x16 T.T.T.t.length k16, .slice x17 T.T.T.e.length k17, .slice x18 T.T.T.m.length k18, .slice x19 T.T.o.length k19, .slice x20 T.T.a.length k20, .slice x21 T.c.length k21], .int .i64 c]) :: e)) : GO w0 is N o e Q K := by
  intro w a M F
  refine go_call hd hN F hop hfn hb hn hargs (hc w M) fun e' w' hR => ?_
  obtain ⟨v, rfl, hs, hbl⟩ := hR
  obtain ⟨x1, x2, x3, x4, x5, x6, x7, x8, x9, x10, x11, x12, x13, x14, x15, x16, x17, x18, x19, x20, x21, k1, k2, k3, k4, k5, k6, k7, k8, k9, k10, k11, k12, k13, k14, k15, k16, k17, k18, k19, k20, k21, rfl, _⟩ := hs.rd.lists
  exact ⟨_, rfl, fun a F => hk x1 k1 x2 k2 x3 k3 x4 k4 x5 k5 x6 k6 x7 k7 x8 k8 x9 k9 x10 k10 x11 k11 x12 k12 x13 k13 x14 k14 x15 k15 x16 k16 x17 k17 x18 k18 x19 k19 x20 k20 x21 k21 w' a (mem_new M hbl hs) F⟩
end

set_option maxHeartbeats 1000000 in
set_option maxRecDepth 100000 in
theorem szTr_le (w : World) (v : Value) (T : Tra) (left : Int) (h : InTr w v T) (h0 : 0 ≤ left) (h1 : left ≤ 1048576) (hl : ((szTr T : Nat) : Int) ≤ left) :
    Calls Try.prog 13 #[v, .int .i64 left] w (RetI w (left - ((szTr T : Nat) : Int))) := by
  obtain ⟨vx1, vx2, vx3, vx4, vx5, vx6, vx7, vx8, vx9, vx10, vx11, vx12, vx13, vx14, vx15, vx16, vx17, vx18, vx19, vx20, vx21, vk1, vk2, vk3, vk4, vk5, vk6, vk7, vk8, vk9, vk10, vk11, vk12, vk13, vk14, vk15, vk16, vk17, vk18, vk19, vk20, vk21, rfl, h1, h2, h3⟩ := h.form
  have hsz : szTr T = szFn T.S + szFn T.T + T.c.length := rfl
  go_enter Try.func13, Try.ntmps13
  refine gc_enter (N := 24) rfl (look_cons (k := 0) rfl (look_cons (k := 1) rfl (look_nil _))) ?_
  refine gc_seq fun K1 hK1 => ?_
  refine gc_region ?_
  refine g_op (.free rfl) fun K3 hK3 => ?_
  refine go_box rfl rfl rfl rfl rfl ?_
  intro B2
  refine hK3 _ _ ?_
  refine g_v (.free rfl) rfl rfl (qt_assign rfl rfl) ?_
  refine g_nil ?_
  refine gk_then (hK1 _ _ ?_)
  refine gc_seq fun K4 hK4 => ?_
  refine gc_region ?_
  refine g_v (.free rfl) rfl rfl (qt_field (z := 11) (off := 0) rfl rfl Try.underlying29 rfl (by kernel_rfl) rfl) ?_
  refine g_v (.free rfl) rfl rfl (qt_loadP (n := 0) (z := 12) rfl rfl Try.underlying27 rfl (by kernel_rfl) rfl (by first | decide | exact Nat.le_refl _ | simp)) ?_
  refine g_v (.free rfl) rfl rfl (qt_move rfl rfl) ?_
  refine g_q (.free rfl) rfl rfl (qt_call rfl Try.func20 rfl (by decide) rfl (fun w M => szF_le w _ _ _ (inF_below M.1 h1) (by first | assumption | omega) (by first | assumption | omega) (by first | assumption | omega))) ?_
  refine g_v (.free rfl) rfl rfl (qt_assign rfl rfl) ?_
  refine g_nil ?_
  refine gk_then (hK4 _ _ ?_)
  refine gc_seq fun K5 hK5 => ?_
  refine gc_seq fun K6 hK6 => ?_
  refine gc_region ?_
  refine g_v (.free rfl) rfl rfl (qt_move rfl rfl) ?_
  refine g_v (.free rfl) rfl rfl (qt_lss rfl rfl rfl) ?_
  refine g_nil ?_
  refine gk_then (hK6 _ _ ?_)
  refine gc_cond rfl (fun hc0 => ?_) (fun hc0 => ?_)
  · try simp only [decide_eq_true_eq, decide_eq_false_iff_not, Bool.not_eq_true', Bool.not_eq_false', Bool.not_eq_eq_eq_not, Bool.not_true, Bool.not_false, ne_eq, Decidable.not_not, Classical.not_not] at hc0
    exfalso; omega
  · try simp only [decide_eq_true_eq, decide_eq_false_iff_not, Bool.not_eq_true', Bool.not_eq_false', Bool.not_eq_eq_eq_not, Bool.not_true, Bool.not_false, ne_eq, Decidable.not_not, Classical.not_not] at hc0
    refine gc_skip ?_
    refine gk_then (hK5 _ _ ?_)
    refine gc_seq fun K7 hK7 => ?_
    refine gc_region ?_
    refine g_v (.free rfl) rfl rfl (qt_field (z := 11) (off := 12) rfl rfl Try.underlying29 rfl (by kernel_rfl) rfl) ?_
    refine g_v (.free rfl) rfl rfl (qt_loadP (n := 0) (z := 12) rfl rfl Try.underlying27 rfl (by kernel_rfl) rfl (by first | decide | exact Nat.le_refl _ | simp)) ?_
    refine g_v (.free rfl) rfl rfl (qt_move rfl rfl) ?_
    refine g_q (.free rfl) rfl rfl (qt_call rfl Try.func20 rfl (by decide) rfl (fun w M => szF_le w _ _ _ (inF_below M.1 h2) (by first | assumption | omega) (by first | assumption | omega) (by first | assumption | omega))) ?_
    refine g_v (.free rfl) rfl rfl (qt_assign rfl rfl) ?_
    refine g_nil ?_
    refine gk_then (hK7 _ _ ?_)
    refine gc_seq fun K8 hK8 => ?_
    refine gc_seq fun K9 hK9 => ?_
    refine gc_region ?_
    refine g_v (.free rfl) rfl rfl (qt_move rfl rfl) ?_
    refine g_v (.free rfl) rfl rfl (qt_lss rfl rfl rfl) ?_
    refine g_nil ?_
    refine gk_then (hK9 _ _ ?_)
    refine gc_cond rfl (fun hc1 => ?_) (fun hc1 => ?_)
    · try simp only [decide_eq_true_eq, decide_eq_false_iff_not, Bool.not_eq_true', Bool.not_eq_false', Bool.not_eq_eq_eq_not, Bool.not_true, Bool.not_false, ne_eq, Decidable.not_not, Classical.not_not] at hc1
      exfalso; omega
    · try simp only [decide_eq_true_eq, decide_eq_false_iff_not, Bool.not_eq_true', Bool.not_eq_false', Bool.not_eq_eq_eq_not, Bool.not_true, Bool.not_false, ne_eq, Decidable.not_not, Classical.not_not] at hc1
      refine gc_skip ?_
      refine gk_then (hK8 _ _ ?_)
      refine gc_seq fun K10 hK10 => ?_
      refine gc_region ?_
      refine g_v (.free rfl) rfl rfl (qt_field (z := 0) (off := 24) rfl rfl Try.underlying29 rfl (by kernel_rfl) rfl) ?_
      refine g_v (.free rfl) rfl rfl (qt_loadB (n := 0) rfl rfl Try.underlying22 rfl rfl rfl) ?_
      refine g_v (.free rfl) rfl rfl (qt_move rfl rfl) ?_
      refine g_q (.free rfl) rfl rfl (qt_call rfl Try.func43 rfl (by decide) rfl (fun w M => sz1_le w _ _ _ (in_below M.1 h3) (by first | assumption | omega) (by first | assumption | omega) (by first | assumption | omega))) ?_
      refine g_v (.free rfl) rfl rfl (qt_assign rfl rfl) ?_
      refine g_nil ?_
      refine gk_then (hK10 _ _ ?_)
      refine gc_seq fun K11 hK11 => ?_
      refine gc_seq fun K12 hK12 => ?_
      refine gc_region ?_
      refine g_v (.free rfl) rfl rfl (qt_move rfl rfl) ?_
      refine g_v (.free rfl) rfl rfl (qt_lss rfl rfl rfl) ?_
      refine g_nil ?_
      refine gk_then (hK12 _ _ ?_)
      refine gc_cond rfl (fun hc2 => ?_) (fun hc2 => ?_)
      · try simp only [decide_eq_true_eq, decide_eq_false_iff_not, Bool.not_eq_true', Bool.not_eq_false', Bool.not_eq_eq_eq_not, Bool.not_true, Bool.not_false, ne_eq, Decidable.not_not, Classical.not_not] at hc2
        exfalso; omega
      · try simp only [decide_eq_true_eq, decide_eq_false_iff_not, Bool.not_eq_true', Bool.not_eq_false', Bool.not_eq_eq_eq_not, Bool.not_true, Bool.not_false, ne_eq, Decidable.not_not, Classical.not_not] at hc2
        refine gc_skip ?_
        refine gk_then (hK11 _ _ ?_)
        refine gc_seq fun K13 hK13 => ?_
        refine gc_region ?_
        refine g_v (.free rfl) rfl rfl (qt_move rfl rfl) ?_
        refine g_v (.free rfl) rfl rfl (qt_assign rfl rfl) ?_
        refine g_nil ?_
        refine gk_then (hK13 _ _ ?_)
        refine gc_ret ?_
        refine ret_1 rfl rfl  (fun w M => ?_)
        rw [show left - ((szTr T : Nat) : Int) = left - ((szFn T.S : Nat) : Int) - ((szFn T.T : Nat) : Int) - T.c.length from by omega]; exact ⟨rfl, M.1⟩

set_option maxHeartbeats 1000000 in
set_option maxRecDepth 100000 in
theorem szTr_big0 (w : World) (v : Value) (T : Tra) (left : Int) (h : InTr w v T) (h0 : 0 ≤ left) (h1 : left ≤ 1048576) (nl : ¬ ((szFn T.S : Nat) : Int) ≤ left) :
    Calls Try.prog 13 #[v, .int .i64 left] w (RetI w (-1)) := by
  obtain ⟨vx1, vx2, vx3, vx4, vx5, vx6, vx7, vx8, vx9, vx10, vx11, vx12, vx13, vx14, vx15, vx16, vx17, vx18, vx19, vx20, vx21, vk1, vk2, vk3, vk4, vk5, vk6, vk7, vk8, vk9, vk10, vk11, vk12, vk13, vk14, vk15, vk16, vk17, vk18, vk19, vk20, vk21, rfl, h1, h2, h3⟩ := h.form
  go_enter Try.func13, Try.ntmps13
  refine gc_enter (N := 24) rfl (look_cons (k := 0) rfl (look_cons (k := 1) rfl (look_nil _))) ?_
  refine gc_seq fun K1 hK1 => ?_
  refine gc_region ?_
  refine g_op (.free rfl) fun K3 hK3 => ?_
  refine go_box rfl rfl rfl rfl rfl ?_
  intro B2
  refine hK3 _ _ ?_
  refine g_v (.free rfl) rfl rfl (qt_assign rfl rfl) ?_
  refine g_nil ?_
  refine gk_then (hK1 _ _ ?_)
  refine gc_seq fun K4 hK4 => ?_
  refine gc_region ?_
  refine g_v (.free rfl) rfl rfl (qt_field (z := 11) (off := 0) rfl rfl Try.underlying29 rfl (by kernel_rfl) rfl) ?_
  refine g_v (.free rfl) rfl rfl (qt_loadP (n := 0) (z := 12) rfl rfl Try.underlying27 rfl (by kernel_rfl) rfl (by first | decide | exact Nat.le_refl _ | simp)) ?_
  refine g_v (.free rfl) rfl rfl (qt_move rfl rfl) ?_
  refine g_q (.free rfl) rfl rfl (qt_call rfl Try.func20 rfl (by decide) rfl (fun w M => szF_gt w _ _ _ (inF_below M.1 h1) (by first | assumption | omega) (by first | assumption | omega) (by first | assumption | omega))) ?_
  refine g_v (.free rfl) rfl rfl (qt_assign rfl rfl) ?_
  refine g_nil ?_
  refine gk_then (hK4 _ _ ?_)
  refine gc_seq fun K5 hK5 => ?_
  refine gc_seq fun K6 hK6 => ?_
  refine gc_region ?_
  refine g_v (.free rfl) rfl rfl (qt_move rfl rfl) ?_
  refine g_v (.free rfl) rfl rfl (qt_lss_t rfl rfl rfl (by decide)) ?_
  refine g_nil ?_
  refine gk_then (hK6 _ _ ?_)
  refine gc_cond_t rfl ?_
  refine gc_seq fun K7 hK7 => ?_
  refine gc_region ?_
  refine g_v (.free rfl) rfl rfl (qt_assign rfl rfl) ?_
  refine g_nil ?_
  refine gk_then (hK7 _ _ ?_)
  refine gc_ret ?_
  refine gk_then_ret ?_
  refine ret_1 rfl rfl  (fun w M => ?_)
  exact ⟨rfl, M.1⟩

set_option maxHeartbeats 1000000 in
set_option maxRecDepth 100000 in
theorem szTr_big1 (w : World) (v : Value) (T : Tra) (left : Int) (h : InTr w v T) (h0 : 0 ≤ left) (h1 : left ≤ 1048576) (l0 : ((szFn T.S : Nat) : Int) ≤ left) (nl : ¬ ((szFn T.T : Nat) : Int) ≤ left - szFn T.S) :
    Calls Try.prog 13 #[v, .int .i64 left] w (RetI w (-1)) := by
  obtain ⟨vx1, vx2, vx3, vx4, vx5, vx6, vx7, vx8, vx9, vx10, vx11, vx12, vx13, vx14, vx15, vx16, vx17, vx18, vx19, vx20, vx21, vk1, vk2, vk3, vk4, vk5, vk6, vk7, vk8, vk9, vk10, vk11, vk12, vk13, vk14, vk15, vk16, vk17, vk18, vk19, vk20, vk21, rfl, h1, h2, h3⟩ := h.form
  go_enter Try.func13, Try.ntmps13
  refine gc_enter (N := 24) rfl (look_cons (k := 0) rfl (look_cons (k := 1) rfl (look_nil _))) ?_
  refine gc_seq fun K1 hK1 => ?_
  refine gc_region ?_
  refine g_op (.free rfl) fun K3 hK3 => ?_
  refine go_box rfl rfl rfl rfl rfl ?_
  intro B2
  refine hK3 _ _ ?_
  refine g_v (.free rfl) rfl rfl (qt_assign rfl rfl) ?_
  refine g_nil ?_
  refine gk_then (hK1 _ _ ?_)
  refine gc_seq fun K4 hK4 => ?_
  refine gc_region ?_
  refine g_v (.free rfl) rfl rfl (qt_field (z := 11) (off := 0) rfl rfl Try.underlying29 rfl (by kernel_rfl) rfl) ?_
  refine g_v (.free rfl) rfl rfl (qt_loadP (n := 0) (z := 12) rfl rfl Try.underlying27 rfl (by kernel_rfl) rfl (by first | decide | exact Nat.le_refl _ | simp)) ?_
  refine g_v (.free rfl) rfl rfl (qt_move rfl rfl) ?_
  refine g_q (.free rfl) rfl rfl (qt_call rfl Try.func20 rfl (by decide) rfl (fun w M => szF_le w _ _ _ (inF_below M.1 h1) (by first | assumption | omega) (by first | assumption | omega) (by first | assumption | omega))) ?_
  refine g_v (.free rfl) rfl rfl (qt_assign rfl rfl) ?_
  refine g_nil ?_
  refine gk_then (hK4 _ _ ?_)
  refine gc_seq fun K5 hK5 => ?_
  refine gc_seq fun K6 hK6 => ?_
  refine gc_region ?_
  refine g_v (.free rfl) rfl rfl (qt_move rfl rfl) ?_
  refine g_v (.free rfl) rfl rfl (qt_lss rfl rfl rfl) ?_
  refine g_nil ?_
  refine gk_then (hK6 _ _ ?_)
  refine gc_cond rfl (fun hc0 => ?_) (fun hc0 => ?_)
  · try simp only [decide_eq_true_eq, decide_eq_false_iff_not, Bool.not_eq_true', Bool.not_eq_false', Bool.not_eq_eq_eq_not, Bool.not_true, Bool.not_false, ne_eq, Decidable.not_not, Classical.not_not] at hc0
    exfalso; omega
  · try simp only [decide_eq_true_eq, decide_eq_false_iff_not, Bool.not_eq_true', Bool.not_eq_false', Bool.not_eq_eq_eq_not, Bool.not_true, Bool.not_false, ne_eq, Decidable.not_not, Classical.not_not] at hc0
    refine gc_skip ?_
    refine gk_then (hK5 _ _ ?_)
    refine gc_seq fun K7 hK7 => ?_
    refine gc_region ?_
    refine g_v (.free rfl) rfl rfl (qt_field (z := 11) (off := 12) rfl rfl Try.underlying29 rfl (by kernel_rfl) rfl) ?_
    refine g_v (.free rfl) rfl rfl (qt_loadP (n := 0) (z := 12) rfl rfl Try.underlying27 rfl (by kernel_rfl) rfl (by first | decide | exact Nat.le_refl _ | simp)) ?_
    refine g_v (.free rfl) rfl rfl (qt_move rfl rfl) ?_
    refine g_q (.free rfl) rfl rfl (qt_call rfl Try.func20 rfl (by decide) rfl (fun w M => szF_gt w _ _ _ (inF_below M.1 h2) (by first | assumption | omega) (by first | assumption | omega) (by first | assumption | omega))) ?_
    refine g_v (.free rfl) rfl rfl (qt_assign rfl rfl) ?_
    refine g_nil ?_
    refine gk_then (hK7 _ _ ?_)
    refine gc_seq fun K8 hK8 => ?_
    refine gc_seq fun K9 hK9 => ?_
    refine gc_region ?_
    refine g_v (.free rfl) rfl rfl (qt_move rfl rfl) ?_
    refine g_v (.free rfl) rfl rfl (qt_lss_t rfl rfl rfl (by decide)) ?_
    refine g_nil ?_
    refine gk_then (hK9 _ _ ?_)
    refine gc_cond_t rfl ?_
    refine gc_seq fun K10 hK10 => ?_
    refine gc_region ?_
    refine g_v (.free rfl) rfl rfl (qt_assign rfl rfl) ?_
    refine g_nil ?_
    refine gk_then (hK10 _ _ ?_)
    refine gc_ret ?_
    refine gk_then_ret ?_
    refine ret_1 rfl rfl  (fun w M => ?_)
    exact ⟨rfl, M.1⟩

set_option maxHeartbeats 1000000 in
set_option maxRecDepth 100000 in
theorem szTr_big2 (w : World) (v : Value) (T : Tra) (left : Int) (h : InTr w v T) (h0 : 0 ≤ left) (h1 : left ≤ 1048576) (l0 : ((szFn T.S : Nat) : Int) ≤ left) (l1 : ((szFn T.T : Nat) : Int) ≤ left - szFn T.S) (nl : ¬ (T.c.length : Int) ≤ left - szFn T.S - szFn T.T) :
    Calls Try.prog 13 #[v, .int .i64 left] w (RetI w (-1)) := by
  obtain ⟨vx1, vx2, vx3, vx4, vx5, vx6, vx7, vx8, vx9, vx10, vx11, vx12, vx13, vx14, vx15, vx16, vx17, vx18, vx19, vx20, vx21, vk1, vk2, vk3, vk4, vk5, vk6, vk7, vk8, vk9, vk10, vk11, vk12, vk13, vk14, vk15, vk16, vk17, vk18, vk19, vk20, vk21, rfl, h1, h2, h3⟩ := h.form
  go_enter Try.func13, Try.ntmps13
  refine gc_enter (N := 24) rfl (look_cons (k := 0) rfl (look_cons (k := 1) rfl (look_nil _))) ?_
  refine gc_seq fun K1 hK1 => ?_
  refine gc_region ?_
  refine g_op (.free rfl) fun K3 hK3 => ?_
  refine go_box rfl rfl rfl rfl rfl ?_
  intro B2
  refine hK3 _ _ ?_
  refine g_v (.free rfl) rfl rfl (qt_assign rfl rfl) ?_
  refine g_nil ?_
  refine gk_then (hK1 _ _ ?_)
  refine gc_seq fun K4 hK4 => ?_
  refine gc_region ?_
  refine g_v (.free rfl) rfl rfl (qt_field (z := 11) (off := 0) rfl rfl Try.underlying29 rfl (by kernel_rfl) rfl) ?_
  refine g_v (.free rfl) rfl rfl (qt_loadP (n := 0) (z := 12) rfl rfl Try.underlying27 rfl (by kernel_rfl) rfl (by first | decide | exact Nat.le_refl _ | simp)) ?_
  refine g_v (.free rfl) rfl rfl (qt_move rfl rfl) ?_
  refine g_q (.free rfl) rfl rfl (qt_call rfl Try.func20 rfl (by decide) rfl (fun w M => szF_le w _ _ _ (inF_below M.1 h1) (by first | assumption | omega) (by first | assumption | omega) (by first | assumption | omega))) ?_
  refine g_v (.free rfl) rfl rfl (qt_assign rfl rfl) ?_
  refine g_nil ?_
  refine gk_then (hK4 _ _ ?_)
  refine gc_seq fun K5 hK5 => ?_
  refine gc_seq fun K6 hK6 => ?_
  refine gc_region ?_
  refine g_v (.free rfl) rfl rfl (qt_move rfl rfl) ?_
  refine g_v (.free rfl) rfl rfl (qt_lss rfl rfl rfl) ?_
  refine g_nil ?_
  refine gk_then (hK6 _ _ ?_)
  refine gc_cond rfl (fun hc0 => ?_) (fun hc0 => ?_)
  · try simp only [decide_eq_true_eq, decide_eq_false_iff_not, Bool.not_eq_true', Bool.not_eq_false', Bool.not_eq_eq_eq_not, Bool.not_true, Bool.not_false, ne_eq, Decidable.not_not, Classical.not_not] at hc0
    exfalso; omega
  · try simp only [decide_eq_true_eq, decide_eq_false_iff_not, Bool.not_eq_true', Bool.not_eq_false', Bool.not_eq_eq_eq_not, Bool.not_true, Bool.not_false, ne_eq, Decidable.not_not, Classical.not_not] at hc0
    refine gc_skip ?_
    refine gk_then (hK5 _ _ ?_)
    refine gc_seq fun K7 hK7 => ?_
    refine gc_region ?_
    refine g_v (.free rfl) rfl rfl (qt_field (z := 11) (off := 12) rfl rfl Try.underlying29 rfl (by kernel_rfl) rfl) ?_
    refine g_v (.free rfl) rfl rfl (qt_loadP (n := 0) (z := 12) rfl rfl Try.underlying27 rfl (by kernel_rfl) rfl (by first | decide | exact Nat.le_refl _ | simp)) ?_
    refine g_v (.free rfl) rfl rfl (qt_move rfl rfl) ?_
    refine g_q (.free rfl) rfl rfl (qt_call rfl Try.func20 rfl (by decide) rfl (fun w M => szF_le w _ _ _ (inF_below M.1 h2) (by first | assumption | omega) (by first | assumption | omega) (by first | assumption | omega))) ?_
    refine g_v (.free rfl) rfl rfl (qt_assign rfl rfl) ?_
    refine g_nil ?_
    refine gk_then (hK7 _ _ ?_)
    refine gc_seq fun K8 hK8 => ?_
    refine gc_seq fun K9 hK9 => ?_
    refine gc_region ?_
    refine g_v (.free rfl) rfl rfl (qt_move rfl rfl) ?_
    refine g_v (.free rfl) rfl rfl (qt_lss rfl rfl rfl) ?_
    refine g_nil ?_
    refine gk_then (hK9 _ _ ?_)
    refine gc_cond rfl (fun hc1 => ?_) (fun hc1 => ?_)
    · try simp only [decide_eq_true_eq, decide_eq_false_iff_not, Bool.not_eq_true', Bool.not_eq_false', Bool.not_eq_eq_eq_not, Bool.not_true, Bool.not_false, ne_eq, Decidable.not_not, Classical.not_not] at hc1
      exfalso; omega
    · try simp only [decide_eq_true_eq, decide_eq_false_iff_not, Bool.not_eq_true', Bool.not_eq_false', Bool.not_eq_eq_eq_not, Bool.not_true, Bool.not_false, ne_eq, Decidable.not_not, Classical.not_not] at hc1
      refine gc_skip ?_
      refine gk_then (hK8 _ _ ?_)
      refine gc_seq fun K10 hK10 => ?_
      refine gc_region ?_
      refine g_v (.free rfl) rfl rfl (qt_field (z := 0) (off := 24) rfl rfl Try.underlying29 rfl (by kernel_rfl) rfl) ?_
      refine g_v (.free rfl) rfl rfl (qt_loadB (n := 0) rfl rfl Try.underlying22 rfl rfl rfl) ?_
      refine g_v (.free rfl) rfl rfl (qt_move rfl rfl) ?_
      refine g_q (.free rfl) rfl rfl (qt_call rfl Try.func43 rfl (by decide) rfl (fun w M => sz1_gt w _ _ _ (in_below M.1 h3) (by first | assumption | omega) (by first | assumption | omega) (by first | assumption | omega))) ?_
      refine g_v (.free rfl) rfl rfl (qt_assign rfl rfl) ?_
      refine g_nil ?_
      refine gk_then (hK10 _ _ ?_)
      refine gc_seq fun K11 hK11 => ?_
      refine gc_seq fun K12 hK12 => ?_
      refine gc_region ?_
      refine g_v (.free rfl) rfl rfl (qt_move rfl rfl) ?_
      refine g_v (.free rfl) rfl rfl (qt_lss_t rfl rfl rfl (by decide)) ?_
      refine g_nil ?_
      refine gk_then (hK12 _ _ ?_)
      refine gc_cond_t rfl ?_
      refine gc_seq fun K13 hK13 => ?_
      refine gc_region ?_
      refine g_v (.free rfl) rfl rfl (qt_assign rfl rfl) ?_
      refine g_nil ?_
      refine gk_then (hK13 _ _ ?_)
      refine gc_ret ?_
      refine gk_then_ret ?_
      refine ret_1 rfl rfl  (fun w M => ?_)
      exact ⟨rfl, M.1⟩


theorem szTr_gt (w : World) (v : Value) (T : Tra) (left : Int) (h : InTr w v T) (h0 : 0 ≤ left) (h1 : left ≤ 1048576) (hl : ¬ ((szTr T : Nat) : Int) ≤ left) : Calls Try.prog 13 #[v, .int .i64 left] w (RetI w (-1)) := by
  have hsz : szTr T = szFn T.S + szFn T.T + T.c.length := rfl
  by_cases l0 : ((szFn T.S : Nat) : Int) ≤ left
  · by_cases l1 : ((szFn T.T : Nat) : Int) ≤ left - szFn T.S
    · exact szTr_big2 w v T left h h0 h1 l0 l1 (by omega)
    · exact szTr_big1 w v T left h h0 h1 l0 l1
  · exact szTr_big0 w v T left h h0 h1 l0

set_option maxHeartbeats 1000000 in
set_option maxRecDepth 100000 in
theorem toTr_any (w : World) (v : Value) (T : Tra) (h : RdTr w v T) :
    Calls Try.prog 15 #[v] w (RetTr w T) := by
  have h0 := h
  obtain ⟨vx1, vx2, vx3, vx4, vx5, vx6, vx7, vx8, vx9, vx10, vx11, vx12, vx13, vx14, vx15, vx16, vx17, vx18, vx19, vx20, vx21, vk1, vk2, vk3, vk4, vk5, vk6, vk7, vk8, vk9, vk10, vk11, vk12, vk13, vk14, vk15, vk16, vk17, vk18, vk19, vk20, vk21, rfl, h1, h2, h3, h4, h5, h6, h7, h8, h9, h10, h11, h12, h13, h14, h15, h16, h17, h18, h19, h20, h21⟩ := h.lists
  go_enter Try.func15, Try.ntmps15
  refine gc_enter (N := 17) rfl (look_cons (k := 0) rfl (look_nil _)) ?_
  refine gc_seq fun K1 hK1 => ?_
  refine gc_region ?_
  refine g_op (.free rfl) fun K3 hK3 => ?_
  refine go_box rfl rfl rfl rfl rfl ?_
  intro B2
  refine hK3 _ _ ?_
  refine g_op (.free rfl) fun K5 hK5 => ?_
  refine go_alloc (z := (.agg #[.int .i64 0, .slice none 0 0, .slice none 0 0, .slice none 0 0, .slice none 0 0, .int .i64 0, .slice none 0 0, .slice none 0 0, .slice none 0 0, .slice none 0 0, .slice none 0 0, .slice none 0 0, .int .i64 0, .slice none 0 0, .slice none 0 0, .slice none 0 0, .slice none 0 0, .int .i64 0, .slice none 0 0, .slice none 0 0, .slice none 0 0, .slice none 0 0, .slice none 0 0, .slice none 0 0, .slice none 0 0])) (cs := [.int .i64 0, .slice none 0 0, .slice none 0 0, .slice none 0 0, .slice none 0 0, .int .i64 0, .slice none 0 0, .slice none 0 0, .slice none 0 0, .slice none 0 0, .slice none 0 0, .slice none 0 0, .int .i64 0, .slice none 0 0, .slice none 0 0, .slice none 0 0, .slice none 0 0, .int .i64 0, .slice none 0 0, .slice none 0 0, .slice none 0 0, .slice none 0 0, .slice none 0 0, .slice none 0 0, .slice none 0 0]) rfl rfl rfl (fun w => by kernel_rfl) rfl ?_
  intro B4
  refine hK5 _ _ ?_
  refine g_nil ?_
  refine gk_then (hK1 _ _ ?_)
  refine gc_seq fun K6 hK6 => ?_
  refine gc_region ?_
  refine g_op (.free rfl) fun K8 hK8 => ?_
  refine go_alloc (z := (.agg #[.int .i64 0, .slice none 0 0, .slice none 0 0, .slice none 0 0, .slice none 0 0, .int .i64 0, .slice none 0 0, .slice none 0 0, .slice none 0 0, .slice none 0 0, .slice none 0 0, .slice none 0 0, .int .i64 0, .slice none 0 0, .slice none 0 0, .slice none 0 0, .slice none 0 0, .int .i64 0, .slice none 0 0, .slice none 0 0, .slice none 0 0, .slice none 0 0, .slice none 0 0, .slice none 0 0, .slice none 0 0])) (cs := [.int .i64 0, .slice none 0 0, .slice none 0 0, .slice none 0 0, .slice none 0 0, .int .i64 0, .slice none 0 0, .slice none 0 0, .slice none 0 0, .slice none 0 0, .slice none 0 0, .slice none 0 0, .int .i64 0, .slice none 0 0, .slice none 0 0, .slice none 0 0, .slice none 0 0, .int .i64 0, .slice none 0 0, .slice none 0 0, .slice none 0 0, .slice none 0 0, .slice none 0 0, .slice none 0 0, .slice none 0 0]) rfl rfl rfl (fun w => by kernel_rfl) rfl ?_
  intro B7
  refine hK8 _ _ ?_
  refine g_nil ?_
  refine gk_then (hK6 _ _ ?_)
  refine gc_seq fun K9 hK9 => ?_
  refine gc_region ?_
  refine g_v (.free rfl) rfl rfl (qt_field (z := 11) (off := 0) rfl rfl Try.underlying29 rfl (by kernel_rfl) rfl) ?_
  refine g_v (.free rfl) rfl rfl (qt_loadP (n := 0) (z := 12) rfl rfl Try.underlying27 rfl (by kernel_rfl) rfl (by first | decide | exact Nat.le_refl _ | simp)) ?_
  refine g_op (.free rfl) fun K11 hK11 => ?_
  refine go_callFn rfl rfl rfl Try.func22 rfl (by decide) rfl (fun w M => toF_any w _ _ (mem_rdF M (rdTr_parts h0).1)) ?_
  intro fx1_10 fk1_10 fx2_10 fk2_10 fx3_10 fk3_10 fx4_10 fk4_10 fx5_10 fk5_10 fx6_10 fk6_10 fx7_10 fk7_10 fx8_10 fk8_10 fx9_10 fk9_10 fx10_10 fk10_10 us10 ut10
  refine hK11 _ _ ?_
  refine g_v (.free rfl) rfl rfl (qt_field (z := 11) (off := 0) rfl rfl Try.underlying36 rfl (by kernel_rfl) rfl) ?_
  refine g_op (.free rfl) fun K13 hK13 => ?_
  refine go_storeP (n := 2) (j := 0) 12 rfl rfl rfl rfl (by kernel_rfl) rfl rfl rfl (by first | decide | simp) ?_
  intro cs12 hcs12; simp only [List.take_succ_cons, List.take_zero, List.drop_succ_cons, List.drop_zero, List.cons_append, List.nil_append] at hcs12; subst hcs12
  refine hK13 _ _ ?_
  refine g_nil ?_
  refine gk_then (hK9 _ _ ?_)
  refine gc_seq fun K14 hK14 => ?_
  refine gc_region ?_
  refine g_v (.free rfl) rfl rfl (qt_field (z := 11) (off := 12) rfl rfl Try.underlying29 rfl (by kernel_rfl) rfl) ?_
  refine g_v (.free rfl) rfl rfl (qt_loadP (n := 0) (z := 12) rfl rfl Try.underlying27 rfl (by kernel_rfl) rfl (by first | decide | exact Nat.le_refl _ | simp)) ?_
  refine g_op (.free rfl) fun K16 hK16 => ?_
  refine go_callFn rfl rfl rfl Try.func22 rfl (by decide) rfl (fun w M => toF_any w _ _ (mem_rdF M (rdTr_parts h0).2.1)) ?_
  intro fx1_15 fk1_15 fx2_15 fk2_15 fx3_15 fk3_15 fx4_15 fk4_15 fx5_15 fk5_15 fx6_15 fk6_15 fx7_15 fk7_15 fx8_15 fk8_15 fx9_15 fk9_15 fx10_15 fk10_15 us15 ut15
  refine hK16 _ _ ?_
  refine g_v (.free rfl) rfl rfl (qt_field (z := 11) (off := 12) rfl rfl Try.underlying36 rfl (by kernel_rfl) rfl) ?_
  refine g_op (.free rfl) fun K18 hK18 => ?_
  refine go_storeP (n := 2) (j := 12) 24 rfl rfl rfl rfl (by kernel_rfl) rfl rfl rfl (by first | decide | simp) ?_
  intro cs17 hcs17; simp only [List.take_succ_cons, List.take_zero, List.drop_succ_cons, List.drop_zero, List.cons_append, List.nil_append] at hcs17; subst hcs17
  refine hK18 _ _ ?_
  refine g_nil ?_
  refine gk_then (hK14 _ _ ?_)
  refine gc_seq fun K19 hK19 => ?_
  refine gc_region ?_
  refine g_v (.free rfl) rfl rfl (qt_field (z := 0) (off := 24) rfl rfl Try.underlying29 rfl (by kernel_rfl) rfl) ?_
  refine g_v (.free rfl) rfl rfl (qt_loadB (n := 0) rfl rfl Try.underlying22 rfl rfl rfl) ?_
  refine g_op (.free rfl) fun K21 hK21 => ?_
  refine go_callL rfl rfl rfl Try.func45 rfl (by decide) rfl (fun w M => to_any w _ _ (mem_rd M h21)) ?_
  intro va20 vc20
  refine hK21 _ _ ?_
  refine g_v (.free rfl) rfl rfl (qt_field (z := 0) (off := 24) rfl rfl Try.underlying36 rfl (by kernel_rfl) rfl) ?_
  refine g_op (.free rfl) fun K22 hK22 => ?_
  refine go_storeB (n := 2) rfl rfl rfl rfl (by kernel_rfl) rfl rfl rfl (by first | decide | simp) ?_
  refine hK22 _ _ ?_
  refine g_nil ?_
  refine gk_then (hK19 _ _ ?_)
  refine gc_seq fun K23 hK23 => ?_
  refine gc_region ?_
  refine g_v (.free rfl) rfl rfl (qt_loadS (n := 2) rfl rfl Try.underlying36 rfl (by kernel_rfl) rfl) ?_
  refine g_op (.free rfl) fun K24 hK24 => ?_
  refine go_storeS (n := 1) rfl rfl rfl rfl (by kernel_rfl) rfl rfl rfl ?_
  refine hK24 _ _ ?_
  refine g_nil ?_
  refine gk_then (hK23 _ _ ?_)
  refine gc_ret ?_
  refine ret_S (n := 1) rfl rfl Try.underlying36 rfl (by kernel_rfl) rfl (fun w M => ?_)
  try simp only [List.nil_append, List.cons_append, List.append_assoc, List.set_cons_succ, List.set_cons_zero] at M
  exact retTr_star (T := T) (mem_block 3 21 (M))

set_option maxHeartbeats 1000000 in
set_option maxRecDepth 100000 in
theorem eqTr_refl_any (w : World) (v : Value) (u : Value) (T : Tra) (h : RdTr w v T) (g : RdTr w u T) :
    Calls Try.prog 17 #[v, u] w (RetB w true) := by
  have h0 := h
  obtain ⟨vx1, vx2, vx3, vx4, vx5, vx6, vx7, vx8, vx9, vx10, vx11, vx12, vx13, vx14, vx15, vx16, vx17, vx18, vx19, vx20, vx21, vk1, vk2, vk3, vk4, vk5, vk6, vk7, vk8, vk9, vk10, vk11, vk12, vk13, vk14, vk15, vk16, vk17, vk18, vk19, vk20, vk21, rfl, h1, h2, h3, h4, h5, h6, h7, h8, h9, h10, h11, h12, h13, h14, h15, h16, h17, h18, h19, h20, h21⟩ := h.lists
  have g0 := g
  obtain ⟨ux1, ux2, ux3, ux4, ux5, ux6, ux7, ux8, ux9, ux10, ux11, ux12, ux13, ux14, ux15, ux16, ux17, ux18, ux19, ux20, ux21, uk1, uk2, uk3, uk4, uk5, uk6, uk7, uk8, uk9, uk10, uk11, uk12, uk13, uk14, uk15, uk16, uk17, uk18, uk19, uk20, uk21, rfl, g1, g2, g3, g4, g5, g6, g7, g8, g9, g10, g11, g12, g13, g14, g15, g16, g17, g18, g19, g20, g21⟩ := g.lists
  go_enter Try.func17, Try.ntmps17
  refine gc_enter (N := 23) rfl (look_cons (k := 0) rfl (look_cons (k := 1) rfl (look_nil _))) ?_
  refine gc_seq fun K1 hK1 => ?_
  refine gc_region ?_
  refine g_op (.free rfl) fun K3 hK3 => ?_
  refine go_box rfl rfl rfl rfl rfl ?_
  intro B2
  refine hK3 _ _ ?_
  refine g_op (.free rfl) fun K5 hK5 => ?_
  refine go_box rfl rfl rfl rfl rfl ?_
  intro B4
  refine hK5 _ _ ?_
  refine g_v (.free rfl) rfl rfl (qt_assign rfl rfl) ?_
  refine g_nil ?_
  refine gk_then (hK1 _ _ ?_)
  refine gc_seq fun K6 hK6 => ?_
  refine gc_seq fun K7 hK7 => ?_
  refine gc_region ?_
  refine g_v (.free rfl) rfl rfl (qt_field (z := 11) (off := 0) rfl rfl Try.underlying36 rfl (by kernel_rfl) rfl) ?_
  refine g_v (.free rfl) rfl rfl (qt_loadP (n := 0) (z := 12) rfl rfl Try.underlying34 rfl (by kernel_rfl) rfl (by first | decide | exact Nat.le_refl _ | simp)) ?_
  refine g_v (.free rfl) rfl rfl (qt_field (z := 11) (off := 0) rfl rfl Try.underlying36 rfl (by kernel_rfl) rfl) ?_
  refine g_v (.free rfl) rfl rfl (qt_loadP (n := 1) (z := 12) rfl rfl Try.underlying34 rfl (by kernel_rfl) rfl (by first | decide | exact Nat.le_refl _ | simp)) ?_
  refine g_q (.free rfl) rfl rfl (qt_call rfl Try.func24 rfl (by decide) rfl (fun w M => eqF_refl_any w _ _ _ (mem_rdF M (rdTr_parts h0).1) (mem_rdF M (rdTr_parts g0).1))) ?_
  refine g_v (.free rfl) rfl rfl (qt_not rfl rfl) ?_
  refine g_nil ?_
  refine gk_then (hK7 _ _ ?_)
  refine gc_cond_f rfl ?_
  refine gc_skip ?_
  refine gk_then (hK6 _ _ ?_)
  refine gc_seq fun K8 hK8 => ?_
  refine gc_seq fun K9 hK9 => ?_
  refine gc_region ?_
  refine g_v (.free rfl) rfl rfl (qt_field (z := 11) (off := 12) rfl rfl Try.underlying36 rfl (by kernel_rfl) rfl) ?_
  refine g_v (.free rfl) rfl rfl (qt_loadP (n := 0) (z := 12) rfl rfl Try.underlying34 rfl (by kernel_rfl) rfl (by first | decide | exact Nat.le_refl _ | simp)) ?_
  refine g_v (.free rfl) rfl rfl (qt_field (z := 11) (off := 12) rfl rfl Try.underlying36 rfl (by kernel_rfl) rfl) ?_
  refine g_v (.free rfl) rfl rfl (qt_loadP (n := 1) (z := 12) rfl rfl Try.underlying34 rfl (by kernel_rfl) rfl (by first | decide | exact Nat.le_refl _ | simp)) ?_
  refine g_q (.free rfl) rfl rfl (qt_call rfl Try.func24 rfl (by decide) rfl (fun w M => eqF_refl_any w _ _ _ (mem_rdF M (rdTr_parts h0).2.1) (mem_rdF M (rdTr_parts g0).2.1))) ?_
  refine g_v (.free rfl) rfl rfl (qt_not rfl rfl) ?_
  refine g_nil ?_
  refine gk_then (hK9 _ _ ?_)
  refine gc_cond_f rfl ?_
  refine gc_skip ?_
  refine gk_then (hK8 _ _ ?_)
  refine gc_seq fun K10 hK10 => ?_
  refine gc_seq fun K11 hK11 => ?_
  refine gc_region ?_
  refine g_v (.free rfl) rfl rfl (qt_field (z := 0) (off := 24) rfl rfl Try.underlying36 rfl (by kernel_rfl) rfl) ?_
  refine g_v (.free rfl) rfl rfl (qt_loadB (n := 0) rfl rfl Try.underlying22 rfl rfl rfl) ?_
  refine g_v (.free rfl) rfl rfl (qt_field (z := 0) (off := 24) rfl rfl Try.underlying36 rfl (by kernel_rfl) rfl) ?_
  refine g_v (.free rfl) rfl rfl (qt_loadB (n := 1) rfl rfl Try.underlying22 rfl rfl rfl) ?_
  refine g_q (.free rfl) rfl rfl (qt_call rfl Try.func48 rfl (by decide) rfl (fun w M => eq_refl_any w _ _ _ (mem_rd M h21) (mem_rd M g21))) ?_
  refine g_v (.free rfl) rfl rfl (qt_not rfl rfl) ?_
  refine g_nil ?_
  refine gk_then (hK11 _ _ ?_)
  refine gc_cond_f rfl ?_
  refine gc_skip ?_
  refine gk_then (hK10 _ _ ?_)
  refine gc_seq fun K12 hK12 => ?_
  refine gc_region ?_
  refine g_v (.free rfl) rfl rfl (qt_assign rfl rfl) ?_
  refine g_nil ?_
  refine gk_then (hK12 _ _ ?_)
  refine gc_ret ?_
  refine ret_1 rfl rfl  (fun w M => ?_)
  exact ⟨rfl, M.1⟩


theorem agg12o {a b c d e f g h i j k l a' b' c' d' e' f' g' h' i' j' k' l' : Value} (q : (Value.agg #[a, b, c, d, e, f, g, h, i, j, k, l]) = .agg #[a', b', c', d', e', f', g', h', i', j', k', l']) : a = a' ∧ f = f' := by
  simp only [Value.agg.injEq] at q
  have hl := congrArg Array.toList q
  simp only [List.cons.injEq, and_true] at hl
  exact ⟨hl.1, hl.2.2.2.2.2.1⟩
set_option maxRecDepth 100000 in
theorem open_inFCells {H : Type} {enc : TypeId × Value → H} {w : World} {c0 c1 c2 c3 c4 d0 d1 d2 d3 d4 vo va : Value} {fuel : Nat} {x : DataW H × List MemPlace}
    (hf : DataW.trod enc Try.prog w 0 (fun _ => true) true fuel 27 [c0, c1, c2, c3, c4, d0, d1, d2, d3, d4, vo, va] = some x) : ∃ F, InF w (.agg #[c0, c1, c2, c3, c4, d0, d1, d2, d3, d4, vo, va]) F := by
  have k25 : Try.prog.cellsOf 25 = 5 := by kernel_rfl
  have k22 : Try.prog.cellsOf 22 = 1 := by kernel_rfl
  obtain ⟨xs, n, _, hx, _, hlen, hg⟩ := DataW.trod_struct Try.underlying27 hf
  match xs, hlen with
  | [y0, y1, y2, y3], _ =>
    have t0 := hg 0 _ rfl
    have t1 := hg 1 _ rfl
    have t2 := hg 2 _ rfl
    have t3 := hg 3 _ rfl
    simp [k25, k22] at t0 t1 t2 t3
    obtain ⟨S, h1⟩ := open_inCells t0
    obtain ⟨T, h2⟩ := open_inCells t1
    obtain ⟨xo, h3⟩ := in_of_trod t2
    obtain ⟨xa, h4⟩ := in_of_trod t3
    have e1 := h1; have e2 := h2
    obtain ⟨p1, p2, p3, p4, hp, _⟩ := e1
    obtain ⟨q1, q2, q3, q4, hq, _⟩ := e2
    obtain ⟨rfl, rfl, rfl, rfl, rfl⟩ := agg5 hp
    obtain ⟨rfl, rfl, rfl, rfl, rfl⟩ := agg5 hq
    exact ⟨⟨S, T, xo, xa⟩, _, _, _, _, _, _, _, _, _, _, rfl, h1, h2, h3, h4⟩
set_option maxRecDepth 100000 in
theorem open_inTr {H : Type} {enc : TypeId × Value → H} {w : World} {v : Value} {d : DataW H} {ps : List MemPlace} {base : Nat}
    (hv : Value.okWide Try.prog w .any base 29 v) (h : DataW.Trod enc Try.prog w 0 (fun _ => true) true 29 v d ps) : ∃ T, InTr w v T := by
  obtain ⟨cs, rfl, hsz⟩ := Go.WideShapes.okWide_struct Try.underlying29 hv
  obtain ⟨l⟩ := cs
  have hC : Try.prog.cellsOf 29 = 25 := by kernel_rfl
  have k26 : Try.prog.cellsOf 27 = 12 := by kernel_rfl
  have k22 : Try.prog.cellsOf 22 = 1 := by kernel_rfl
  match l, hsz.trans hC with
  | [c0, c1, c2, c3, c4, d0, d1, d2, d3, d4, vo, va, c0', c1', c2', c3', c4', d0', d1', d2', d3', d4', vo', va', vc], _ =>
    obtain ⟨fuel, hf⟩ := h
    obtain ⟨xs, n, _, hx, _, hlen, hg⟩ := DataW.trod_struct Try.underlying29 hf
    match xs, hlen with
    | [y0, y1, y2], _ =>
      have t0 := hg 0 _ rfl
      have t1 := hg 1 _ rfl
      have t2 := hg 2 _ rfl
      simp [Value.cells, k26, k22] at t0 t1 t2
      obtain ⟨F, h1⟩ := open_inFCells t0
      obtain ⟨G, h2⟩ := open_inFCells t1
      obtain ⟨xc, h3⟩ := in_of_trod t2
      have e1 := h1; have e2 := h2
      obtain ⟨p1, p2, p3, p4, p5, p6, p7, p8, p9, p10, hp, _⟩ := e1
      obtain ⟨q1, q2, q3, q4, q5, q6, q7, q8, q9, q10, hq, _⟩ := e2
      obtain ⟨rfl, rfl⟩ := agg12o hp
      obtain ⟨rfl, rfl⟩ := agg12o hq
      exact ⟨⟨F, G, xc⟩, _, _, _, _, _, _, _, _, _, _, _, _, _, _, _, _, _, _, _, _, _, rfl, h1, h2, h3⟩


def mzTr (T : Tra) : Nat := mzF T.S + mzF T.T + T.c.length
theorem mzTr_le (T : Tra) : mzTr T ≤ szTr T := by have h1 := mzF_le T.S; have h2 := mzF_le T.T; unfold mzTr szTr; omega
def mkTr (k0 : Int) (T : Tra) : Tra := ⟨mkF k0 T.S, mkF (k0 + (mzF T.S : Int)) T.T, upTo (k0 + (mzF T.S : Int) + (mzF T.T : Int)) T.c.length⟩
theorem mem_openTr {w0 w : World} {T : Tra} {x1 x2 x3 x4 x5 x6 x7 x8 x9 x10 x11 x12 x13 x14 x15 x16 x17 x18 x19 x20 x21 : Value} {is : List Itm} (M : Mem w0 w (ownTrI (.agg #[.int .i64 T.S.S.ob, x1, x2, x3, x4, .int .i64 T.S.T.ob, x5, x6, x7, x8, x9, x10, .int .i64 T.T.S.ob, x11, x12, x13, x14, .int .i64 T.T.T.ob, x15, x16, x17, x18, x19, x20, x21]) T :: is)) : Mem w0 w (ownFI (.agg #[.int .i64 T.S.S.ob, x1, x2, x3, x4, .int .i64 T.S.T.ob, x5, x6, x7, x8, x9, x10]) T.S :: ownFI (.agg #[.int .i64 T.T.S.ob, x11, x12, x13, x14, .int .i64 T.T.T.ob, x15, x16, x17, x18, x19, x20]) T.T :: own1I x21 T.c :: is) := by
  obtain ⟨S1, S2, k1, k2, kd, ⟨y1, y2, y3, y4, y5, y6, y7, y8, y9, y10, y11, y12, y13, y14, y15, y16, y17, y18, y19, y20, y21, hv, h⟩, hr⟩ := M.2
  obtain ⟨rfl, rfl, rfl, rfl, rfl, rfl, rfl, rfl, rfl, rfl, rfl, rfl, rfl, rfl, rfl, rfl, rfl, rfl, rfl, rfl, rfl⟩ := agg25 hv
  refine ⟨M.1, ?_⟩
  have h2 := star_app _ _ k1 k2 kd h hr
  simpa only [List.cons_append, List.nil_append] using h2
theorem mem_closeTr {w0 w : World} {F G : Fct} {xs : List Int} {x1 x2 x3 x4 x5 x6 x7 x8 x9 x10 x11 x12 x13 x14 x15 x16 x17 x18 x19 x20 x21 : Value} {is : List Itm} (M : Mem w0 w (ownFI (.agg #[.int .i64 F.S.ob, x1, x2, x3, x4, .int .i64 F.T.ob, x5, x6, x7, x8, x9, x10]) F :: ownFI (.agg #[.int .i64 G.S.ob, x11, x12, x13, x14, .int .i64 G.T.ob, x15, x16, x17, x18, x19, x20]) G :: own1I x21 xs :: is)) : Mem w0 w (ownTrI (.agg #[.int .i64 F.S.ob, x1, x2, x3, x4, .int .i64 F.T.ob, x5, x6, x7, x8, x9, x10, .int .i64 G.S.ob, x11, x12, x13, x14, .int .i64 G.T.ob, x15, x16, x17, x18, x19, x20, x21]) ⟨F, G, xs⟩ :: is) := by
  refine ⟨M.1, ?_⟩
  obtain ⟨S1, S2, k1, k2, kd, h2, h3⟩ := star_unapp [ownFI (.agg #[.int .i64 F.S.ob, x1, x2, x3, x4, .int .i64 F.T.ob, x5, x6, x7, x8, x9, x10]) F, ownFI (.agg #[.int .i64 G.S.ob, x11, x12, x13, x14, .int .i64 G.T.ob, x15, x16, x17, x18, x19, x20]) G, own1I x21 xs] is M.2
  exact ⟨S1, S2, k1, k2, kd, ⟨_, _, _, _, _, _, _, _, _, _, _, _, _, _, _, _, _, _, _, _, _, rfl, h2⟩, h3⟩

set_option maxHeartbeats 1000000 in
set_option maxRecDepth 100000 in
theorem markTM_any (w0 w : World) (R : Itm) (T : Tra) (k0 : Int) (x1 x2 x3 x4 x5 x6 x7 x8 x9 x10 x11 x12 x13 x14 x15 x16 x17 x18 x19 x20 x21 : Value) (hk0 : 0 ≤ k0) (hk1 : k0 + (mzF T.S : Int) + (mzF T.T : Int) + (T.c.length : Int) ≤ 1152921504606846976) (M : Mem w0 w [ownFI (.agg #[.int .i64 T.S.S.ob, x1, x2, x3, x4, .int .i64 T.S.T.ob, x5, x6, x7, x8, x9, x10]) T.S, ownFI (.agg #[.int .i64 T.T.S.ob, x11, x12, x13, x14, .int .i64 T.T.T.ob, x15, x16, x17, x18, x19, x20]) T.T, own1I x21 T.c, R]) :
    Calls Try.prog 26 #[.agg #[.int .i64 T.S.S.ob, x1, x2, x3, x4, .int .i64 T.S.T.ob, x5, x6, x7, x8, x9, x10, .int .i64 T.T.S.ob, x11, x12, x13, x14, .int .i64 T.T.T.ob, x15, x16, x17, x18, x19, x20, x21], .int .i64 k0] w (fun e w' => e = .returned (.int .i64 (k0 + (mzF T.S : Int) + (mzF T.T : Int) + (T.c.length : Int))) ∧ Mem w0 w' [ownFI (.agg #[.int .i64 T.S.S.ob, x1, x2, x3, x4, .int .i64 T.S.T.ob, x5, x6, x7, x8, x9, x10]) (mkF k0 T.S), ownFI (.agg #[.int .i64 T.T.S.ob, x11, x12, x13, x14, .int .i64 T.T.T.ob, x15, x16, x17, x18, x19, x20]) (mkF (k0 + (mzF T.S : Int)) T.T), own1I x21 (upTo (k0 + (mzF T.S : Int) + (mzF T.T : Int)) T.c.length), R]) := by
  go_enter Try.func26, Try.ntmps26
  refine gc_enterM M (N := 18) rfl (look_cons (k := 0) rfl (look_cons (k := 1) rfl (look_nil _))) ?_
  clear M
  refine gc_seq fun K1 hK1 => ?_
  refine gc_region ?_
  refine g_op (.free rfl) fun K3 hK3 => ?_
  refine go_box rfl rfl rfl rfl rfl ?_
  intro B2
  refine hK3 _ _ ?_
  refine g_v (.free rfl) rfl rfl (qt_assign rfl rfl) ?_
  refine g_nil ?_
  refine gk_then (hK1 _ _ ?_)
  refine gc_seq fun K4 hK4 => ?_
  refine gc_region ?_
  refine g_v (.free rfl) rfl rfl (qt_field (z := 11) (off := 0) rfl rfl Try.underlying36 rfl (by kernel_rfl) rfl) ?_
  refine g_v (.free rfl) rfl rfl (qt_loadP (n := 4) (z := 12) rfl rfl Try.underlying34 rfl (by kernel_rfl) rfl (by first | decide | exact Nat.le_refl _ | simp)) ?_
  refine g_v (.free rfl) rfl rfl (qt_move rfl rfl) ?_
  refine g_op (.free rfl) fun K5 hK5 => ?_
  refine go_one (n := 0) rfl rfl rfl Try.func25 rfl (by decide) rfl rfl (fun R w M => markF1_any _ w R _ _ _ _ _ _ _ _ _ _ _ _ (by omega) (by omega) M) ?_
  refine hK5 _ _ ?_
  refine g_v (.free rfl) rfl rfl (qt_assign rfl rfl) ?_
  refine g_nil ?_
  refine gk_then (hK4 _ _ ?_)
  refine gc_seq fun K6 hK6 => ?_
  refine gc_region ?_
  refine g_v (.free rfl) rfl rfl (qt_field (z := 11) (off := 12) rfl rfl Try.underlying36 rfl (by kernel_rfl) rfl) ?_
  refine g_v (.free rfl) rfl rfl (qt_loadP (n := 4) (z := 12) rfl rfl Try.underlying34 rfl (by kernel_rfl) rfl (by first | decide | exact Nat.le_refl _ | simp)) ?_
  refine g_v (.free rfl) rfl rfl (qt_move rfl rfl) ?_
  refine g_op (.free rfl) fun K7 hK7 => ?_
  refine go_one (n := 1) rfl rfl rfl Try.func25 rfl (by decide) rfl rfl (fun R w M => markF1_any _ w R _ _ _ _ _ _ _ _ _ _ _ _ (by omega) (by omega) M) ?_
  refine hK7 _ _ ?_
  refine g_v (.free rfl) rfl rfl (qt_assign rfl rfl) ?_
  refine g_nil ?_
  refine gk_then (hK6 _ _ ?_)
  refine gc_seq fun K8 hK8 => ?_
  refine gc_region ?_
  refine g_v (.free rfl) rfl rfl (qt_field (z := 0) (off := 24) rfl rfl Try.underlying36 rfl (by kernel_rfl) rfl) ?_
  refine g_v (.free rfl) rfl rfl (qt_loadB (n := 4) rfl rfl Try.underlying22 rfl rfl rfl) ?_
  refine g_v (.free rfl) rfl rfl (qt_move rfl rfl) ?_
  refine g_op (.free rfl) fun K9 hK9 => ?_
  refine go_mark (own1I _ (upTo _ _)) (n := 2) rfl rfl rfl Try.func61 rfl (by decide) rfl rfl (fun w S hS => markS_any w S _ _ _ hS (by omega) (by omega)) ?_
  refine hK9 _ _ ?_
  refine g_v (.free rfl) rfl rfl (qt_assign rfl rfl) ?_
  refine g_nil ?_
  refine gk_then (hK8 _ _ ?_)
  refine gc_seq fun K10 hK10 => ?_
  refine gc_region ?_
  refine g_v (.free rfl) rfl rfl (qt_move rfl rfl) ?_
  refine g_v (.free rfl) rfl rfl (qt_assign rfl rfl) ?_
  refine g_nil ?_
  refine gk_then (hK10 _ _ ?_)
  refine gc_ret ?_
  refine ret_1 rfl rfl  (fun w M => ?_)
  exact ⟨rfl, mem_take 4 M⟩


theorem markTr1_any (w0 w : World) (R : Itm) (T : Tra) (k0 : Int) (x1 x2 x3 x4 x5 x6 x7 x8 x9 x10 x11 x12 x13 x14 x15 x16 x17 x18 x19 x20 x21 : Value) (hk0 : 0 ≤ k0) (hk1 : k0 + (mzTr T : Int) ≤ 1152921504606846976) (M : Mem w0 w [ownTrI (.agg #[.int .i64 T.S.S.ob, x1, x2, x3, x4, .int .i64 T.S.T.ob, x5, x6, x7, x8, x9, x10, .int .i64 T.T.S.ob, x11, x12, x13, x14, .int .i64 T.T.T.ob, x15, x16, x17, x18, x19, x20, x21]) T, R]) :
    Calls Try.prog 26 #[.agg #[.int .i64 T.S.S.ob, x1, x2, x3, x4, .int .i64 T.S.T.ob, x5, x6, x7, x8, x9, x10, .int .i64 T.T.S.ob, x11, x12, x13, x14, .int .i64 T.T.T.ob, x15, x16, x17, x18, x19, x20, x21], .int .i64 k0] w (fun e w' => e = .returned (.int .i64 (k0 + (mzTr T : Int))) ∧ Mem w0 w' [ownTrI (.agg #[.int .i64 T.S.S.ob, x1, x2, x3, x4, .int .i64 T.S.T.ob, x5, x6, x7, x8, x9, x10, .int .i64 T.T.S.ob, x11, x12, x13, x14, .int .i64 T.T.T.ob, x15, x16, x17, x18, x19, x20, x21]) (mkTr k0 T), R]) := by
  have hz : (mzTr T : Int) = (mzF T.S : Int) + (mzF T.T : Int) + (T.c.length : Int) := by unfold mzTr; omega
  refine (markTM_any w0 w R T k0 x1 x2 x3 x4 x5 x6 x7 x8 x9 x10 x11 x12 x13 x14 x15 x16 x17 x18 x19 x20 x21 hk0 (by omega) (mem_openTr M)).mono fun e w' h => ?_
  obtain ⟨rfl, M'⟩ := h
  exact ⟨by rw [show k0 + (mzTr T : Int) = k0 + (mzF T.S : Int) + (mzF T.T : Int) + (T.c.length : Int) from by omega], mem_closeTr (F := mkF k0 T.S) (G := mkF (k0 + (mzF T.S : Int)) T.T) M'⟩

set_option maxHeartbeats 1000000 in
set_option maxRecDepth 100000 in
theorem heldTM_any (w : World) (v : Value) (T : Tra) (k0 : Int) (h : RdTr w v (mkTr k0 T)) (hk0 : 0 ≤ k0) (hk1 : k0 + (mzF T.S : Int) + (mzF T.T : Int) + (T.c.length : Int) ≤ 1152921504606846976) :
    Calls Try.prog 27 #[v, .int .i64 k0] w (RetI w (k0 + (mzF T.S : Int) + (mzF T.T : Int) + (T.c.length : Int))) := by
  have h0 := h
  obtain ⟨vx1, vx2, vx3, vx4, vx5, vx6, vx7, vx8, vx9, vx10, vx11, vx12, vx13, vx14, vx15, vx16, vx17, vx18, vx19, vx20, vx21, vk1, vk2, vk3, vk4, vk5, vk6, vk7, vk8, vk9, vk10, vk11, vk12, vk13, vk14, vk15, vk16, vk17, vk18, vk19, vk20, vk21, rfl, h1, h2, h3, h4, h5, h6, h7, h8, h9, h10, h11, h12, h13, h14, h15, h16, h17, h18, h19, h20, h21⟩ := h.lists
  go_enter Try.func27, Try.ntmps27
  refine gc_enter (N := 24) rfl (look_cons (k := 0) rfl (look_cons (k := 1) rfl (look_nil _))) ?_
  refine gc_seq fun K1 hK1 => ?_
  refine gc_region ?_
  refine g_op (.free rfl) fun K3 hK3 => ?_
  refine go_box rfl rfl rfl rfl rfl ?_
  intro B2
  refine hK3 _ _ ?_
  refine g_v (.free rfl) rfl rfl (qt_assign rfl rfl) ?_
  refine g_nil ?_
  refine gk_then (hK1 _ _ ?_)
  refine gc_seq fun K4 hK4 => ?_
  refine gc_region ?_
  refine g_v (.free rfl) rfl rfl (qt_field (z := 11) (off := 0) rfl rfl Try.underlying36 rfl (by kernel_rfl) rfl) ?_
  refine g_v (.free rfl) rfl rfl (qt_loadP (n := 0) (z := 12) rfl rfl Try.underlying34 rfl (by kernel_rfl) rfl (by first | decide | exact Nat.le_refl _ | simp)) ?_
  refine g_v (.free rfl) rfl rfl (qt_move rfl rfl) ?_
  refine g_q (.free rfl) rfl rfl (qt_call rfl Try.func42 rfl (by decide) rfl (fun w M => heldF_any w _ (_) _ (mem_rdF M (rdTr_parts h0).1) (by first | assumption | omega) (by first | assumption | omega))) ?_
  refine g_v (.free rfl) rfl rfl (qt_assign rfl rfl) ?_
  refine g_nil ?_
  refine gk_then (hK4 _ _ ?_)
  refine gc_seq fun K5 hK5 => ?_
  refine gc_seq fun K6 hK6 => ?_
  refine gc_region ?_
  refine g_v (.free rfl) rfl rfl (qt_move rfl rfl) ?_
  refine g_v (.free rfl) rfl rfl (qt_lss rfl rfl rfl) ?_
  refine g_nil ?_
  refine gk_then (hK6 _ _ ?_)
  refine gc_cond rfl (fun hc0 => ?_) (fun hc0 => ?_)
  · try simp only [decide_eq_true_eq, decide_eq_false_iff_not, Bool.not_eq_true', Bool.not_eq_false', Bool.not_eq_eq_eq_not, Bool.not_true, Bool.not_false, ne_eq, Decidable.not_not, Classical.not_not] at hc0
    exfalso; omega
  · try simp only [decide_eq_true_eq, decide_eq_false_iff_not, Bool.not_eq_true', Bool.not_eq_false', Bool.not_eq_eq_eq_not, Bool.not_true, Bool.not_false, ne_eq, Decidable.not_not, Classical.not_not] at hc0
    refine gc_skip ?_
    refine gk_then (hK5 _ _ ?_)
    refine gc_seq fun K7 hK7 => ?_
    refine gc_region ?_
    refine g_v (.free rfl) rfl rfl (qt_field (z := 11) (off := 12) rfl rfl Try.underlying36 rfl (by kernel_rfl) rfl) ?_
    refine g_v (.free rfl) rfl rfl (qt_loadP (n := 0) (z := 12) rfl rfl Try.underlying34 rfl (by kernel_rfl) rfl (by first | decide | exact Nat.le_refl _ | simp)) ?_
    refine g_v (.free rfl) rfl rfl (qt_move rfl rfl) ?_
    refine g_q (.free rfl) rfl rfl (qt_call rfl Try.func42 rfl (by decide) rfl (fun w M => heldF_any w _ (_) _ (mem_rdF M (rdTr_parts h0).2.1) (by first | assumption | omega) (by first | assumption | omega))) ?_
    refine g_v (.free rfl) rfl rfl (qt_assign rfl rfl) ?_
    refine g_nil ?_
    refine gk_then (hK7 _ _ ?_)
    refine gc_seq fun K8 hK8 => ?_
    refine gc_seq fun K9 hK9 => ?_
    refine gc_region ?_
    refine g_v (.free rfl) rfl rfl (qt_move rfl rfl) ?_
    refine g_v (.free rfl) rfl rfl (qt_lss rfl rfl rfl) ?_
    refine g_nil ?_
    refine gk_then (hK9 _ _ ?_)
    refine gc_cond rfl (fun hc1 => ?_) (fun hc1 => ?_)
    · try simp only [decide_eq_true_eq, decide_eq_false_iff_not, Bool.not_eq_true', Bool.not_eq_false', Bool.not_eq_eq_eq_not, Bool.not_true, Bool.not_false, ne_eq, Decidable.not_not, Classical.not_not] at hc1
      exfalso; omega
    · try simp only [decide_eq_true_eq, decide_eq_false_iff_not, Bool.not_eq_true', Bool.not_eq_false', Bool.not_eq_eq_eq_not, Bool.not_true, Bool.not_false, ne_eq, Decidable.not_not, Classical.not_not] at hc1
      refine gc_skip ?_
      refine gk_then (hK8 _ _ ?_)
      refine gc_seq fun K10 hK10 => ?_
      refine gc_region ?_
      refine g_v (.free rfl) rfl rfl (qt_field (z := 0) (off := 24) rfl rfl Try.underlying36 rfl (by kernel_rfl) rfl) ?_
      refine g_v (.free rfl) rfl rfl (qt_loadB (n := 0) rfl rfl Try.underlying22 rfl rfl rfl) ?_
      refine g_v (.free rfl) rfl rfl (qt_move rfl rfl) ?_
      refine g_q (.free rfl) rfl rfl (qt_call rfl Try.func62 rfl (by decide) rfl (fun w M => held_any w _ _ _ (mem_rd M h21) (by first | assumption | omega) (by first | assumption | omega))) ?_
      refine g_v (.free rfl) rfl rfl (qt_assign rfl rfl) ?_
      refine g_nil ?_
      refine gk_then (hK10 _ _ ?_)
      refine gc_seq fun K11 hK11 => ?_
      refine gc_seq fun K12 hK12 => ?_
      refine gc_region ?_
      refine g_v (.free rfl) rfl rfl (qt_move rfl rfl) ?_
      refine g_v (.free rfl) rfl rfl (qt_lss rfl rfl rfl) ?_
      refine g_nil ?_
      refine gk_then (hK12 _ _ ?_)
      refine gc_cond rfl (fun hc2 => ?_) (fun hc2 => ?_)
      · try simp only [decide_eq_true_eq, decide_eq_false_iff_not, Bool.not_eq_true', Bool.not_eq_false', Bool.not_eq_eq_eq_not, Bool.not_true, Bool.not_false, ne_eq, Decidable.not_not, Classical.not_not] at hc2
        exfalso; omega
      · try simp only [decide_eq_true_eq, decide_eq_false_iff_not, Bool.not_eq_true', Bool.not_eq_false', Bool.not_eq_eq_eq_not, Bool.not_true, Bool.not_false, ne_eq, Decidable.not_not, Classical.not_not] at hc2
        refine gc_skip ?_
        refine gk_then (hK11 _ _ ?_)
        refine gc_seq fun K13 hK13 => ?_
        refine gc_region ?_
        refine g_v (.free rfl) rfl rfl (qt_move rfl rfl) ?_
        refine g_v (.free rfl) rfl rfl (qt_assign rfl rfl) ?_
        refine g_nil ?_
        refine gk_then (hK13 _ _ ?_)
        refine gc_ret ?_
        refine ret_1 rfl rfl  (fun w M => ?_)
        exact ⟨rfl, M.1⟩


theorem heldTr_any (w : World) (v : Value) (T : Tra) (k0 : Int) (h : RdTr w v (mkTr k0 T)) (hk0 : 0 ≤ k0) (hk1 : k0 + (mzTr T : Int) ≤ 1152921504606846976) :
    Calls Try.prog 27 #[v, .int .i64 k0] w (RetI w (k0 + (mzTr T : Int))) := by
  have hz : (mzTr T : Int) = (mzF T.S : Int) + (mzF T.T : Int) + (T.c.length : Int) := by unfold mzTr; omega
  rw [show k0 + (mzTr T : Int) = k0 + (mzF T.S : Int) + (mzF T.T : Int) + (T.c.length : Int) from by omega]
  exact heldTM_any w v T k0 h hk0 (by omega)

end Go.Proofs.Ytpppoipaabofgaa
