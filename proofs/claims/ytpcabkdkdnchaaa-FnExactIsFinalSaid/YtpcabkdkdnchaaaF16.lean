import Derived.Test.YtpcabkdkdnchaaaF14
import Derived.Test.YtpcabkdkdnchaaaF15
import Derived.Test.YtpcabkdkdnchaaaF9
import Derived.Test.YtpcabkdkdnchaaaF6
set_option linter.unusedSimpArgs false
set_option linter.unusedVariables false
set_option linter.unusedSectionVars false
namespace Go.Proofs.Ytpcabkdkdnchaaa
open Go.RowKit
noncomputable def lab_co : Lab0 Int where
  z := 1
  lc l := [Value.int .i64 l]
  tE := 64
  tS := 55
  bts := 24
  zc := .agg #[.int .i64 0, .int .i64 0, .int .i64 0]
  td := match Try.prog.underlying 64 with | some t => t | none => .bool
  len _ := rfl
  one _ := rfl
  inf := by kernel_rfl
  zl := rfl
  cap := 4000000000000
  hc1 := by decide
  hc2 := by decide
  hcb := by decide
  hz := by decide
  ud := by kernel_rfl
  row := by kernel_rfl
  ul := by kernel_rfl
  el := by kernel_rfl
noncomputable def lab_ca : Lab0 (Int × Int) where
  z := 2
  lc l := [Value.int .i64 l.1, Value.int .i64 l.2]
  tE := 71
  tS := 56
  bts := 32
  zc := .agg #[.int .i64 0, .int .i64 0, .int .i64 0, .int .i64 0]
  td := match Try.prog.underlying 71 with | some t => t | none => .bool
  len _ := rfl
  one _ := rfl
  inf := by kernel_rfl
  zl := rfl
  cap := 4000000000000
  hc1 := by decide
  hc2 := by decide
  hcb := by decide
  hz := by decide
  ud := by kernel_rfl
  row := by kernel_rfl
  ul := by kernel_rfl
  el := by kernel_rfl
theorem bt_commaObject {a b c : Int} : Try.prog.built 64 [(0, .int .i64 a), (1, .int .i64 b), (2, .int .i64 c)] = some #[.int .i64 a, .int .i64 b, .int .i64 c] := by kernel_rfl
theorem bt_commaArrow {a b c d : Int} : Try.prog.built 71 [(0, .agg #[.int .i64 a, .int .i64 b]), (1, .int .i64 c), (2, .int .i64 d)] = some #[.int .i64 a, .int .i64 b, .int .i64 c, .int .i64 d] := by kernel_rfl
theorem bt_cospan {o1 o2 p1 p2 : Int} {x1 x2 x3 x4 x5 x6 x7 x8 x9 x10 y1 y2 y3 y4 y5 y6 y7 y8 y9 y10 : Option Addr} {n1 n2 n3 n4 n5 n6 n7 n8 n9 n10 j1 j2 j3 j4 j5 j6 j7 j8 j9 j10 k1 k2 k3 k4 k5 k6 k7 k8 k9 k10 l1 l2 l3 l4 l5 l6 l7 l8 l9 l10 : Nat} : Try.prog.built 54 [(0, .agg #[.int .i64 o1, .slice x1 n1 k1, .slice x2 n2 k2, .slice x3 n3 k3, .slice x4 n4 k4, .int .i64 o2, .slice x5 n5 k5, .slice x6 n6 k6, .slice x7 n7 k7, .slice x8 n8 k8, .slice x9 n9 k9, .slice x10 n10 k10]), (1, .agg #[.int .i64 p1, .slice y1 j1 l1, .slice y2 j2 l2, .slice y3 j3 l3, .slice y4 j4 l4, .int .i64 p2, .slice y5 j5 l5, .slice y6 j6 l6, .slice y7 j7 l7, .slice y8 j8 l8, .slice y9 j9 l9, .slice y10 j10 l10])] = some #[.int .i64 o1, .slice x1 n1 k1, .slice x2 n2 k2, .slice x3 n3 k3, .slice x4 n4 k4, .int .i64 o2, .slice x5 n5 k5, .slice x6 n6 k6, .slice x7 n7 k7, .slice x8 n8 k8, .slice x9 n9 k9, .slice x10 n10 k10, .int .i64 p1, .slice y1 j1 l1, .slice y2 j2 l2, .slice y3 j3 l3, .slice y4 j4 l4, .int .i64 p2, .slice y5 j5 l5, .slice y6 j6 l6, .slice y7 j7 l7, .slice y8 j8 l8, .slice y9 j9 l9, .slice y10 j10 l10] := by kernel_rfl
def cpkI (B : List Itm) : Itm := consI (fun _ : Unit => B) (fun _ => True)
theorem cpk_in {w0 w : World} {B js : List Itm} (M : Mem w0 w (B ++ js)) : Mem w0 w (cpkI B :: js) := mem_cons_in () trivial M
theorem cpk_out {w0 w : World} {B js : List Itm} (M : Mem w0 w (cpkI B :: js)) : Mem w0 w (B ++ js) := by obtain ⟨_, _, M⟩ := mem_cons_out M; exact M
theorem cm_parts {w : World} {F : Fct} {s1 s2 s3 s4 t1 t2 t3 t4 vo va : Value} (h : RdF w (.agg #[.int .i64 F.S.ob, s1, s2, s3, s4, .int .i64 F.T.ob, t1, t2, t3, t4, vo, va]) F) : RdC w (.agg #[.int .i64 F.S.ob, s1, s2, s3, s4]) F.S ∧ RdC w (.agg #[.int .i64 F.T.ob, t1, t2, t3, t4]) F.T ∧ Rd w vo F.o ∧ Rd w va F.a ∧ Rd w s3 F.S.e := by
  obtain ⟨y1, y2, y3, y4, y5, y6, y7, y8, y9, y10, hv, h1, h2, h3, h4⟩ := h
  obtain ⟨rfl, rfl, rfl, rfl, rfl, rfl, rfl, rfl, rfl, rfl⟩ := agg12 hv
  exact ⟨⟨_, _, _, _, rfl, h1⟩, ⟨_, _, _, _, rfl, h2⟩, h3, h4, h1.2.2.1⟩
structure CspR (w : World) (F G : Fct) (x1 x2 x3 x4 x5 x6 x7 x8 x9 x10 y1 y2 y3 y4 y5 y6 y7 y8 y9 y10 : Option Addr) (k1 k2 k3 k4 k5 k6 k7 k8 k9 k10 l1 l2 l3 l4 l5 l6 l7 l8 l9 l10 : Nat) : Prop where
  hF : RdF w (.agg #[.int .i64 F.S.ob, .slice x1 F.S.s.length k1, .slice x2 F.S.t.length k2, .slice x3 F.S.e.length k3, .slice x4 F.S.m.length k4, .int .i64 F.T.ob, .slice x5 F.T.s.length k5, .slice x6 F.T.t.length k6, .slice x7 F.T.e.length k7, .slice x8 F.T.m.length k8, .slice x9 F.o.length k9, .slice x10 F.a.length k10]) F
  hG : RdF w (.agg #[.int .i64 G.S.ob, .slice y1 G.S.s.length l1, .slice y2 G.S.t.length l2, .slice y3 G.S.e.length l3, .slice y4 G.S.m.length l4, .int .i64 G.T.ob, .slice y5 G.T.s.length l5, .slice y6 G.T.t.length l6, .slice y7 G.T.e.length l7, .slice y8 G.T.m.length l8, .slice y9 G.o.length l9, .slice y10 G.a.length l10]) G
  FS : RdC w (.agg #[.int .i64 F.S.ob, .slice x1 F.S.s.length k1, .slice x2 F.S.t.length k2, .slice x3 F.S.e.length k3, .slice x4 F.S.m.length k4]) F.S
  FT : RdC w (.agg #[.int .i64 F.T.ob, .slice x5 F.T.s.length k5, .slice x6 F.T.t.length k6, .slice x7 F.T.e.length k7, .slice x8 F.T.m.length k8]) F.T
  Fo : Rd w (.slice x9 F.o.length k9) F.o
  Fa : Rd w (.slice x10 F.a.length k10) F.a
  FSe : Rd w (.slice x3 F.S.e.length k3) F.S.e
  GS : RdC w (.agg #[.int .i64 G.S.ob, .slice y1 G.S.s.length l1, .slice y2 G.S.t.length l2, .slice y3 G.S.e.length l3, .slice y4 G.S.m.length l4]) G.S
  GT : RdC w (.agg #[.int .i64 G.T.ob, .slice y5 G.T.s.length l5, .slice y6 G.T.t.length l6, .slice y7 G.T.e.length l7, .slice y8 G.T.m.length l8]) G.T
  Go : Rd w (.slice y9 G.o.length l9) G.o
  Ga : Rd w (.slice y10 G.a.length l10) G.a
  GSe : Rd w (.slice y3 G.S.e.length l3) G.S.e
theorem csp_mk {w : World} {F G : Fct} {x1 x2 x3 x4 x5 x6 x7 x8 x9 x10 y1 y2 y3 y4 y5 y6 y7 y8 y9 y10 : Option Addr} {k1 k2 k3 k4 k5 k6 k7 k8 k9 k10 l1 l2 l3 l4 l5 l6 l7 l8 l9 l10 : Nat} (h : RdF w (.agg #[.int .i64 F.S.ob, .slice x1 F.S.s.length k1, .slice x2 F.S.t.length k2, .slice x3 F.S.e.length k3, .slice x4 F.S.m.length k4, .int .i64 F.T.ob, .slice x5 F.T.s.length k5, .slice x6 F.T.t.length k6, .slice x7 F.T.e.length k7, .slice x8 F.T.m.length k8, .slice x9 F.o.length k9, .slice x10 F.a.length k10]) F) (h' : RdF w (.agg #[.int .i64 G.S.ob, .slice y1 G.S.s.length l1, .slice y2 G.S.t.length l2, .slice y3 G.S.e.length l3, .slice y4 G.S.m.length l4, .int .i64 G.T.ob, .slice y5 G.T.s.length l5, .slice y6 G.T.t.length l6, .slice y7 G.T.e.length l7, .slice y8 G.T.m.length l8, .slice y9 G.o.length l9, .slice y10 G.a.length l10]) G) : CspR w F G x1 x2 x3 x4 x5 x6 x7 x8 x9 x10 y1 y2 y3 y4 y5 y6 y7 y8 y9 y10 k1 k2 k3 k4 k5 k6 k7 k8 k9 k10 l1 l2 l3 l4 l5 l6 l7 l8 l9 l10 := by
  have p := cm_parts h; have q := cm_parts h'
  exact ⟨h, h', p.1, p.2.1, p.2.2.1, p.2.2.2.1, p.2.2.2.2, q.1, q.2.1, q.2.2.1, q.2.2.2.1, q.2.2.2.2⟩
theorem csp_below {w w' : World} {F G : Fct} {x1 x2 x3 x4 x5 x6 x7 x8 x9 x10 y1 y2 y3 y4 y5 y6 y7 y8 y9 y10 : Option Addr} {k1 k2 k3 k4 k5 k6 k7 k8 k9 k10 l1 l2 l3 l4 l5 l6 l7 l8 l9 l10 : Nat} (hb : Below w.heap.size w w') (h : CspR w F G x1 x2 x3 x4 x5 x6 x7 x8 x9 x10 y1 y2 y3 y4 y5 y6 y7 y8 y9 y10 k1 k2 k3 k4 k5 k6 k7 k8 k9 k10 l1 l2 l3 l4 l5 l6 l7 l8 l9 l10) : CspR w' F G x1 x2 x3 x4 x5 x6 x7 x8 x9 x10 y1 y2 y3 y4 y5 y6 y7 y8 y9 y10 k1 k2 k3 k4 k5 k6 k7 k8 k9 k10 l1 l2 l3 l4 l5 l6 l7 l8 l9 l10 := csp_mk (rdF_below hb h.hF) (rdF_below hb h.hG)
inductive RetCP (W : World) (F G : Fct) (c : Int) (e : Ending) (w' : World) : Prop where
  | mk (x1 x2 x3 x4 x5 x6 x7 x8 x9 x10 y1 y2 y3 y4 y5 y6 y7 y8 y9 y10 : Option Addr) (k1 k2 k3 k4 k5 k6 k7 k8 k9 k10 l1 l2 l3 l4 l5 l6 l7 l8 l9 l10 : Nat) (u1 u2 v1 v2 : List Value) (he : e = .returned (.tuple #[.agg #[.int .i64 F.S.ob, .slice x1 F.S.s.length k1, .slice x2 F.S.t.length k2, .slice x3 F.S.e.length k3, .slice x4 F.S.m.length k4, .int .i64 F.T.ob, .slice x5 F.T.s.length k5, .slice x6 F.T.t.length k6, .slice x7 F.T.e.length k7, .slice x8 F.T.m.length k8, .slice x9 F.o.length k9, .slice x10 F.a.length k10, .int .i64 G.S.ob, .slice y1 G.S.s.length l1, .slice y2 G.S.t.length l2, .slice y3 G.S.e.length l3, .slice y4 G.S.m.length l4, .int .i64 G.T.ob, .slice y5 G.T.s.length l5, .slice y6 G.T.t.length l6, .slice y7 G.T.e.length l7, .slice y8 G.T.m.length l8, .slice y9 G.o.length l9, .slice y10 G.a.length l10], .int .i64 c])) (hs : Star [cpkI [own1I (.slice x1 F.S.s.length k1) F.S.s, own1I (.slice x2 F.S.t.length k2) F.S.t, own1I (.slice x3 F.S.e.length k3) F.S.e, own2U (.slice x4 F.S.m.length k4) u1 F.S.m, own1I (.slice x5 F.T.s.length k5) F.T.s, own1I (.slice x6 F.T.t.length k6) F.T.t, own1I (.slice x7 F.T.e.length k7) F.T.e, own2U (.slice x8 F.T.m.length k8) u2 F.T.m, own1I (.slice x9 F.o.length k9) F.o, own1I (.slice x10 F.a.length k10) F.a, own1I (.slice y1 G.S.s.length l1) G.S.s, own1I (.slice y2 G.S.t.length l2) G.S.t, own1I (.slice y3 G.S.e.length l3) G.S.e, own2U (.slice y4 G.S.m.length l4) v1 G.S.m, own1I (.slice y5 G.T.s.length l5) G.T.s, own1I (.slice y6 G.T.t.length l6) G.T.t, own1I (.slice y7 G.T.e.length l7) G.T.e, own2U (.slice y8 G.T.m.length l8) v2 G.T.m, own1I (.slice y9 G.o.length l9) G.o, own1I (.slice y10 G.a.length l10) G.a]] w' (fun k => W.heap.size ≤ k)) (hb : Below W.heap.size W w') : RetCP W F G c e w'
inductive RetCS (W : World) (F G : Fct) (c : Cat) (os : List (Ent Int)) (rs : List (Ent (Int × Int))) (n : Int) (e : Ending) (w' : World) : Prop where
  | mk (x1 x2 x3 x4 x5 x6 x7 x8 x9 x10 y1 y2 y3 y4 y5 y6 y7 y8 y9 y10 z1 z2 z3 z4 oa ra : Option Addr) (k1 k2 k3 k4 k5 k6 k7 k8 k9 k10 l1 l2 l3 l4 l5 l6 l7 l8 l9 l10 m1 m2 m3 m4 oq rq : Nat) (u1 u2 v1 v2 p : List Value) (he : e = .returned (.tuple #[.agg #[.int .i64 F.S.ob, .slice x1 F.S.s.length k1, .slice x2 F.S.t.length k2, .slice x3 F.S.e.length k3, .slice x4 F.S.m.length k4, .int .i64 F.T.ob, .slice x5 F.T.s.length k5, .slice x6 F.T.t.length k6, .slice x7 F.T.e.length k7, .slice x8 F.T.m.length k8, .slice x9 F.o.length k9, .slice x10 F.a.length k10, .int .i64 G.S.ob, .slice y1 G.S.s.length l1, .slice y2 G.S.t.length l2, .slice y3 G.S.e.length l3, .slice y4 G.S.m.length l4, .int .i64 G.T.ob, .slice y5 G.T.s.length l5, .slice y6 G.T.t.length l6, .slice y7 G.T.e.length l7, .slice y8 G.T.m.length l8, .slice y9 G.o.length l9, .slice y10 G.a.length l10, .int .i64 c.ob, .slice z1 c.s.length m1, .slice z2 c.t.length m2, .slice z3 c.e.length m3, .slice z4 c.m.length m4, .slice oa os.length oq, .slice ra rs.length rq], .int .i64 n])) (hs : Star [own1I (.slice x1 F.S.s.length k1) F.S.s, own1I (.slice x2 F.S.t.length k2) F.S.t, own1I (.slice x3 F.S.e.length k3) F.S.e, own2U (.slice x4 F.S.m.length k4) u1 F.S.m, own1I (.slice x5 F.T.s.length k5) F.T.s, own1I (.slice x6 F.T.t.length k6) F.T.t, own1I (.slice x7 F.T.e.length k7) F.T.e, own2U (.slice x8 F.T.m.length k8) u2 F.T.m, own1I (.slice x9 F.o.length k9) F.o, own1I (.slice x10 F.a.length k10) F.a, own1I (.slice y1 G.S.s.length l1) G.S.s, own1I (.slice y2 G.S.t.length l2) G.S.t, own1I (.slice y3 G.S.e.length l3) G.S.e, own2U (.slice y4 G.S.m.length l4) v1 G.S.m, own1I (.slice y5 G.T.s.length l5) G.T.s, own1I (.slice y6 G.T.t.length l6) G.T.t, own1I (.slice y7 G.T.e.length l7) G.T.e, own2U (.slice y8 G.T.m.length l8) v2 G.T.m, own1I (.slice y9 G.o.length l9) G.o, own1I (.slice y10 G.a.length l10) G.a, ownEI0 lab_co (.slice oa os.length oq) os, own1I (.slice z1 c.s.length m1) c.s, own1I (.slice z2 c.t.length m2) c.t, own1I (.slice z3 c.e.length m3) c.e, own2U (.slice z4 c.m.length m4) p c.m, ownEI0 lab_ca (.slice ra rs.length rq) rs] w' (fun k => W.heap.size ≤ k)) (hb : Below W.heap.size W w') : RetCS W F G c os rs n e w'
theorem mem_swap2 {w0 w : World} {i j : Itm} {js : List Itm} (M : Mem w0 w (i :: j :: js)) : Mem w0 w (j :: i :: js) := mem_perm (List.Perm.swap ..) M
theorem seqC_pack {α β : Type} {w0 : World} {B : List Itm} {gf : Nat} {lb : List Value} {val : α → Value} {T : α → List Itm} {dec : α → β} {L : List β} (h : SeqC w0 B gf lb val T dec L) : SeqC w0 [cpkI B] gf lb val T dec L := fun C Cx l Y W M => by
  have out : ∀ {i : Itm} {W : World}, Mem w0 W (i :: [cpkI B]) → Mem w0 W (i :: B) := fun {i W} M => by
    have := cpk_out (mem_swap2 M)
    exact mem_perm (List.perm_append_singleton _ _) this
  have into : ∀ {i : Itm} {W : World}, Mem w0 W (i :: B) → Mem w0 W (i :: [cpkI B]) := fun {i W} M => mem_swap2 (cpk_in (mem_perm (List.perm_append_singleton _ _).symm M))
  refine (h C Cx l Y W (out M)).mono fun e w' hh => ⟨hh.1, ?_⟩
  rcases hh.2 with ⟨xs, h1, h2⟩ | ⟨pre, h1, h2⟩
  · exact .inl ⟨xs, h1, into h2⟩
  · exact .inr ⟨pre, h1, into h2⟩
theorem cm_pick1 : ∀ {is : List Itm} {n : Nat} {i : Itm}, is[n]? = some i → is.Perm (i :: is.eraseIdx n)
  | [], n, i, h => by simp at h
  | j :: is, 0, i, h => by
    simp only [List.getElem?_cons_zero, Option.some.injEq] at h
    subst h; exact List.Perm.refl _
  | j :: is, n + 1, i, h => (List.Perm.cons j (cm_pick1 (by simpa using h))).trans (List.Perm.swap ..)
def cpick : List Itm → List Nat → List Itm
  | is, [] => is
  | is, k :: ks => match is[k]? with
    | some i => i :: cpick (is.eraseIdx k) ks
    | none => cpick is ks
theorem cpick_perm : ∀ (ks : List Nat) (is : List Itm), is.Perm (cpick is ks)
  | [], is => by unfold cpick; exact List.Perm.refl _
  | k :: ks, is => by
    unfold cpick
    cases h : is[k]? with
    | none => exact cpick_perm ks is
    | some i =>
      have h1 : is.Perm (i :: is.eraseIdx k) := cm_pick1 h
      exact h1.trans (List.Perm.cons _ (cpick_perm ks _))
def RetCl1 (W : World) (gf : Nat) (t : TypeId) (cs : List Value) (e : Ending) (w' : World) : Prop := ∃ B, e = .returned (.func (.func gf) #[] #[.pointer (some ⟨B, 0, none⟩)]) ∧ Star [bxI B t cs] w' (fun k => W.heap.size ≤ k) ∧ Below W.heap.size W w'
def RetCl2 (W : World) (gf : Nat) (t : TypeId) (cs : List Value) (t2 : TypeId) (cs2 : List Value) (e : Ending) (w' : World) : Prop := ∃ B D, e = .returned (.func (.func gf) #[] #[.pointer (some ⟨B, 0, none⟩), .pointer (some ⟨D, 0, none⟩)]) ∧ Star [bxI B t cs, bxI D t2 cs2] w' (fun k => W.heap.size ≤ k) ∧ Below W.heap.size W w'
def RetCl3 (W : World) (gf : Nat) (t : TypeId) (cs : List Value) (t2 : TypeId) (cs2 : List Value) (t3 : TypeId) (cs3 : List Value) (e : Ending) (w' : World) : Prop := ∃ B D H, e = .returned (.func (.func gf) #[] #[.pointer (some ⟨B, 0, none⟩), .pointer (some ⟨D, 0, none⟩), .pointer (some ⟨H, 0, none⟩)]) ∧ Star [bxI B t cs, bxI D t2 cs2, bxI H t3 cs3] w' (fun k => W.heap.size ≤ k) ∧ Below W.heap.size W w'
def HoldC (w0 : World) (H : Itm) (F G : Fct) (x1 x2 x3 x4 x5 x6 x7 x8 x9 x10 y1 y2 y3 y4 y5 y6 y7 y8 y9 y10 : Option Addr) (k1 k2 k3 k4 k5 k6 k7 k8 k9 k10 l1 l2 l3 l4 l5 l6 l7 l8 l9 l10 : Nat) : Prop := ∀ (is : List Itm) (n : Nat) (w : World), Mem w0 w is → is[n]? = some H → CspR w F G x1 x2 x3 x4 x5 x6 x7 x8 x9 x10 y1 y2 y3 y4 y5 y6 y7 y8 y9 y10 k1 k2 k3 k4 k5 k6 k7 k8 k9 k10 l1 l2 l3 l4 l5 l6 l7 l8 l9 l10
theorem hold_fact {w0 : World} {H : Itm} {F G : Fct} {x1 x2 x3 x4 x5 x6 x7 x8 x9 x10 y1 y2 y3 y4 y5 y6 y7 y8 y9 y10 : Option Addr} {k1 k2 k3 k4 k5 k6 k7 k8 k9 k10 l1 l2 l3 l4 l5 l6 l7 l8 l9 l10 : Nat} (h : CspR w0 F G x1 x2 x3 x4 x5 x6 x7 x8 x9 x10 y1 y2 y3 y4 y5 y6 y7 y8 y9 y10 k1 k2 k3 k4 k5 k6 k7 k8 k9 k10 l1 l2 l3 l4 l5 l6 l7 l8 l9 l10) : HoldC w0 H F G x1 x2 x3 x4 x5 x6 x7 x8 x9 x10 y1 y2 y3 y4 y5 y6 y7 y8 y9 y10 k1 k2 k3 k4 k5 k6 k7 k8 k9 k10 l1 l2 l3 l4 l5 l6 l7 l8 l9 l10 := fun _ _ _ M _ => csp_below M.1 h
theorem atE0_E {α : Type} [Inhabited α] (es : List (Ent α)) (i : Int) : atE0 es i = atE es i := by unfold atE0 atE; rfl
def CCg {α : Type} (C Cx : List α → Itm) (b : Bool) (ys : List α) : Itm := match b with | true => C ys | false => Cx ys
theorem cm_sl2U {w0 w : World} {is : List Itm} {n : Nat} {v : Value} {us : List Value} {rows : List (List Int)} (M : Mem w0 w is) (h : is[n]? = some (own2U v us rows)) : Sl2 w w0.heap.size v rows := by
  obtain ⟨S, hS, hb⟩ := mem_get M h
  exact Own2.at (S := S) ⟨_, hb⟩ hS
theorem cm_mapid {α : Type} (l : List α) : l.map (fun x => x) = l := by simp
section
variable {w0 : World} {is : List Itm} {ops : Array Oper} {Q : Exit → Act → World → Prop} {o : Oper} {rest : List Oper} {N : Frm} {n m : Nat} {e : Env} {v : Value} {d : Nat} {K : Act → World → Prop} {f : FuncId} {fn : Func} {ags : Array Operand} {ts : Array TypeId} {vs : List Value}
theorem go_callIt {σ : Type} {New : σ → List Itm} {V : σ → Value} {X B : List Itm} (ks : List Nat) (hd : o.dst = some d) (hN : Nat.blt d N = true) (hop : o.op = .call { callee := .value (.func f), args := ags, argTypes := ts }) (hfn : Try.prog.funcs[f]? = some fn) (hb : fn.body.isNone = false) (hn : (fn.name == "runtime.NumGoroutine") = false) (hargs : evoL e ags.toList = some vs) (hB : cpick is ks = B ++ X)
    (hc : ∀ (R : Itm) w, Mem w0 w [cpkI B, R] → Calls Try.prog f vs.toArray w (fun e w' => ∃ s : σ, e = .returned (V s) ∧ Mem w0 w' (cpkI B :: R :: New s)))
    (hk : ∀ s, GK w0 (is ++ New s) N K ((d, V s) :: e)) : GO w0 is N o e Q K := by
  intro w a M F
  have hXB : is.Perm (B ++ X) := by rw [← hB]; exact cpick_perm ks is
  have M1 : Mem w0 w (cpkI B :: [tailI X]) := mem_tail_in (L := [cpkI B]) (cpk_in (mem_perm hXB M))
  refine go_call hd hN F hop hfn hb hn hargs (hc _ w M1) fun e' w' hR => ?_
  obtain ⟨s, rfl, M2⟩ := hR
  have M3 : Mem w0 w' ((cpkI B :: New s) ++ [tailI X]) := mem_perm (List.Perm.cons _ (List.perm_append_singleton _ _).symm) M2
  have M4 := cpk_out (mem_tail_out M3)
  have M5 : Mem w0 w' (is ++ New s) := mem_perm (by
    refine List.Perm.trans ?_ (List.Perm.append_right _ hXB.symm)
    rw [List.append_assoc]
    exact List.Perm.append_left _ List.perm_append_comm) M4
  exact ⟨_, rfl, fun a F => hk s w' a M5 F⟩
theorem qt_loadE0E {α : Type} [Inhabited α] (L : Lab0 α) {x : Operand} {t : TypeId} {u : Value} {es : List (Ent α)} {i : Int} (hop : o.op = .load t x) (hx : evo e x = some (eltE0 (L.z + 2) u i)) (ht : t = L.tE)
    (hr : ∀ w, Mem w0 w is → RdE0 L w u es) (h0 : 0 ≤ i) (h1 : i < es.length) : QV w0 is o e (encA0 L (atE es i)) := by
  rw [← atE0_E]; exact qt_loadE0 L hop hx ht hr h0 h1
theorem qt_load_co {x : Operand} {t : TypeId} {u : Value} {es : List (Ent Int)} {i : Int} (hop : o.op = .load t x) (hx : evo e x = some (eltE0 (lab_co.z + 2) u i)) (ht : t = lab_co.tE)
    (hr : ∀ w, Mem w0 w is → RdE0 lab_co w u es) (h0 : 0 ≤ i) (h1 : i < es.length) : QV w0 is o e (.agg #[.int .i64 (atE es i).1, .int .i64 (atE es i).2.1, .int .i64 (atE es i).2.2]) := qt_loadE0E lab_co hop hx ht hr h0 h1
theorem go_callCl1 {gf : Nat} {t : TypeId} {cs : List Value} (hd : o.dst = some d) (hN : Nat.blt d N = true) (hop : o.op = .call { callee := .value (.func f), args := ags, argTypes := ts }) (hfn : Try.prog.funcs[f]? = some fn) (hb : fn.body.isNone = false) (hn : (fn.name == "runtime.NumGoroutine") = false) (hargs : evoL e ags.toList = some vs) (hc : ∀ w, Mem w0 w is → Calls Try.prog f vs.toArray w (RetCl1 w gf t cs))
    (hk : ∀ B, GK w0 (is ++ [bxI B t cs]) N K ((d, .func (.func gf) #[] #[.pointer (some ⟨B, 0, none⟩)]) :: e)) : GO w0 is N o e Q K := by
  intro w a M F
  refine go_call hd hN F hop hfn hb hn hargs (hc w M) fun e' w' hR => ?_
  obtain ⟨B, rfl, hs, hbl⟩ := hR
  exact ⟨_, rfl, fun a F => hk B w' a (mem_news M hbl hs) F⟩
theorem go_callCl2 {gf : Nat} {t : TypeId} {cs : List Value} {t2 : TypeId} {cs2 : List Value} (hd : o.dst = some d) (hN : Nat.blt d N = true) (hop : o.op = .call { callee := .value (.func f), args := ags, argTypes := ts }) (hfn : Try.prog.funcs[f]? = some fn) (hb : fn.body.isNone = false) (hn : (fn.name == "runtime.NumGoroutine") = false) (hargs : evoL e ags.toList = some vs) (hc : ∀ w, Mem w0 w is → Calls Try.prog f vs.toArray w (RetCl2 w gf t cs t2 cs2))
    (hk : ∀ B D, GK w0 (is ++ [bxI B t cs, bxI D t2 cs2]) N K ((d, .func (.func gf) #[] #[.pointer (some ⟨B, 0, none⟩), .pointer (some ⟨D, 0, none⟩)]) :: e)) : GO w0 is N o e Q K := by
  intro w a M F
  refine go_call hd hN F hop hfn hb hn hargs (hc w M) fun e' w' hR => ?_
  obtain ⟨B, D, rfl, hs, hbl⟩ := hR
  exact ⟨_, rfl, fun a F => hk B D w' a (mem_news M hbl hs) F⟩
theorem go_callCl3 {gf : Nat} {t : TypeId} {cs : List Value} {t2 : TypeId} {cs2 : List Value} {t3 : TypeId} {cs3 : List Value} (hd : o.dst = some d) (hN : Nat.blt d N = true) (hop : o.op = .call { callee := .value (.func f), args := ags, argTypes := ts }) (hfn : Try.prog.funcs[f]? = some fn) (hb : fn.body.isNone = false) (hn : (fn.name == "runtime.NumGoroutine") = false) (hargs : evoL e ags.toList = some vs) (hc : ∀ w, Mem w0 w is → Calls Try.prog f vs.toArray w (RetCl3 w gf t cs t2 cs2 t3 cs3))
    (hk : ∀ B D H, GK w0 (is ++ [bxI B t cs, bxI D t2 cs2, bxI H t3 cs3]) N K ((d, .func (.func gf) #[] #[.pointer (some ⟨B, 0, none⟩), .pointer (some ⟨D, 0, none⟩), .pointer (some ⟨H, 0, none⟩)]) :: e)) : GO w0 is N o e Q K := by
  intro w a M F
  refine go_call hd hN F hop hfn hb hn hargs (hc w M) fun e' w' hR => ?_
  obtain ⟨B, D, H, rfl, hs, hbl⟩ := hR
  exact ⟨_, rfl, fun a F => hk B D H w' a (mem_news M hbl hs) F⟩
theorem gc_toEnd {c : Code} {i : Itm} (n : Nat) (hi : is[n]? = some i) (hk : GC w0 (is.eraseIdx n ++ [i]) N c Q e) : GC w0 is N c Q e := fun w a M F => hk w a (mem_perm (List.perm_append_singleton _ _).symm (mem_pick M hi)) F
end
end Go.Proofs.Ytpcabkdkdnchaaa
set_option linter.unusedSimpArgs false
set_option linter.unusedVariables false
set_option linter.unusedSectionVars false
namespace Go.Proofs.Ytpcabkdkdnchaaa
open Go.RowKit
inductive RetCRR (W : World) (c : Cat) (r1 r2 : List (List Int)) (e : Ending) (w' : World) : Prop where
  | mk (z1 z2 z3 z4 q1 q2 : Option Addr) (m1 m2 m3 m4 n1 n2 : Nat) (p p1 p2 : List Value) (he : e = .returned (.tuple #[.agg #[.int .i64 c.ob, .slice z1 c.s.length m1, .slice z2 c.t.length m2, .slice z3 c.e.length m3, .slice z4 c.m.length m4], .slice q1 r1.length n1, .slice q2 r2.length n2])) (hs : Star [own1I (.slice z1 c.s.length m1) c.s, own1I (.slice z2 c.t.length m2) c.t, own1I (.slice z3 c.e.length m3) c.e, own2U (.slice z4 c.m.length m4) p c.m, own2U (.slice q1 r1.length n1) p1 r1, own2U (.slice q2 r2.length n2) p2 r2] w' (fun k => W.heap.size ≤ k)) (hb : Below W.heap.size W w') : RetCRR W c r1 r2  e w'
section
variable {w0 : World} {is : List Itm} {ops : Array Oper} {Q : Exit → Act → World → Prop} {o : Oper} {rest : List Oper} {N : Frm} {e : Env} {v : Value} {d : Nat} {K : Act → World → Prop} {f : FuncId} {fn : Func} {ags : Array Operand} {ts : Array TypeId} {vs : List Value}
end
inductive RetCRRI (W : World) (c : Cat) (r1 r2 : List (List Int)) (n : Int) (e : Ending) (w' : World) : Prop where
  | mk (z1 z2 z3 z4 q1 q2 : Option Addr) (m1 m2 m3 m4 n1 n2 : Nat) (p p1 p2 : List Value) (he : e = .returned (.tuple #[.agg #[.int .i64 c.ob, .slice z1 c.s.length m1, .slice z2 c.t.length m2, .slice z3 c.e.length m3, .slice z4 c.m.length m4], .slice q1 r1.length n1, .slice q2 r2.length n2, .int .i64 n])) (hs : Star [own1I (.slice z1 c.s.length m1) c.s, own1I (.slice z2 c.t.length m2) c.t, own1I (.slice z3 c.e.length m3) c.e, own2U (.slice z4 c.m.length m4) p c.m, own2U (.slice q1 r1.length n1) p1 r1, own2U (.slice q2 r2.length n2) p2 r2] w' (fun k => W.heap.size ≤ k)) (hb : Below W.heap.size W w') : RetCRRI W c r1 r2 n e w'
section
variable {w0 : World} {is : List Itm} {ops : Array Oper} {Q : Exit → Act → World → Prop} {o : Oper} {rest : List Oper} {N : Frm} {e : Env} {v : Value} {d : Nat} {K : Act → World → Prop} {f : FuncId} {fn : Func} {ags : Array Operand} {ts : Array TypeId} {vs : List Value}
end
end Go.Proofs.Ytpcabkdkdnchaaa
set_option linter.unusedSimpArgs false
set_option linter.unusedVariables false
set_option linter.unusedSectionVars false
namespace Go.Proofs.Ytpcabkdkdnchaaa
open Go.RowKit
end Go.Proofs.Ytpcabkdkdnchaaa
set_option linter.unusedSimpArgs false
set_option linter.unusedVariables false
set_option linter.unusedSectionVars false
namespace Go.Proofs.Ytpcabkdkdnchaaa
open Go.RowKit
end Go.Proofs.Ytpcabkdkdnchaaa
set_option linter.unusedSimpArgs false
set_option linter.unusedVariables false
set_option linter.unusedSectionVars false
namespace Go.Proofs.Ytpcabkdkdnchaaa
open Go.RowKit
section
variable {w0 : World} {is : List Itm} {ops : Array Oper} {Q : Exit → Act → World → Prop} {o : Oper} {rest : List Oper} {N : Frm} {e : Env} {v u : Value} {d : Nat} {K : Act → World → Prop} {f : FuncId} {fn : Func} {ags : Array Operand} {ts : Array TypeId} {vs : List Value}
end
end Go.Proofs.Ytpcabkdkdnchaaa
