
/- Natural transformations made of others: copies, composites in both directions, a functor before or behind one: both sides. -/
import Derived.Test.YtpppoipaabofgaaTrS
import Derived.Test.YtpppoipaabofgaaPrL
import Derived.Test.YtpppoipaabofgaaThF
set_option linter.unusedSimpArgs false
set_option linter.unusedVariables false
set_option linter.unusedSectionVars false
namespace Go.Proofs.Ytpppoipaabofgaa
open Go.RowKit


theorem fct_eq {F G : Fct} : F = G ↔ ParP F G ∧ F.o = G.o ∧ F.a = G.a := by
  constructor
  · rintro rfl; exact ⟨⟨rfl, rfl⟩, rfl, rfl⟩
  · cases F; cases G; rintro ⟨⟨h1, h2⟩, h3, h4⟩; simp only at h1 h2 h3 h4; subst h1; subst h2; subst h3; subst h4; rfl
theorem allP_e {F : Fct} (h : IsFct F) : AllP F.T.e.length F.o := by
  have hT := (isCat_of h.ct).toShapeP
  have := hT.el
  rw [show ((F.T.e.length : Nat) : Int) = F.T.ob from by omega]; exact h.io
theorem zip_th {c : Cat} (hS : ShapeP c) {x y : Int} (x0 : 0 ≤ x) (x1 : x < c.s.length) (y1 : y < c.s.length) : x < c.m.length ∧ y < (row2 c.m x).length := by
  have h := arrP hS x0 x1
  have h1 := h.fm; have h2 := h.row
  exact ⟨h1, by omega⟩
def zpT (c : Cat) (xs ys : List Int) : List Int := zpL c.th xs ys
theorem zpT_len (c : Cat) (xs ys : List Int) : (zpT c xs ys).length = xs.length := zpL_len _ _ _
def thenT (S T : Tra) : Tra := ⟨S.S, T.T, zpT S.S.T S.c T.c⟩
def befT (F : Fct) (T : Tra) : Tra := ⟨thenF F T.S, thenF F T.T, thenL F.o T.c⟩
def behT (T : Tra) (G : Fct) : Tra := ⟨thenF T.S G, thenF T.T G, thenL T.c G.a⟩
/-- What two transformations one behind the other need. -/
structure ThB (S T : Tra) : Prop where
  sh : ShapeP S.S.T
  a : AllP S.S.T.s.length S.c
  b : AllP S.S.T.s.length T.c
  l : S.c.length = T.c.length
  l8 : S.c.length ≤ 8
/-- The targets of what a functor is composed with. -/
structure GoB (F G : Fct) : Prop where
  o : AllP G.o.length F.o
  a : AllP G.a.length F.a
theorem goB {F G : Fct} (hF : IsFct F) (hG : IsFct G) (h : F.T = G.S) : GoB F G :=
  ⟨by rw [show (G.o.length : Int) = F.T.ob from by rw [h]; exact hG.lo]; exact hF.io, by rw [show (G.a.length : Int) = F.T.s.length from by rw [h]; exact hG.la]; exact hF.ia⟩
theorem isTra_sh {T : Tra} (h : fIsTransformation T = true) : ShT T := (bP_yes2 h).1
structure TrB (T : Tra) : Prop where
  f : IsFct T.S
  g : IsFct T.T
  par : ParP T.S T.T
  ic : AllP T.S.T.s.length T.c
  lc : (T.c.length : Int) = T.S.S.ob
  c8 : T.c.length ≤ 8
theorem trB {T : Tra} (h : ShT T) : TrB T := by
  have hF := isf_of h.two.1
  have hS := (isCat_of hF.cs).toShapeP
  have h1 := hS.ob8; have h2 := h.en.lc
  exact ⟨hF, isf_of h.two.2, h.par, h.en.ic, h2, by omega⟩
theorem thB {S T : Tra} (hS : ShT S) (hT : ShT T) (h : S.T = T.S) : ThB S T := by
  have a := trB hS; have b := trB hT
  have e1 : S.S.T = T.S.T := by rw [a.par.2, h]
  have e2 : S.S.S = T.S.S := by rw [a.par.1, h]
  have l1 := a.lc; have l2 := b.lc
  rw [e2] at l1
  exact ⟨(isCat_of a.f.ct).toShapeP, a.ic, by rw [e1]; exact b.ic, by omega, a.c8⟩

set_option maxHeartbeats 1000000 in
set_option maxRecDepth 100000 in
theorem equalsF_any (w : World) (v : Value) (F : Fct) (u : Value) (G : Fct) (h : RdF w v F) (e : RdF w u G) :
    Calls Try.prog 65 #[v, u] w (RetB w (bP (F = G))) := by
  have h0 := h
  obtain ⟨vx1, vx2, vx3, vx4, vx5, vx6, vx7, vx8, vx9, vx10, vk1, vk2, vk3, vk4, vk5, vk6, vk7, vk8, vk9, vk10, rfl, h1, h2, h3, h4, h5, h6, h7, h8, h9, h10⟩ := h.lists
  have e0 := e
  obtain ⟨ux1, ux2, ux3, ux4, ux5, ux6, ux7, ux8, ux9, ux10, uk1, uk2, uk3, uk4, uk5, uk6, uk7, uk8, uk9, uk10, rfl, e1, e2, e3, e4, e5, e6, e7, e8, e9, e10⟩ := e.lists
  go_enter Try.func65, Try.ntmps65
  refine gc_enter (N := 22) rfl (look_cons (k := 0) rfl (look_cons (k := 1) rfl (look_nil _))) ?_
  refine gc_seq fun K1 hK1 => ?_
  refine gc_region ?_
  refine g_op (.free rfl) fun K3 hK3 => ?_
  refine go_box rfl rfl rfl rfl rfl ?_
  intro B2
  refine hK3 _ _ ?_
  refine g_op (.free rfl) fun K5 hK5 => ?_
  refine go_box rfl rfl rfl rfl rfl ?_
  intro B4
  refine hK5 _ _ ?_
  refine g_v (.free rfl) rfl rfl (qt_assign rfl rfl) ?_
  refine g_nil ?_
  refine gk_then (hK1 _ _ ?_)
  refine gc_seq fun K6 hK6 => ?_
  refine gc_region ?_
  refine g_v (.free rfl) rfl rfl (qt_loadS (n := 0) rfl rfl Try.underlying34 rfl (by kernel_rfl) rfl) ?_
  refine g_v (.free rfl) rfl rfl (qt_loadS (n := 1) rfl rfl Try.underlying34 rfl (by kernel_rfl) rfl) ?_
  refine g_q (.free rfl) rfl rfl (qt_call rfl Try.func104 rfl (by decide) rfl (fun w M => parallel_any w _ _ _ _ (mem_rdF M h0) (mem_rdF M e0))) ?_
  refine g_splitv (.free rfl) rfl rfl (qt_move rfl rfl) (fun hs1_3 => ?_) (fun hs1_3 => ?_)
  · try simp only [decide_eq_true_eq, decide_eq_false_iff_not, Bool.not_eq_true', Bool.not_eq_false', Bool.not_eq_eq_eq_not, Bool.not_true, Bool.not_false, ne_eq, Decidable.not_not, Classical.not_not] at hs1_3
    refine g_v (.held _ _ _ rfl rfl rfl) rfl rfl (qt_field (z := 0) (off := 10) rfl rfl Try.underlying34 rfl (by kernel_rfl) rfl) ?_
    refine g_v (.held _ _ _ rfl rfl rfl) rfl rfl (qt_loadB (n := 0) rfl rfl Try.underlying22 rfl rfl rfl) ?_
    refine g_v (.held _ _ _ rfl rfl rfl) rfl rfl (qt_field (z := 0) (off := 10) rfl rfl Try.underlying34 rfl (by kernel_rfl) rfl) ?_
    refine g_v (.held _ _ _ rfl rfl rfl) rfl rfl (qt_loadB (n := 1) rfl rfl Try.underlying22 rfl rfl rfl) ?_
    refine g_q (.held _ _ _ rfl rfl rfl) rfl rfl (qt_call rfl Try.func105 rfl (by decide) rfl (fun w M => slEqual_any w _ _ _ _ (mem_rd M h9) (mem_rd M e9))) ?_
    refine g_v (.free rfl) rfl rfl (qt_pick_t rfl rfl rfl) ?_
    refine g_splitv (.free rfl) rfl rfl (qt_move rfl rfl) (fun hs1_10 => ?_) (fun hs1_10 => ?_)
    · try simp only [decide_eq_true_eq, decide_eq_false_iff_not, Bool.not_eq_true', Bool.not_eq_false', Bool.not_eq_eq_eq_not, Bool.not_true, Bool.not_false, ne_eq, Decidable.not_not, Classical.not_not] at hs1_10
      refine g_v (.held _ _ _ rfl rfl rfl) rfl rfl (qt_field (z := 0) (off := 11) rfl rfl Try.underlying34 rfl (by kernel_rfl) rfl) ?_
      refine g_v (.held _ _ _ rfl rfl rfl) rfl rfl (qt_loadB (n := 0) rfl rfl Try.underlying22 rfl rfl rfl) ?_
      refine g_v (.held _ _ _ rfl rfl rfl) rfl rfl (qt_field (z := 0) (off := 11) rfl rfl Try.underlying34 rfl (by kernel_rfl) rfl) ?_
      refine g_v (.held _ _ _ rfl rfl rfl) rfl rfl (qt_loadB (n := 1) rfl rfl Try.underlying22 rfl rfl rfl) ?_
      refine g_q (.held _ _ _ rfl rfl rfl) rfl rfl (qt_call rfl Try.func105 rfl (by decide) rfl (fun w M => slEqual_any w _ _ _ _ (mem_rd M h10) (mem_rd M e10))) ?_
      refine g_v (.free rfl) rfl rfl (qt_pick_t rfl rfl rfl) ?_
      refine g_v (.free rfl) rfl rfl (qt_assign rfl rfl) ?_
      refine g_nil ?_
      refine gk_then (hK6 _ _ ?_)
      refine gc_ret ?_
      refine ret_1 rfl rfl  (fun w M => ?_)
      rw [show bP (F = G) = decide (F.a = G.a) from by rw [← bP_dec]; exact bP_congr ⟨fun hq => (fct_eq.1 hq).2.2, fun hq => fct_eq.2 ⟨bP_t' hs1_3, hs1_10, hq⟩⟩]; exact ⟨rfl, M.1⟩
    · try simp only [decide_eq_true_eq, decide_eq_false_iff_not, Bool.not_eq_true', Bool.not_eq_false', Bool.not_eq_eq_eq_not, Bool.not_true, Bool.not_false, ne_eq, Decidable.not_not, Classical.not_not] at hs1_10
      refine g_skip (.not _ _ _ _ rfl rfl rfl rfl) rfl rfl ?_
      refine g_skip (.not _ _ _ _ rfl rfl rfl rfl) rfl rfl ?_
      refine g_skip (.not _ _ _ _ rfl rfl rfl rfl) rfl rfl ?_
      refine g_skip (.not _ _ _ _ rfl rfl rfl rfl) rfl rfl ?_
      refine g_skip (.not _ _ _ _ rfl rfl rfl rfl) rfl rfl ?_
      refine g_v (.free rfl) rfl rfl (qt_pick_f rfl rfl rfl) ?_
      refine g_v (.free rfl) rfl rfl (qt_assign rfl rfl) ?_
      refine g_nil ?_
      refine gk_then (hK6 _ _ ?_)
      refine gc_ret ?_
      refine ret_1 rfl rfl  (fun w M => ?_)
      rw [bP_f fun hq => hs1_10 (fct_eq.1 hq).2.1]; exact ⟨rfl, M.1⟩
  · try simp only [decide_eq_true_eq, decide_eq_false_iff_not, Bool.not_eq_true', Bool.not_eq_false', Bool.not_eq_eq_eq_not, Bool.not_true, Bool.not_false, ne_eq, Decidable.not_not, Classical.not_not] at hs1_3
    refine g_skip (.not _ _ _ _ rfl rfl rfl rfl) rfl rfl ?_
    refine g_skip (.not _ _ _ _ rfl rfl rfl rfl) rfl rfl ?_
    refine g_skip (.not _ _ _ _ rfl rfl rfl rfl) rfl rfl ?_
    refine g_skip (.not _ _ _ _ rfl rfl rfl rfl) rfl rfl ?_
    refine g_skip (.not _ _ _ _ rfl rfl rfl rfl) rfl rfl ?_
    refine g_v (.free rfl) rfl rfl (qt_pick_f rfl rfl rfl) ?_
    refine g_v (.free rfl) rfl rfl (qt_move rfl rfl) ?_
    refine g_skip (.not _ _ _ _ rfl rfl rfl rfl) rfl rfl ?_
    refine g_skip (.not _ _ _ _ rfl rfl rfl rfl) rfl rfl ?_
    refine g_skip (.not _ _ _ _ rfl rfl rfl rfl) rfl rfl ?_
    refine g_skip (.not _ _ _ _ rfl rfl rfl rfl) rfl rfl ?_
    refine g_skip (.not _ _ _ _ rfl rfl rfl rfl) rfl rfl ?_
    refine g_v (.free rfl) rfl rfl (qt_pick_f rfl rfl rfl) ?_
    refine g_v (.free rfl) rfl rfl (qt_assign rfl rfl) ?_
    refine g_nil ?_
    refine gk_then (hK6 _ _ ?_)
    refine gc_ret ?_
    refine ret_1 rfl rfl  (fun w M => ?_)
    rw [bP_f fun hq => bP_f' hs1_3 (fct_eq.1 hq).1]; exact ⟨rfl, M.1⟩

set_option maxHeartbeats 1000000 in
set_option maxRecDepth 100000 in
theorem specSameF_any (w : World) (v : Value) (F : Fct) (u : Value) (G : Fct) (h : RdF w v F) (e : RdF w u G) :
    Calls Try.prog 63 #[v, u] w (RetB w (bP (F = G))) := by
  have h0 := h
  obtain ⟨vx1, vx2, vx3, vx4, vx5, vx6, vx7, vx8, vx9, vx10, vk1, vk2, vk3, vk4, vk5, vk6, vk7, vk8, vk9, vk10, rfl, h1, h2, h3, h4, h5, h6, h7, h8, h9, h10⟩ := h.lists
  have e0 := e
  obtain ⟨ux1, ux2, ux3, ux4, ux5, ux6, ux7, ux8, ux9, ux10, uk1, uk2, uk3, uk4, uk5, uk6, uk7, uk8, uk9, uk10, rfl, e1, e2, e3, e4, e5, e6, e7, e8, e9, e10⟩ := e.lists
  go_enter Try.func63, Try.ntmps63
  refine gc_enter (N := 31) rfl (look_cons (k := 0) rfl (look_cons (k := 1) rfl (look_nil _))) ?_
  refine gc_seq fun K1 hK1 => ?_
  refine gc_region ?_
  refine g_op (.free rfl) fun K3 hK3 => ?_
  refine go_box rfl rfl rfl rfl rfl ?_
  intro B2
  refine hK3 _ _ ?_
  refine g_op (.free rfl) fun K5 hK5 => ?_
  refine go_box rfl rfl rfl rfl rfl ?_
  intro B4
  refine hK5 _ _ ?_
  refine g_v (.free rfl) rfl rfl (qt_assign rfl rfl) ?_
  refine g_nil ?_
  refine gk_then (hK1 _ _ ?_)
  refine gc_seq fun K6 hK6 => ?_
  refine gc_region ?_
  refine g_v (.free rfl) rfl rfl (qt_field (z := 4) (off := 0) rfl rfl Try.underlying34 rfl (by kernel_rfl) rfl) ?_
  refine g_v (.free rfl) rfl rfl (qt_loadP (n := 0) (z := 5) rfl rfl Try.underlying32 rfl (by kernel_rfl) rfl (by first | decide | exact Nat.le_refl _ | simp)) ?_
  refine g_v (.free rfl) rfl rfl (qt_field (z := 4) (off := 0) rfl rfl Try.underlying34 rfl (by kernel_rfl) rfl) ?_
  refine g_v (.free rfl) rfl rfl (qt_loadP (n := 1) (z := 5) rfl rfl Try.underlying32 rfl (by kernel_rfl) rfl (by first | decide | exact Nat.le_refl _ | simp)) ?_
  refine g_q (.free rfl) rfl rfl (qt_call rfl Try.func67 rfl (by decide) rfl (fun w M => specSameC_any w _ _ (rdC_mk (mem_rd M h1) (mem_rd M h2) (mem_rd M h3) (mem_rd2 M h4)) _ _ (rdC_mk (mem_rd M e1) (mem_rd M e2) (mem_rd M e3) (mem_rd2 M e4)))) ?_
  refine g_splitv (.free rfl) rfl rfl (qt_move rfl rfl) (fun hs1_5 => ?_) (fun hs1_5 => ?_)
  · try simp only [decide_eq_true_eq, decide_eq_false_iff_not, Bool.not_eq_true', Bool.not_eq_false', Bool.not_eq_eq_eq_not, Bool.not_true, Bool.not_false, ne_eq, Decidable.not_not, Classical.not_not] at hs1_5
    refine g_v (.held _ _ _ rfl rfl rfl) rfl rfl (qt_field (z := 4) (off := 5) rfl rfl Try.underlying34 rfl (by kernel_rfl) rfl) ?_
    refine g_v (.held _ _ _ rfl rfl rfl) rfl rfl (qt_loadP (n := 0) (z := 5) rfl rfl Try.underlying32 rfl (by kernel_rfl) rfl (by first | decide | exact Nat.le_refl _ | simp)) ?_
    refine g_v (.held _ _ _ rfl rfl rfl) rfl rfl (qt_field (z := 4) (off := 5) rfl rfl Try.underlying34 rfl (by kernel_rfl) rfl) ?_
    refine g_v (.held _ _ _ rfl rfl rfl) rfl rfl (qt_loadP (n := 1) (z := 5) rfl rfl Try.underlying32 rfl (by kernel_rfl) rfl (by first | decide | exact Nat.le_refl _ | simp)) ?_
    refine g_q (.held _ _ _ rfl rfl rfl) rfl rfl (qt_call rfl Try.func67 rfl (by decide) rfl (fun w M => specSameC_any w _ _ (rdC_mk (mem_rd M h5) (mem_rd M h6) (mem_rd M h7) (mem_rd2 M h8)) _ _ (rdC_mk (mem_rd M e5) (mem_rd M e6) (mem_rd M e7) (mem_rd2 M e8)))) ?_
    refine g_v (.free rfl) rfl rfl (qt_pick_t rfl rfl rfl) ?_
    refine g_splitv (.free rfl) rfl rfl (qt_move rfl rfl) (fun hs1_12 => ?_) (fun hs1_12 => ?_)
    · try simp only [decide_eq_true_eq, decide_eq_false_iff_not, Bool.not_eq_true', Bool.not_eq_false', Bool.not_eq_eq_eq_not, Bool.not_true, Bool.not_false, ne_eq, Decidable.not_not, Classical.not_not] at hs1_12
      refine g_v (.held _ _ _ rfl rfl rfl) rfl rfl (qt_field (z := 0) (off := 10) rfl rfl Try.underlying34 rfl (by kernel_rfl) rfl) ?_
      refine g_v (.held _ _ _ rfl rfl rfl) rfl rfl (qt_loadB (n := 0) rfl rfl Try.underlying22 rfl rfl rfl) ?_
      refine g_v (.held _ _ _ rfl rfl rfl) rfl rfl (qt_field (z := 0) (off := 10) rfl rfl Try.underlying34 rfl (by kernel_rfl) rfl) ?_
      refine g_v (.held _ _ _ rfl rfl rfl) rfl rfl (qt_loadB (n := 1) rfl rfl Try.underlying22 rfl rfl rfl) ?_
      refine g_q (.held _ _ _ rfl rfl rfl) rfl rfl (qt_call rfl Try.func103 rfl (by decide) rfl (fun w M => specSame_any w _ _ _ _ (mem_rd M h9) (mem_rd M e9))) ?_
      refine g_v (.free rfl) rfl rfl (qt_pick_t rfl rfl rfl) ?_
      refine g_splitv (.free rfl) rfl rfl (qt_move rfl rfl) (fun hs1_19 => ?_) (fun hs1_19 => ?_)
      · try simp only [decide_eq_true_eq, decide_eq_false_iff_not, Bool.not_eq_true', Bool.not_eq_false', Bool.not_eq_eq_eq_not, Bool.not_true, Bool.not_false, ne_eq, Decidable.not_not, Classical.not_not] at hs1_19
        refine g_v (.held _ _ _ rfl rfl rfl) rfl rfl (qt_field (z := 0) (off := 11) rfl rfl Try.underlying34 rfl (by kernel_rfl) rfl) ?_
        refine g_v (.held _ _ _ rfl rfl rfl) rfl rfl (qt_loadB (n := 0) rfl rfl Try.underlying22 rfl rfl rfl) ?_
        refine g_v (.held _ _ _ rfl rfl rfl) rfl rfl (qt_field (z := 0) (off := 11) rfl rfl Try.underlying34 rfl (by kernel_rfl) rfl) ?_
        refine g_v (.held _ _ _ rfl rfl rfl) rfl rfl (qt_loadB (n := 1) rfl rfl Try.underlying22 rfl rfl rfl) ?_
        refine g_q (.held _ _ _ rfl rfl rfl) rfl rfl (qt_call rfl Try.func103 rfl (by decide) rfl (fun w M => specSame_any w _ _ _ _ (mem_rd M h10) (mem_rd M e10))) ?_
        refine g_v (.free rfl) rfl rfl (qt_pick_t rfl rfl rfl) ?_
        refine g_v (.free rfl) rfl rfl (qt_assign rfl rfl) ?_
        refine g_nil ?_
        refine gk_then (hK6 _ _ ?_)
        refine gc_ret ?_
        refine ret_1 rfl rfl  (fun w M => ?_)
        rw [show bP (F = G) = decide (F.a = G.a) from by rw [← bP_dec]; exact bP_congr ⟨fun hq => (fct_eq.1 hq).2.2, fun hq => fct_eq.2 ⟨⟨bP_t' hs1_5, bP_t' hs1_12⟩, hs1_19, hq⟩⟩]; exact ⟨rfl, M.1⟩
      · try simp only [decide_eq_true_eq, decide_eq_false_iff_not, Bool.not_eq_true', Bool.not_eq_false', Bool.not_eq_eq_eq_not, Bool.not_true, Bool.not_false, ne_eq, Decidable.not_not, Classical.not_not] at hs1_19
        refine g_skip (.not _ _ _ _ rfl rfl rfl rfl) rfl rfl ?_
        refine g_skip (.not _ _ _ _ rfl rfl rfl rfl) rfl rfl ?_
        refine g_skip (.not _ _ _ _ rfl rfl rfl rfl) rfl rfl ?_
        refine g_skip (.not _ _ _ _ rfl rfl rfl rfl) rfl rfl ?_
        refine g_skip (.not _ _ _ _ rfl rfl rfl rfl) rfl rfl ?_
        refine g_v (.free rfl) rfl rfl (qt_pick_f rfl rfl rfl) ?_
        refine g_v (.free rfl) rfl rfl (qt_assign rfl rfl) ?_
        refine g_nil ?_
        refine gk_then (hK6 _ _ ?_)
        refine gc_ret ?_
        refine ret_1 rfl rfl  (fun w M => ?_)
        rw [bP_f fun hq => hs1_19 (fct_eq.1 hq).2.1]; exact ⟨rfl, M.1⟩
    · try simp only [decide_eq_true_eq, decide_eq_false_iff_not, Bool.not_eq_true', Bool.not_eq_false', Bool.not_eq_eq_eq_not, Bool.not_true, Bool.not_false, ne_eq, Decidable.not_not, Classical.not_not] at hs1_12
      refine g_skip (.not _ _ _ _ rfl rfl rfl rfl) rfl rfl ?_
      refine g_skip (.not _ _ _ _ rfl rfl rfl rfl) rfl rfl ?_
      refine g_skip (.not _ _ _ _ rfl rfl rfl rfl) rfl rfl ?_
      refine g_skip (.not _ _ _ _ rfl rfl rfl rfl) rfl rfl ?_
      refine g_skip (.not _ _ _ _ rfl rfl rfl rfl) rfl rfl ?_
      refine g_v (.free rfl) rfl rfl (qt_pick_f rfl rfl rfl) ?_
      refine g_v (.free rfl) rfl rfl (qt_move rfl rfl) ?_
      refine g_skip (.not _ _ _ _ rfl rfl rfl rfl) rfl rfl ?_
      refine g_skip (.not _ _ _ _ rfl rfl rfl rfl) rfl rfl ?_
      refine g_skip (.not _ _ _ _ rfl rfl rfl rfl) rfl rfl ?_
      refine g_skip (.not _ _ _ _ rfl rfl rfl rfl) rfl rfl ?_
      refine g_skip (.not _ _ _ _ rfl rfl rfl rfl) rfl rfl ?_
      refine g_v (.free rfl) rfl rfl (qt_pick_f rfl rfl rfl) ?_
      refine g_v (.free rfl) rfl rfl (qt_assign rfl rfl) ?_
      refine g_nil ?_
      refine gk_then (hK6 _ _ ?_)
      refine gc_ret ?_
      refine ret_1 rfl rfl  (fun w M => ?_)
      rw [bP_f fun hq => bP_f' hs1_12 (fct_eq.1 hq).1.2]; exact ⟨rfl, M.1⟩
  · try simp only [decide_eq_true_eq, decide_eq_false_iff_not, Bool.not_eq_true', Bool.not_eq_false', Bool.not_eq_eq_eq_not, Bool.not_true, Bool.not_false, ne_eq, Decidable.not_not, Classical.not_not] at hs1_5
    refine g_skip (.not _ _ _ _ rfl rfl rfl rfl) rfl rfl ?_
    refine g_skip (.not _ _ _ _ rfl rfl rfl rfl) rfl rfl ?_
    refine g_skip (.not _ _ _ _ rfl rfl rfl rfl) rfl rfl ?_
    refine g_skip (.not _ _ _ _ rfl rfl rfl rfl) rfl rfl ?_
    refine g_skip (.not _ _ _ _ rfl rfl rfl rfl) rfl rfl ?_
    refine g_v (.free rfl) rfl rfl (qt_pick_f rfl rfl rfl) ?_
    refine g_v (.free rfl) rfl rfl (qt_move rfl rfl) ?_
    refine g_skip (.not _ _ _ _ rfl rfl rfl rfl) rfl rfl ?_
    refine g_skip (.not _ _ _ _ rfl rfl rfl rfl) rfl rfl ?_
    refine g_skip (.not _ _ _ _ rfl rfl rfl rfl) rfl rfl ?_
    refine g_skip (.not _ _ _ _ rfl rfl rfl rfl) rfl rfl ?_
    refine g_skip (.not _ _ _ _ rfl rfl rfl rfl) rfl rfl ?_
    refine g_v (.free rfl) rfl rfl (qt_pick_f rfl rfl rfl) ?_
    refine g_v (.free rfl) rfl rfl (qt_move rfl rfl) ?_
    refine g_skip (.not _ _ _ _ rfl rfl rfl rfl) rfl rfl ?_
    refine g_skip (.not _ _ _ _ rfl rfl rfl rfl) rfl rfl ?_
    refine g_skip (.not _ _ _ _ rfl rfl rfl rfl) rfl rfl ?_
    refine g_skip (.not _ _ _ _ rfl rfl rfl rfl) rfl rfl ?_
    refine g_skip (.not _ _ _ _ rfl rfl rfl rfl) rfl rfl ?_
    refine g_v (.free rfl) rfl rfl (qt_pick_f rfl rfl rfl) ?_
    refine g_v (.free rfl) rfl rfl (qt_assign rfl rfl) ?_
    refine g_nil ?_
    refine gk_then (hK6 _ _ ?_)
    refine gc_ret ?_
    refine ret_1 rfl rfl  (fun w M => ?_)
    rw [bP_f fun hq => bP_f' hs1_5 (fct_eq.1 hq).1.1]; exact ⟨rfl, M.1⟩

set_option maxHeartbeats 1000000 in
set_option maxRecDepth 100000 in
theorem specOwnF7_any (w : World) (v : Value) (F : Fct) (h : RdF w v F) :
    Calls Try.prog 90 #[v] w (RetFn w F) := by
  have h0 := h
  obtain ⟨vx1, vx2, vx3, vx4, vx5, vx6, vx7, vx8, vx9, vx10, vk1, vk2, vk3, vk4, vk5, vk6, vk7, vk8, vk9, vk10, rfl, h1, h2, h3, h4, h5, h6, h7, h8, h9, h10⟩ := h.lists
  go_enter Try.func90, Try.ntmps90
  refine gc_enter (N := 12) rfl (look_cons (k := 0) rfl (look_nil _)) ?_
  refine gc_seq fun K1 hK1 => ?_
  refine gc_region ?_
  refine g_op (.free rfl) fun K3 hK3 => ?_
  refine go_box rfl rfl rfl rfl rfl ?_
  intro B2
  refine hK3 _ _ ?_
  refine g_op (.free rfl) fun K5 hK5 => ?_
  refine go_alloc (z := (.agg #[.int .i64 0, .slice none 0 0, .slice none 0 0, .slice none 0 0, .slice none 0 0, .int .i64 0, .slice none 0 0, .slice none 0 0, .slice none 0 0, .slice none 0 0, .slice none 0 0, .slice none 0 0])) (cs := [.int .i64 0, .slice none 0 0, .slice none 0 0, .slice none 0 0, .slice none 0 0, .int .i64 0, .slice none 0 0, .slice none 0 0, .slice none 0 0, .slice none 0 0, .slice none 0 0, .slice none 0 0]) rfl rfl rfl (fun w => by kernel_rfl) rfl ?_
  intro B4
  refine hK5 _ _ ?_
  refine g_nil ?_
  refine gk_then (hK1 _ _ ?_)
  refine gc_seq fun K6 hK6 => ?_
  refine gc_region ?_
  refine g_v (.free rfl) rfl rfl (qt_field (z := 4) (off := 0) rfl rfl Try.underlying34 rfl (by kernel_rfl) rfl) ?_
  refine g_v (.free rfl) rfl rfl (qt_loadP (n := 0) (z := 5) rfl rfl Try.underlying32 rfl (by kernel_rfl) rfl (by first | decide | exact Nat.le_refl _ | simp)) ?_
  refine g_v (.free rfl) rfl rfl (qt_field (z := 4) (off := 5) rfl rfl Try.underlying34 rfl (by kernel_rfl) rfl) ?_
  refine g_v (.free rfl) rfl rfl (qt_loadP (n := 0) (z := 5) rfl rfl Try.underlying32 rfl (by kernel_rfl) rfl (by first | decide | exact Nat.le_refl _ | simp)) ?_
  refine g_v (.free rfl) rfl rfl (qt_field (z := 0) (off := 10) rfl rfl Try.underlying34 rfl (by kernel_rfl) rfl) ?_
  refine g_v (.free rfl) rfl rfl (qt_loadB (n := 0) rfl rfl Try.underlying22 rfl rfl rfl) ?_
  refine g_v (.free rfl) rfl rfl (qt_field (z := 0) (off := 11) rfl rfl Try.underlying34 rfl (by kernel_rfl) rfl) ?_
  refine g_v (.free rfl) rfl rfl (qt_loadB (n := 0) rfl rfl Try.underlying22 rfl rfl rfl) ?_
  refine g_op (.free rfl) fun K8 hK8 => ?_
  refine go_callFn rfl rfl rfl Try.func112 rfl (by decide) rfl (fun w M => specMakeF_any w _ _ (rdC_mk (mem_rd M h1) (mem_rd M h2) (mem_rd M h3) (mem_rd2 M h4)) _ _ (rdC_mk (mem_rd M h5) (mem_rd M h6) (mem_rd M h7) (mem_rd2 M h8)) _ _ _ _ (mem_rd M h9) (mem_rd M h10)) ?_
  intro fx1_7 fk1_7 fx2_7 fk2_7 fx3_7 fk3_7 fx4_7 fk4_7 fx5_7 fk5_7 fx6_7 fk6_7 fx7_7 fk7_7 fx8_7 fk8_7 fx9_7 fk9_7 fx10_7 fk10_7 us7 ut7
  refine hK8 _ _ ?_
  refine g_op (.free rfl) fun K9 hK9 => ?_
  refine go_storeS (n := 1) rfl rfl rfl rfl (by kernel_rfl) rfl rfl rfl ?_
  refine hK9 _ _ ?_
  refine g_nil ?_
  refine gk_then (hK6 _ _ ?_)
  refine gc_ret ?_
  refine ret_S (n := 1) rfl rfl Try.underlying34 rfl (by kernel_rfl) rfl (fun w M => ?_)
  try simp only [List.nil_append, List.cons_append, List.append_assoc, List.set_cons_succ, List.set_cons_zero] at M
  exact retFn_star (F := F) (mem_block 2 10 (M))

set_option maxHeartbeats 1000000 in
set_option maxRecDepth 100000 in
theorem specMakeT_any (w : World) (v : Value) (F : Fct) (u : Value) (G : Fct) (h : RdF w v F) (e : RdF w u G) (cv : Value) (xs : List Int) (hx : Rd w cv xs) :
    Calls Try.prog 53 #[v, u, cv] w (RetTr w ⟨F, G, xs⟩) := by
  have h0 := h
  obtain ⟨vx1, vx2, vx3, vx4, vx5, vx6, vx7, vx8, vx9, vx10, vk1, vk2, vk3, vk4, vk5, vk6, vk7, vk8, vk9, vk10, rfl, h1, h2, h3, h4, h5, h6, h7, h8, h9, h10⟩ := h.lists
  have e0 := e
  obtain ⟨ux1, ux2, ux3, ux4, ux5, ux6, ux7, ux8, ux9, ux10, uk1, uk2, uk3, uk4, uk5, uk6, uk7, uk8, uk9, uk10, rfl, e1, e2, e3, e4, e5, e6, e7, e8, e9, e10⟩ := e.lists
  obtain ⟨cva, cvc, rfl⟩ := rd_form hx
  go_enter Try.func53, Try.ntmps53
  refine gc_enter (N := 14) rfl (look_cons (k := 0) rfl (look_cons (k := 1) rfl (look_cons (k := 2) rfl (look_nil _)))) ?_
  refine gc_seq fun K1 hK1 => ?_
  refine gc_region ?_
  refine g_op (.free rfl) fun K3 hK3 => ?_
  refine go_box rfl rfl rfl rfl rfl ?_
  intro B2
  refine hK3 _ _ ?_
  refine g_op (.free rfl) fun K5 hK5 => ?_
  refine go_box rfl rfl rfl rfl rfl ?_
  intro B4
  refine hK5 _ _ ?_
  refine g_op (.free rfl) fun K7 hK7 => ?_
  refine go_alloc (z := (.agg #[.int .i64 0, .slice none 0 0, .slice none 0 0, .slice none 0 0, .slice none 0 0, .int .i64 0, .slice none 0 0, .slice none 0 0, .slice none 0 0, .slice none 0 0, .slice none 0 0, .slice none 0 0, .int .i64 0, .slice none 0 0, .slice none 0 0, .slice none 0 0, .slice none 0 0, .int .i64 0, .slice none 0 0, .slice none 0 0, .slice none 0 0, .slice none 0 0, .slice none 0 0, .slice none 0 0, .slice none 0 0])) (cs := [.int .i64 0, .slice none 0 0, .slice none 0 0, .slice none 0 0, .slice none 0 0, .int .i64 0, .slice none 0 0, .slice none 0 0, .slice none 0 0, .slice none 0 0, .slice none 0 0, .slice none 0 0, .int .i64 0, .slice none 0 0, .slice none 0 0, .slice none 0 0, .slice none 0 0, .int .i64 0, .slice none 0 0, .slice none 0 0, .slice none 0 0, .slice none 0 0, .slice none 0 0, .slice none 0 0, .slice none 0 0]) rfl rfl rfl (fun w => by kernel_rfl) rfl ?_
  intro B6
  refine hK7 _ _ ?_
  refine g_nil ?_
  refine gk_then (hK1 _ _ ?_)
  refine gc_seq fun K8 hK8 => ?_
  try simp only [List.nil_append, List.cons_append, List.append_assoc, List.set_cons_succ, List.set_cons_zero]
  refine ga_start _ (fun w M => mem_erase 2 (M)) ?_
  refine ga_v 0 rfl (by kernel_rfl) (by kernel_rfl) (by kernel_rfl) (.free rfl) rfl rfl (qt_loadS (n := 0) rfl rfl Try.underlying34 rfl (by kernel_rfl) rfl) (fun _ _ _ h => h) ?_
  refine ga_v 2 rfl (by kernel_rfl) (by kernel_rfl) (by kernel_rfl) (.free rfl) rfl rfl (qt_loadS (n := 1) rfl rfl Try.underlying34 rfl (by kernel_rfl) rfl) (fun _ _ _ h => h) ?_
  refine ga_v 4 rfl (by kernel_rfl) (by kernel_rfl) (by kernel_rfl) (.free rfl) rfl rfl (qt_move rfl rfl) (fun _ _ _ h => h) ?_
  refine ga_op 1 (by kernel_rfl) rfl (.free rfl) fun K10 hK10 => ?_
  refine go_callFn rfl rfl rfl Try.func90 rfl (by decide) rfl (fun w M => specOwnF7_any w _ _ (mem_rdF M h0)) ?_
  intro fx1_9 fk1_9 fx2_9 fk2_9 fx3_9 fk3_9 fx4_9 fk4_9 fx5_9 fk5_9 fx6_9 fk6_9 fx7_9 fk7_9 fx8_9 fk8_9 fx9_9 fk9_9 fx10_9 fk10_9 us9 ut9
  refine hK10 _ _ (fun w M => (mem_erase 2 (mem_take 3 M) :)) ?_
  refine ga_op 3 (by kernel_rfl) rfl (.free rfl) fun K12 hK12 => ?_
  refine go_callFn rfl rfl rfl Try.func90 rfl (by decide) rfl (fun w M => specOwnF7_any w _ _ (mem_rdF M e0)) ?_
  intro fx1_11 fk1_11 fx2_11 fk2_11 fx3_11 fk3_11 fx4_11 fk4_11 fx5_11 fk5_11 fx6_11 fk6_11 fx7_11 fk7_11 fx8_11 fk8_11 fx9_11 fk9_11 fx10_11 fk10_11 us11 ut11
  refine hK12 _ _ (fun w M => (mem_erase 2 (mem_take 3 M) :)) ?_
  refine ga_op 5 (by kernel_rfl) rfl (.free rfl) fun K14 hK14 => ?_
  refine go_callL rfl rfl rfl Try.func91 rfl (by decide) rfl (fun w M => specOwn_any w _ _ (mem_rd M hx)) ?_
  intro va13 vc13
  refine hK14 _ _ (fun w M => (mem_erase 2 (mem_take 3 M) :)) ?_
  refine ga_v 6 rfl (by kernel_rfl) (by kernel_rfl) (by kernel_rfl) (.free rfl) rfl rfl (qt_build rfl rfl bt_Transformation) (fun _ _ _ h => h) ?_
  refine ga_op 7 (by kernel_rfl) rfl (.free rfl) fun K15 hK15 => ?_
  refine go_storeS (n := 2) rfl rfl rfl rfl (by kernel_rfl) rfl rfl rfl ?_
  refine hK15 _ _ (fun w M => (mem_erase 2 (mem_take 3 M) :)) ?_
  refine ga_done (by kernel_rfl) ?_
  refine gk_then (hK8 _ _ ?_)
  refine gc_ret ?_
  refine ret_S (n := 2) rfl rfl Try.underlying36 rfl (by kernel_rfl) rfl (fun w M => ?_)
  try simp only [List.nil_append, List.cons_append, List.append_assoc, List.set_cons_succ, List.set_cons_zero] at M
  exact retTr_star (T := ⟨F, G, xs⟩) (mem_block 3 21 (M))

set_option maxHeartbeats 1000000 in
set_option maxRecDepth 100000 in
theorem specSelf7_any (w : World) (v : Value) (F : Fct) (h : RdF w v F) (hF : IsFct F) :
    Calls Try.prog 54 #[v] w (RetL w (thenL F.o F.T.e)) := by
  have h0 := h
  obtain ⟨vx1, vx2, vx3, vx4, vx5, vx6, vx7, vx8, vx9, vx10, vk1, vk2, vk3, vk4, vk5, vk6, vk7, vk8, vk9, vk10, rfl, h1, h2, h3, h4, h5, h6, h7, h8, h9, h10⟩ := h.lists
  go_enter Try.func54, Try.ntmps54
  refine gc_enter (N := 9) rfl (look_cons (k := 0) rfl (look_nil _)) ?_
  refine gc_seq fun K1 hK1 => ?_
  refine gc_region ?_
  refine g_op (.free rfl) fun K3 hK3 => ?_
  refine go_box rfl rfl rfl rfl rfl ?_
  intro B2
  refine hK3 _ _ ?_
  refine g_v (.free rfl) rfl rfl (qt_assign rfl rfl) ?_
  refine g_nil ?_
  refine gk_then (hK1 _ _ ?_)
  refine gc_seq fun K4 hK4 => ?_
  refine gc_region ?_
  refine g_v (.free rfl) rfl rfl (qt_field (z := 0) (off := 10) rfl rfl Try.underlying34 rfl (by kernel_rfl) rfl) ?_
  refine g_v (.free rfl) rfl rfl (qt_loadB (n := 0) rfl rfl Try.underlying22 rfl rfl rfl) ?_
  refine g_v (.free rfl) rfl rfl (qt_field (z := 4) (off := 5) rfl rfl Try.underlying34 rfl (by kernel_rfl) rfl) ?_
  refine g_v (.free rfl) rfl rfl (qt_field (z := 0) (off := 3) rfl rfl Try.underlying32 rfl (by kernel_rfl) rfl) ?_
  refine g_v (.free rfl) rfl rfl (qt_loadB (n := 0) rfl rfl Try.underlying22 rfl rfl rfl) ?_
  refine g_op (.free rfl) fun K6 hK6 => ?_
  refine go_callL rfl rfl rfl Try.func92 rfl (by decide) rfl (fun w M => specThenM_any w _ _ _ _ (mem_rd M h9) (mem_rd M h7) (allP_e hF)) ?_
  intro va5 vc5
  refine hK6 _ _ ?_
  refine g_v (.free rfl) rfl rfl (qt_assign rfl rfl) ?_
  refine g_nil ?_
  refine gk_then (hK4 _ _ ?_)
  refine gc_ret ?_
  refine ret_1 rfl rfl  (fun w M => ?_)
  exact ⟨_, rfl, mem_own1 (n := 1) M rfl, M.1⟩

set_option maxHeartbeats 1000000 in
set_option maxRecDepth 100000 in
theorem thenTr_any (w : World) (v : Value) (S : Tra) (u : Value) (T : Tra) (h : RdTr w v S) (e : RdTr w u T) (b : ThB S T) :
    Calls Try.prog 66 #[v, u] w (RetTr w (thenT S T)) := by
  have h0 := h
  obtain ⟨vx1, vx2, vx3, vx4, vx5, vx6, vx7, vx8, vx9, vx10, vx11, vx12, vx13, vx14, vx15, vx16, vx17, vx18, vx19, vx20, vx21, vk1, vk2, vk3, vk4, vk5, vk6, vk7, vk8, vk9, vk10, vk11, vk12, vk13, vk14, vk15, vk16, vk17, vk18, vk19, vk20, vk21, rfl, h1, h2, h3, h4, h5, h6, h7, h8, h9, h10, h11, h12, h13, h14, h15, h16, h17, h18, h19, h20, h21⟩ := h.lists
  have e0 := e
  obtain ⟨ux1, ux2, ux3, ux4, ux5, ux6, ux7, ux8, ux9, ux10, ux11, ux12, ux13, ux14, ux15, ux16, ux17, ux18, ux19, ux20, ux21, uk1, uk2, uk3, uk4, uk5, uk6, uk7, uk8, uk9, uk10, uk11, uk12, uk13, uk14, uk15, uk16, uk17, uk18, uk19, uk20, uk21, rfl, e1, e2, e3, e4, e5, e6, e7, e8, e9, e10, e11, e12, e13, e14, e15, e16, e17, e18, e19, e20, e21⟩ := e.lists
  have l8 := b.l8; have ll := b.l
  go_enter Try.func66, Try.ntmps66
  refine gc_enter (N := 23) rfl (look_cons (k := 0) rfl (look_cons (k := 1) rfl (look_nil _))) ?_
  refine gc_seq fun K1 hK1 => ?_
  refine gc_region ?_
  refine g_op (.free rfl) fun K3 hK3 => ?_
  refine go_box rfl rfl rfl rfl rfl ?_
  intro B2
  refine hK3 _ _ ?_
  refine g_op (.free rfl) fun K5 hK5 => ?_
  refine go_box rfl rfl rfl rfl rfl ?_
  intro B4
  refine hK5 _ _ ?_
  refine g_op (.free rfl) fun K7 hK7 => ?_
  refine go_alloc (z := (.agg #[.int .i64 0, .slice none 0 0, .slice none 0 0, .slice none 0 0, .slice none 0 0, .int .i64 0, .slice none 0 0, .slice none 0 0, .slice none 0 0, .slice none 0 0, .slice none 0 0, .slice none 0 0, .int .i64 0, .slice none 0 0, .slice none 0 0, .slice none 0 0, .slice none 0 0, .int .i64 0, .slice none 0 0, .slice none 0 0, .slice none 0 0, .slice none 0 0, .slice none 0 0, .slice none 0 0, .slice none 0 0])) (cs := [.int .i64 0, .slice none 0 0, .slice none 0 0, .slice none 0 0, .slice none 0 0, .int .i64 0, .slice none 0 0, .slice none 0 0, .slice none 0 0, .slice none 0 0, .slice none 0 0, .slice none 0 0, .int .i64 0, .slice none 0 0, .slice none 0 0, .slice none 0 0, .slice none 0 0, .int .i64 0, .slice none 0 0, .slice none 0 0, .slice none 0 0, .slice none 0 0, .slice none 0 0, .slice none 0 0, .slice none 0 0]) rfl rfl rfl (fun w => by kernel_rfl) rfl ?_
  intro B6
  refine hK7 _ _ ?_
  refine g_nil ?_
  refine gk_then (hK1 _ _ ?_)
  refine gc_seq fun K8 hK8 => ?_
  refine gc_region ?_
  refine g_v (.free rfl) rfl rfl (qt_field (z := 0) (off := 24) rfl rfl Try.underlying36 rfl (by kernel_rfl) rfl) ?_
  refine g_v (.free rfl) rfl rfl (qt_loadB (n := 0) rfl rfl Try.underlying22 rfl rfl rfl) ?_
  refine g_v (.free rfl) rfl rfl (qt_field (z := 0) (off := 24) rfl rfl Try.underlying36 rfl (by kernel_rfl) rfl) ?_
  refine g_v (.free rfl) rfl rfl (qt_loadB (n := 1) rfl rfl Try.underlying22 rfl rfl rfl) ?_
  refine g_v (.free rfl) rfl rfl (qt_field (z := 11) (off := 0) rfl rfl Try.underlying36 rfl (by kernel_rfl) rfl) ?_
  refine g_v (.free rfl) rfl rfl (qt_field (z := 4) (off := 5) rfl rfl Try.underlying34 rfl (by kernel_rfl) rfl) ?_
  refine g_v (.free rfl) rfl rfl (qt_loadP (n := 0) (z := 5) rfl rfl Try.underlying32 rfl (by kernel_rfl) rfl (by first | decide | exact Nat.le_refl _ | simp)) ?_
  refine g_v (.free rfl) rfl rfl (qt_makeFB2 rfl rfl) ?_
  refine g_op (.free rfl) fun K10 hK10 => ?_
  refine go_callL rfl rfl rfl Try.func106 rfl (by decide) rfl (fun w M => zipped_any w _ _ _ _ (mem_rd M h21) (mem_rd M e21) (by first | assumption | omega) (by first | assumption | omega) (by first | assumption | omega) (_) (S.S.T.th) (fun w' hb i hi => callsV_f (bnd := [_]) (vs := [_, _]) (caps := []) Try.func107 rfl (by decide) (by
    have hx := allP_at b.a hi; have hy := allP_at b.b (k := i) (by rw [← b.l]; exact hi)
    have hz := zip_th b.sh hx.1 hx.2 hy.2
    exact then_any w' _ S.S.T _ _ (rdC_below hb (rdC_mk (mem_rd M h5) (mem_rd M h6) (mem_rd M h7) (mem_rd2 M h8))) hx.1 hz.1 hy.1 hz.2))) ?_
  intro va9 vc9
  refine hK10 _ _ ?_
  refine g_v (.free rfl) rfl rfl (qt_assign rfl rfl) ?_
  refine g_nil ?_
  refine gk_then (hK8 _ _ ?_)
  refine gc_seq fun K11 hK11 => ?_
  try simp only [List.nil_append, List.cons_append, List.append_assoc, List.set_cons_succ, List.set_cons_zero]
  refine ga_start _ (fun w M => mem_erase 2 (M)) ?_
  refine ga_v 0 rfl (by kernel_rfl) (by kernel_rfl) (by kernel_rfl) (.free rfl) rfl rfl (qt_field (z := 11) (off := 0) rfl rfl Try.underlying36 rfl (by kernel_rfl) rfl) (fun _ _ _ h => h) ?_
  refine ga_v 1 rfl (by kernel_rfl) (by kernel_rfl) (by kernel_rfl) (.free rfl) rfl rfl (qt_loadP (n := 0) (z := 12) rfl rfl Try.underlying34 rfl (by kernel_rfl) rfl (by first | decide | exact Nat.le_refl _ | simp)) (fun _ _ _ h => h) ?_
  refine ga_v 3 rfl (by kernel_rfl) (by kernel_rfl) (by kernel_rfl) (.free rfl) rfl rfl (qt_field (z := 11) (off := 12) rfl rfl Try.underlying36 rfl (by kernel_rfl) rfl) (fun _ _ _ h => h) ?_
  refine ga_v 4 rfl (by kernel_rfl) (by kernel_rfl) (by kernel_rfl) (.free rfl) rfl rfl (qt_loadP (n := 1) (z := 12) rfl rfl Try.underlying34 rfl (by kernel_rfl) rfl (by first | decide | exact Nat.le_refl _ | simp)) (fun _ _ _ h => h) ?_
  refine ga_v 6 rfl (by kernel_rfl) (by kernel_rfl) (by kernel_rfl) (.free rfl) rfl rfl (qt_move rfl rfl) (fun _ _ _ h => h) ?_
  refine ga_op 2 (by kernel_rfl) rfl (.free rfl) fun K13 hK13 => ?_
  refine go_callFn rfl rfl rfl Try.func57 rfl (by decide) rfl (fun w M => copiedF_any w _ _ (mem_rdF M (rdTr_parts h0).1)) ?_
  intro fx1_12 fk1_12 fx2_12 fk2_12 fx3_12 fk3_12 fx4_12 fk4_12 fx5_12 fk5_12 fx6_12 fk6_12 fx7_12 fk7_12 fx8_12 fk8_12 fx9_12 fk9_12 fx10_12 fk10_12 us12 ut12
  refine hK13 _ _ (fun w M => (mem_erase 2 (mem_take 4 M) :)) ?_
  refine ga_op 5 (by kernel_rfl) rfl (.free rfl) fun K15 hK15 => ?_
  refine go_callFn rfl rfl rfl Try.func57 rfl (by decide) rfl (fun w M => copiedF_any w _ _ (mem_rdF M (rdTr_parts e0).2.1)) ?_
  intro fx1_14 fk1_14 fx2_14 fk2_14 fx3_14 fk3_14 fx4_14 fk4_14 fx5_14 fk5_14 fx6_14 fk6_14 fx7_14 fk7_14 fx8_14 fk8_14 fx9_14 fk9_14 fx10_14 fk10_14 us14 ut14
  refine hK15 _ _ (fun w M => (mem_erase 2 (mem_take 4 M) :)) ?_
  refine ga_v 7 rfl (by kernel_rfl) (by kernel_rfl) (by kernel_rfl) (.free rfl) rfl rfl (qt_build rfl rfl bt_Transformation) (fun _ _ _ h => h) ?_
  refine ga_op 8 (by kernel_rfl) rfl (.free rfl) fun K16 hK16 => ?_
  refine go_storeS (n := 2) rfl rfl rfl rfl (by kernel_rfl) rfl rfl rfl ?_
  refine hK16 _ _ (fun w M => (mem_erase 2 (mem_take 4 M) :)) ?_
  refine ga_done (by kernel_rfl) ?_
  refine gk_then (hK11 _ _ ?_)
  refine gc_ret ?_
  refine ret_S (n := 2) rfl rfl Try.underlying36 rfl (by kernel_rfl) rfl (fun w M => ?_)
  try simp only [List.nil_append, List.cons_append, List.append_assoc, List.set_cons_succ, List.set_cons_zero] at M
  exact retTr_star (T := thenT S T) (mem_block 4 20 (mem_block 3 1 (M)))

set_option maxHeartbeats 1000000 in
set_option maxRecDepth 100000 in
theorem specThen7_any (w : World) (v : Value) (c : Cat) (h : RdC w v c) (p : Value) (xs : List Int) (q : Value) (ys : List Int) (hp : Rd w p xs) (hq : Rd w q ys) (hS : ShapeP c) (a : AllP c.s.length xs) (b : AllP c.s.length ys) (l : xs.length = ys.length) (l8 : xs.length ≤ 8) :
    Calls Try.prog 64 #[v, p, q] w (RetL w (zpT c xs ys)) := by
  have h0 := h
  obtain ⟨va, vb, vc, vd, ve, vf, vg, vh, rfl, h1, h2, h3, h4, _⟩ := h.lists
  obtain ⟨pa, pc, rfl⟩ := rd_form hp
  obtain ⟨qa, qc, rfl⟩ := rd_form hq
  go_enter Try.func64, Try.ntmps64
  refine gc_enter (N := 34) rfl (look_cons (k := 0) rfl (look_cons (k := 1) rfl (look_cons (k := 2) rfl (look_nil _)))) ?_
  refine gc_seq fun K1 hK1 => ?_
  refine gc_region ?_
  refine g_op (.free rfl) fun K3 hK3 => ?_
  refine go_box rfl rfl rfl rfl rfl ?_
  intro B2
  refine hK3 _ _ ?_
  refine g_v (.free rfl) rfl rfl (qt_assign rfl rfl) ?_
  refine g_nil ?_
  refine gk_then (hK1 _ _ ?_)
  refine gc_seq fun K4 hK4 => ?_
  refine gc_region ?_
  refine g_op (.free rfl) fun K6 hK6 => ?_
  refine go_slice0 rfl rfl rfl Try.underlying22 ?_
  intro B5
  refine hK6 _ _ ?_
  refine g_v (.free rfl) rfl rfl (qt_assign rfl rfl) ?_
  refine g_nil ?_
  refine gk_then (hK4 _ _ ?_)
  refine gc_seq fun K7 hK7 => ?_
  refine gc_seq fun K8 hK8 => ?_
  refine gc_region ?_
  refine g_v (.free rfl) rfl rfl (qt_assign rfl rfl) ?_
  refine g_nil ?_
  refine gk_then (hK8 _ _ ?_)
  refine gc_block ?_
  try simp only [List.nil_append, List.cons_append, List.append_assoc, List.set_cons_succ, List.set_cons_zero]
  refine gc_loop ([(0, _), (1, _), (2, _), (3, _), (6, _)] : Env) (fun s : Nat × (Option Addr) × Nat => (fun (k : Nat) (aa : Option Addr) (qq : Nat) => ([(7, .slice aa (tabTo (fun i => c.th (at0 xs (i : Int)) (at0 ys (i : Int))) k).length qq), (8, .int .i64 (k : Int))] : Env)) s.1 s.2.1 s.2.2) (fun s : Nat × (Option Addr) × Nat => (fun (k : Nat) (aa : Option Addr) (qq : Nat) => ([(1, own1I (.slice aa (tabTo (fun i => c.th (at0 xs (i : Int)) (at0 ys (i : Int))) k).length qq) (tabTo (fun i => c.th (at0 xs (i : Int)) (at0 ys (i : Int))) k))] : List (Nat × Itm))) s.1 s.2.1 s.2.2) (fun s : Nat × (Option Addr) × Nat => (fun (k : Nat) (aa : Option Addr) (qq : Nat) => k ≤ xs.length) s.1 s.2.1 s.2.2) (fun s : Nat × (Option Addr) × Nat => (fun (k : Nat) (aa : Option Addr) (qq : Nat) => xs.length - k) s.1 s.2.1 s.2.2) (0, _, _) (sub_cons rfl (sub_cons rfl (sub_cons rfl (sub_cons rfl (sub_cons rfl (sub_cons rfl (sub_cons rfl sub_nil))))))) rfl (Nat.zero_le _) ?_
  rintro ⟨k, aa, qq⟩ hinv KL9 hKL9
  simp only [updL, List.foldl_cons, List.foldl_nil, List.set_cons_succ, List.set_cons_zero, List.cons_append, List.nil_append] at hinv hKL9 ⊢
  have hk := hinv
  have hl1 := tabTo_len (fun i => c.th (at0 xs (i : Int)) (at0 ys (i : Int))) k
  refine gc_seq fun K10 hK10 => ?_
  refine gc_seq fun K11 hK11 => ?_
  refine gc_region ?_
  refine g_v (.free rfl) rfl rfl (qt_move rfl rfl) ?_
  refine g_v (.free rfl) rfl rfl (qt_move rfl rfl) ?_
  refine g_v (.free rfl) rfl rfl (qt_len rfl rfl ulE1 (fun w M => lenV_rd hp)) ?_
  refine g_v (.free rfl) rfl rfl (qt_lss rfl rfl rfl) ?_
  refine g_nil ?_
  refine gk_then (hK11 _ _ ?_)
  refine gc_cond rfl (fun hc0 => ?_) (fun hc0 => ?_)
  · try simp only [decide_eq_true_eq, decide_eq_false_iff_not, Bool.not_eq_true', Bool.not_eq_false', Bool.not_eq_eq_eq_not, Bool.not_true, Bool.not_false, ne_eq, Decidable.not_not, Classical.not_not] at hc0
    refine gc_skip ?_
    refine gk_then (hK10 _ _ ?_)
    refine gc_seq fun K12 hK12 => ?_
    refine gc_block ?_
    have hx := allP_at a (k := k) (by omega); have hy := allP_at b (k := k) (by omega)
    have hz := zip_th hS hx.1 hx.2 hy.2
    have x0 := hx.1; have x1 := hz.1; have y0 := hy.1; have y1 := hz.2
    try simp only [List.nil_append, List.cons_append, List.append_assoc, List.set_cons_succ, List.set_cons_zero]
    refine ga_start _ (fun w M => mem_erase 1 (M)) ?_
    refine ga_v 0 rfl (by kernel_rfl) (by kernel_rfl) (by kernel_rfl) (.free rfl) rfl rfl (qt_move rfl rfl) (fun _ _ _ h => h) ?_
    refine ga_v 1 rfl (by kernel_rfl) (by kernel_rfl) (by kernel_rfl) (.free rfl) rfl rfl (qt_field (z := 0) (off := 4) rfl rfl Try.underlying32 rfl (by kernel_rfl) rfl) (fun _ _ _ h => h) ?_
    refine ga_v 2 rfl (by kernel_rfl) (by kernel_rfl) (by kernel_rfl) (.free rfl) rfl rfl (qt_loadB (n := 0) rfl rfl Try.underlying23 rfl rfl rfl) (fun _ _ _ h => h) ?_
    refine ga_v 3 rfl (by kernel_rfl) (by kernel_rfl) (by kernel_rfl) (.free rfl) rfl rfl (qt_move rfl rfl) (fun _ _ _ h => h) ?_
    refine ga_v 4 rfl (by kernel_rfl) (by kernel_rfl) (by kernel_rfl) (.free rfl) rfl rfl (qt_move rfl rfl) (fun _ _ _ h => h) ?_
    refine ga_v 5 rfl (by kernel_rfl) (by kernel_rfl) (by kernel_rfl) (.free rfl) rfl rfl (qt_index rfl rfl rfl ulE1 szE1 (fun w M => lenA_rd hp) (by omega) (by omega)) (fun _ _ _ h => h) ?_
    refine ga_v 6 rfl (by kernel_rfl) (by kernel_rfl) (by kernel_rfl) (.free rfl) rfl rfl (qt_load1 rfl rfl Try.underlying2 rfl (fun w M => mem_rd M hp) (by omega) (by omega)) (fun _ _ _ h => h) ?_
    refine ga_v 7 rfl (by kernel_rfl) (by kernel_rfl) (by kernel_rfl) (.free rfl) rfl rfl (qt_index rfl rfl rfl ulE2 szE2 (fun w M => lenA_rd2 h4) (by omega) (by omega)) (fun _ _ _ h => h) ?_
    refine ga_load2 8 rfl (by kernel_rfl) (by kernel_rfl) (by kernel_rfl) (.free rfl) rfl rfl rfl rfl Try.underlying22 rfl h4 (by omega) (by omega) (fun _ _ _ _ h => h) ?_
    intro ra13 rc13 hr13
    refine ga_v 9 rfl (by kernel_rfl) (by kernel_rfl) (by kernel_rfl) (.free rfl) rfl rfl (qt_move rfl rfl) (fun _ _ _ h => h) ?_
    refine ga_v 10 rfl (by kernel_rfl) (by kernel_rfl) (by kernel_rfl) (.free rfl) rfl rfl (qt_move rfl rfl) (fun _ _ _ h => h) ?_
    refine ga_v 11 rfl (by kernel_rfl) (by kernel_rfl) (by kernel_rfl) (.free rfl) rfl rfl (qt_index rfl rfl rfl ulE1 szE1 (fun w M => lenA_rd hq) (by omega) (by omega)) (fun _ _ _ h => h) ?_
    refine ga_v 12 rfl (by kernel_rfl) (by kernel_rfl) (by kernel_rfl) (.free rfl) rfl rfl (qt_load1 rfl rfl Try.underlying2 rfl (fun w M => mem_rd M hq) (by omega) (by omega)) (fun _ _ _ h => h) ?_
    refine ga_v 13 rfl (by kernel_rfl) (by kernel_rfl) (by kernel_rfl) (.free rfl) rfl rfl (qt_index rfl rfl rfl ulE1 szE1 (fun w M => lenA_rd hr13) (by omega) (by omega)) (fun _ _ _ h => h) ?_
    refine ga_v 14 rfl (by kernel_rfl) (by kernel_rfl) (by kernel_rfl) (.free rfl) rfl rfl (qt_load1 rfl rfl Try.underlying2 rfl (fun w M => mem_rd M hr13) (by omega) (by omega)) (fun _ _ _ h => h) ?_
    refine ga_op 15 (by kernel_rfl) rfl (.free rfl) fun K15 hK15 => ?_
    refine go_slice1 rfl rfl rfl rfl Try.underlying22 ?_
    intro B14
    refine hK15 _ _ (fun w M => (mem_erase 1 (mem_take 2 M) :)) ?_
    refine ga_op 16 (by kernel_rfl) rfl (.free rfl) fun K17 hK17 => ?_
    refine go_append (n := 1) (m := 2) rfl rfl rfl Try.underlying22 rfl rfl rfl rfl (by omega) ?_
    intro va16 vc16
    refine hK17 _ _ (fun w M => (mem_erase 1 (mem_take 2 M) :)) ?_
    refine ga_v 17 rfl (by kernel_rfl) (by kernel_rfl) (by kernel_rfl) (.free rfl) rfl rfl (qt_assign rfl rfl) (fun _ _ _ h => h) ?_
    refine ga_done (by kernel_rfl) ?_
    refine gk_block ?_
    refine gk_then (hK12 _ _ ?_)
    refine gc_region ?_
    refine g_v (.free rfl) rfl rfl (qt_move rfl rfl) ?_
    refine g_v (.free rfl) rfl rfl (qt_add rfl rfl rfl (by omega)) ?_
    refine g_v (.free rfl) rfl rfl (qt_assign rfl rfl) ?_
    refine g_nil ?_
    rw [show tabTo (fun i => c.th (at0 xs (i : Int)) (at0 ys (i : Int))) k ++ [at0 (row2 c.m (at0 xs (k : Int))) (at0 ys (k : Int))] = tabTo (fun i => c.th (at0 xs (i : Int)) (at0 ys (i : Int))) (k + 1) from tabTo_succ (fun i => c.th (at0 xs (i : Int)) (at0 ys (i : Int))) k]
    refine gk_then (gk_take 2 ?_)
    refine gk_sub ?hs_18 (hKL9 (k + 1, _, _) ?hi_18 ?hm_18)
    case hs_18 => exact (sub_cons rfl (sub_cons rfl (sub_cons rfl (sub_cons rfl (sub_cons rfl (sub_cons rfl (sub_cons rfl sub_nil)))))))
    case hi_18 => omega
    case hm_18 => omega
  · try simp only [decide_eq_true_eq, decide_eq_false_iff_not, Bool.not_eq_true', Bool.not_eq_false', Bool.not_eq_eq_eq_not, Bool.not_true, Bool.not_false, ne_eq, Decidable.not_not, Classical.not_not] at hc0
    refine gc_exit ?_
    refine gk_then_exit ?_
    refine gk_then_exit ?_
    refine gk_block_hit ?_
    refine gk_then (hK7 _ _ ?_)
    refine gc_seq fun K19 hK19 => ?_
    refine gc_region ?_
    refine g_v (.free rfl) rfl rfl (qt_move rfl rfl) ?_
    refine g_v (.free rfl) rfl rfl (qt_assign rfl rfl) ?_
    refine g_nil ?_
    refine gk_then (hK19 _ _ ?_)
    refine gc_ret ?_
    refine ret_1 rfl rfl  (fun w M => ?_)
    obtain rfl : k = xs.length := by omega
    exact ⟨_, rfl, mem_own1 (n := 1) M rfl, M.1⟩

set_option maxHeartbeats 1000000 in
set_option maxRecDepth 100000 in
theorem behind_any (w : World) (u : Value) (T : Tra) (v : Value) (F : Fct) (e : RdTr w u T) (h : RdF w v F) (b1 : GoB F T.S) (b2 : GoB F T.T) (ha : AllP T.c.length F.o) :
    Calls Try.prog 70 #[u, v] w (RetTr w (befT F T)) := by
  have e0 := e
  obtain ⟨ux1, ux2, ux3, ux4, ux5, ux6, ux7, ux8, ux9, ux10, ux11, ux12, ux13, ux14, ux15, ux16, ux17, ux18, ux19, ux20, ux21, uk1, uk2, uk3, uk4, uk5, uk6, uk7, uk8, uk9, uk10, uk11, uk12, uk13, uk14, uk15, uk16, uk17, uk18, uk19, uk20, uk21, rfl, e1, e2, e3, e4, e5, e6, e7, e8, e9, e10, e11, e12, e13, e14, e15, e16, e17, e18, e19, e20, e21⟩ := e.lists
  have h0 := h
  obtain ⟨vx1, vx2, vx3, vx4, vx5, vx6, vx7, vx8, vx9, vx10, vk1, vk2, vk3, vk4, vk5, vk6, vk7, vk8, vk9, vk10, rfl, h1, h2, h3, h4, h5, h6, h7, h8, h9, h10⟩ := h.lists
  go_enter Try.func70, Try.ntmps70
  refine gc_enter (N := 19) rfl (look_cons (k := 0) rfl (look_cons (k := 1) rfl (look_nil _))) ?_
  refine gc_seq fun K1 hK1 => ?_
  refine gc_region ?_
  refine g_op (.free rfl) fun K3 hK3 => ?_
  refine go_box rfl rfl rfl rfl rfl ?_
  intro B2
  refine hK3 _ _ ?_
  refine g_op (.free rfl) fun K5 hK5 => ?_
  refine go_box rfl rfl rfl rfl rfl ?_
  intro B4
  refine hK5 _ _ ?_
  refine g_op (.free rfl) fun K7 hK7 => ?_
  refine go_alloc (z := (.agg #[.int .i64 0, .slice none 0 0, .slice none 0 0, .slice none 0 0, .slice none 0 0, .int .i64 0, .slice none 0 0, .slice none 0 0, .slice none 0 0, .slice none 0 0, .slice none 0 0, .slice none 0 0, .int .i64 0, .slice none 0 0, .slice none 0 0, .slice none 0 0, .slice none 0 0, .int .i64 0, .slice none 0 0, .slice none 0 0, .slice none 0 0, .slice none 0 0, .slice none 0 0, .slice none 0 0, .slice none 0 0])) (cs := [.int .i64 0, .slice none 0 0, .slice none 0 0, .slice none 0 0, .slice none 0 0, .int .i64 0, .slice none 0 0, .slice none 0 0, .slice none 0 0, .slice none 0 0, .slice none 0 0, .slice none 0 0, .int .i64 0, .slice none 0 0, .slice none 0 0, .slice none 0 0, .slice none 0 0, .int .i64 0, .slice none 0 0, .slice none 0 0, .slice none 0 0, .slice none 0 0, .slice none 0 0, .slice none 0 0, .slice none 0 0]) rfl rfl rfl (fun w => by kernel_rfl) rfl ?_
  intro B6
  refine hK7 _ _ ?_
  refine g_nil ?_
  refine gk_then (hK1 _ _ ?_)
  refine gc_seq fun K8 hK8 => ?_
  try simp only [List.nil_append, List.cons_append, List.append_assoc, List.set_cons_succ, List.set_cons_zero]
  refine ga_start _ (fun w M => mem_erase 2 (M)) ?_
  refine ga_v 0 rfl (by kernel_rfl) (by kernel_rfl) (by kernel_rfl) (.free rfl) rfl rfl (qt_loadS (n := 1) rfl rfl Try.underlying34 rfl (by kernel_rfl) rfl) (fun _ _ _ h => h) ?_
  refine ga_v 1 rfl (by kernel_rfl) (by kernel_rfl) (by kernel_rfl) (.free rfl) rfl rfl (qt_field (z := 11) (off := 0) rfl rfl Try.underlying36 rfl (by kernel_rfl) rfl) (fun _ _ _ h => h) ?_
  refine ga_v 2 rfl (by kernel_rfl) (by kernel_rfl) (by kernel_rfl) (.free rfl) rfl rfl (qt_loadP (n := 0) (z := 12) rfl rfl Try.underlying34 rfl (by kernel_rfl) rfl (by first | decide | exact Nat.le_refl _ | simp)) (fun _ _ _ h => h) ?_
  refine ga_v 4 rfl (by kernel_rfl) (by kernel_rfl) (by kernel_rfl) (.free rfl) rfl rfl (qt_loadS (n := 1) rfl rfl Try.underlying34 rfl (by kernel_rfl) rfl) (fun _ _ _ h => h) ?_
  refine ga_v 5 rfl (by kernel_rfl) (by kernel_rfl) (by kernel_rfl) (.free rfl) rfl rfl (qt_field (z := 11) (off := 12) rfl rfl Try.underlying36 rfl (by kernel_rfl) rfl) (fun _ _ _ h => h) ?_
  refine ga_v 6 rfl (by kernel_rfl) (by kernel_rfl) (by kernel_rfl) (.free rfl) rfl rfl (qt_loadP (n := 0) (z := 12) rfl rfl Try.underlying34 rfl (by kernel_rfl) rfl (by first | decide | exact Nat.le_refl _ | simp)) (fun _ _ _ h => h) ?_
  refine ga_v 8 rfl (by kernel_rfl) (by kernel_rfl) (by kernel_rfl) (.free rfl) rfl rfl (qt_field (z := 0) (off := 10) rfl rfl Try.underlying34 rfl (by kernel_rfl) rfl) (fun _ _ _ h => h) ?_
  refine ga_v 9 rfl (by kernel_rfl) (by kernel_rfl) (by kernel_rfl) (.free rfl) rfl rfl (qt_loadB (n := 1) rfl rfl Try.underlying22 rfl rfl rfl) (fun _ _ _ h => h) ?_
  refine ga_v 10 rfl (by kernel_rfl) (by kernel_rfl) (by kernel_rfl) (.free rfl) rfl rfl (qt_field (z := 0) (off := 24) rfl rfl Try.underlying36 rfl (by kernel_rfl) rfl) (fun _ _ _ h => h) ?_
  refine ga_v 11 rfl (by kernel_rfl) (by kernel_rfl) (by kernel_rfl) (.free rfl) rfl rfl (qt_loadB (n := 0) rfl rfl Try.underlying22 rfl rfl rfl) (fun _ _ _ h => h) ?_
  refine ga_op 3 (by kernel_rfl) rfl (.free rfl) fun K10 hK10 => ?_
  refine go_callFn rfl rfl rfl Try.func78 rfl (by decide) rfl (fun w M => thenFn_any w _ _ _ _ (mem_rdF M h0) (mem_rdF M (rdTr_parts e0).1) (by first | exact b1.o | exact b2.o) (by first | exact b1.a | exact b2.a)) ?_
  intro fx1_9 fk1_9 fx2_9 fk2_9 fx3_9 fk3_9 fx4_9 fk4_9 fx5_9 fk5_9 fx6_9 fk6_9 fx7_9 fk7_9 fx8_9 fk8_9 fx9_9 fk9_9 fx10_9 fk10_9 us9 ut9
  refine hK10 _ _ (fun w M => (mem_erase 2 (mem_take 3 M) :)) ?_
  refine ga_op 7 (by kernel_rfl) rfl (.free rfl) fun K12 hK12 => ?_
  refine go_callFn rfl rfl rfl Try.func78 rfl (by decide) rfl (fun w M => thenFn_any w _ _ _ _ (mem_rdF M h0) (mem_rdF M (rdTr_parts e0).2.1) (by first | exact b1.o | exact b2.o) (by first | exact b1.a | exact b2.a)) ?_
  intro fx1_11 fk1_11 fx2_11 fk2_11 fx3_11 fk3_11 fx4_11 fk4_11 fx5_11 fk5_11 fx6_11 fk6_11 fx7_11 fk7_11 fx8_11 fk8_11 fx9_11 fk9_11 fx10_11 fk10_11 us11 ut11
  refine hK12 _ _ (fun w M => (mem_erase 2 (mem_take 3 M) :)) ?_
  refine ga_op 12 (by kernel_rfl) rfl (.free rfl) fun K14 hK14 => ?_
  refine go_callL rfl rfl rfl Try.func58 rfl (by decide) rfl (fun w M => imagesOf_any w _ _ _ _ (mem_rd M h9) (mem_rd M e21) (ha)) ?_
  intro va13 vc13
  refine hK14 _ _ (fun w M => (mem_erase 2 (mem_take 3 M) :)) ?_
  refine ga_v 13 rfl (by kernel_rfl) (by kernel_rfl) (by kernel_rfl) (.free rfl) rfl rfl (qt_build rfl rfl bt_Transformation) (fun _ _ _ h => h) ?_
  refine ga_op 14 (by kernel_rfl) rfl (.free rfl) fun K15 hK15 => ?_
  refine go_storeS (n := 2) rfl rfl rfl rfl (by kernel_rfl) rfl rfl rfl ?_
  refine hK15 _ _ (fun w M => (mem_erase 2 (mem_take 3 M) :)) ?_
  refine ga_done (by kernel_rfl) ?_
  refine gk_then (hK8 _ _ ?_)
  refine gc_ret ?_
  refine ret_S (n := 2) rfl rfl Try.underlying36 rfl (by kernel_rfl) rfl (fun w M => ?_)
  try simp only [List.nil_append, List.cons_append, List.append_assoc, List.set_cons_succ, List.set_cons_zero] at M
  exact retTr_star (T := befT F T) (mem_block 3 21 (M))

set_option maxHeartbeats 1000000 in
set_option maxRecDepth 100000 in
theorem before_any (w : World) (u : Value) (T : Tra) (v : Value) (F : Fct) (e : RdTr w u T) (h : RdF w v F) (b1 : GoB T.S F) (b2 : GoB T.T F) (ha : AllP F.a.length T.c) :
    Calls Try.prog 72 #[u, v] w (RetTr w (behT T F)) := by
  have e0 := e
  obtain ⟨ux1, ux2, ux3, ux4, ux5, ux6, ux7, ux8, ux9, ux10, ux11, ux12, ux13, ux14, ux15, ux16, ux17, ux18, ux19, ux20, ux21, uk1, uk2, uk3, uk4, uk5, uk6, uk7, uk8, uk9, uk10, uk11, uk12, uk13, uk14, uk15, uk16, uk17, uk18, uk19, uk20, uk21, rfl, e1, e2, e3, e4, e5, e6, e7, e8, e9, e10, e11, e12, e13, e14, e15, e16, e17, e18, e19, e20, e21⟩ := e.lists
  have h0 := h
  obtain ⟨vx1, vx2, vx3, vx4, vx5, vx6, vx7, vx8, vx9, vx10, vk1, vk2, vk3, vk4, vk5, vk6, vk7, vk8, vk9, vk10, rfl, h1, h2, h3, h4, h5, h6, h7, h8, h9, h10⟩ := h.lists
  go_enter Try.func72, Try.ntmps72
  refine gc_enter (N := 19) rfl (look_cons (k := 0) rfl (look_cons (k := 1) rfl (look_nil _))) ?_
  refine gc_seq fun K1 hK1 => ?_
  refine gc_region ?_
  refine g_op (.free rfl) fun K3 hK3 => ?_
  refine go_box rfl rfl rfl rfl rfl ?_
  intro B2
  refine hK3 _ _ ?_
  refine g_op (.free rfl) fun K5 hK5 => ?_
  refine go_box rfl rfl rfl rfl rfl ?_
  intro B4
  refine hK5 _ _ ?_
  refine g_op (.free rfl) fun K7 hK7 => ?_
  refine go_alloc (z := (.agg #[.int .i64 0, .slice none 0 0, .slice none 0 0, .slice none 0 0, .slice none 0 0, .int .i64 0, .slice none 0 0, .slice none 0 0, .slice none 0 0, .slice none 0 0, .slice none 0 0, .slice none 0 0, .int .i64 0, .slice none 0 0, .slice none 0 0, .slice none 0 0, .slice none 0 0, .int .i64 0, .slice none 0 0, .slice none 0 0, .slice none 0 0, .slice none 0 0, .slice none 0 0, .slice none 0 0, .slice none 0 0])) (cs := [.int .i64 0, .slice none 0 0, .slice none 0 0, .slice none 0 0, .slice none 0 0, .int .i64 0, .slice none 0 0, .slice none 0 0, .slice none 0 0, .slice none 0 0, .slice none 0 0, .slice none 0 0, .int .i64 0, .slice none 0 0, .slice none 0 0, .slice none 0 0, .slice none 0 0, .int .i64 0, .slice none 0 0, .slice none 0 0, .slice none 0 0, .slice none 0 0, .slice none 0 0, .slice none 0 0, .slice none 0 0]) rfl rfl rfl (fun w => by kernel_rfl) rfl ?_
  intro B6
  refine hK7 _ _ ?_
  refine g_nil ?_
  refine gk_then (hK1 _ _ ?_)
  refine gc_seq fun K8 hK8 => ?_
  try simp only [List.nil_append, List.cons_append, List.append_assoc, List.set_cons_succ, List.set_cons_zero]
  refine ga_start _ (fun w M => mem_erase 2 (M)) ?_
  refine ga_v 0 rfl (by kernel_rfl) (by kernel_rfl) (by kernel_rfl) (.free rfl) rfl rfl (qt_field (z := 11) (off := 0) rfl rfl Try.underlying36 rfl (by kernel_rfl) rfl) (fun _ _ _ h => h) ?_
  refine ga_v 1 rfl (by kernel_rfl) (by kernel_rfl) (by kernel_rfl) (.free rfl) rfl rfl (qt_loadP (n := 0) (z := 12) rfl rfl Try.underlying34 rfl (by kernel_rfl) rfl (by first | decide | exact Nat.le_refl _ | simp)) (fun _ _ _ h => h) ?_
  refine ga_v 2 rfl (by kernel_rfl) (by kernel_rfl) (by kernel_rfl) (.free rfl) rfl rfl (qt_loadS (n := 1) rfl rfl Try.underlying34 rfl (by kernel_rfl) rfl) (fun _ _ _ h => h) ?_
  refine ga_v 4 rfl (by kernel_rfl) (by kernel_rfl) (by kernel_rfl) (.free rfl) rfl rfl (qt_field (z := 11) (off := 12) rfl rfl Try.underlying36 rfl (by kernel_rfl) rfl) (fun _ _ _ h => h) ?_
  refine ga_v 5 rfl (by kernel_rfl) (by kernel_rfl) (by kernel_rfl) (.free rfl) rfl rfl (qt_loadP (n := 0) (z := 12) rfl rfl Try.underlying34 rfl (by kernel_rfl) rfl (by first | decide | exact Nat.le_refl _ | simp)) (fun _ _ _ h => h) ?_
  refine ga_v 6 rfl (by kernel_rfl) (by kernel_rfl) (by kernel_rfl) (.free rfl) rfl rfl (qt_loadS (n := 1) rfl rfl Try.underlying34 rfl (by kernel_rfl) rfl) (fun _ _ _ h => h) ?_
  refine ga_v 8 rfl (by kernel_rfl) (by kernel_rfl) (by kernel_rfl) (.free rfl) rfl rfl (qt_field (z := 0) (off := 24) rfl rfl Try.underlying36 rfl (by kernel_rfl) rfl) (fun _ _ _ h => h) ?_
  refine ga_v 9 rfl (by kernel_rfl) (by kernel_rfl) (by kernel_rfl) (.free rfl) rfl rfl (qt_loadB (n := 0) rfl rfl Try.underlying22 rfl rfl rfl) (fun _ _ _ h => h) ?_
  refine ga_v 10 rfl (by kernel_rfl) (by kernel_rfl) (by kernel_rfl) (.free rfl) rfl rfl (qt_field (z := 0) (off := 11) rfl rfl Try.underlying34 rfl (by kernel_rfl) rfl) (fun _ _ _ h => h) ?_
  refine ga_v 11 rfl (by kernel_rfl) (by kernel_rfl) (by kernel_rfl) (.free rfl) rfl rfl (qt_loadB (n := 1) rfl rfl Try.underlying22 rfl rfl rfl) (fun _ _ _ h => h) ?_
  refine ga_op 3 (by kernel_rfl) rfl (.free rfl) fun K10 hK10 => ?_
  refine go_callFn rfl rfl rfl Try.func78 rfl (by decide) rfl (fun w M => thenFn_any w _ _ _ _ (mem_rdF M (rdTr_parts e0).1) (mem_rdF M h0) (by first | exact b1.o | exact b2.o) (by first | exact b1.a | exact b2.a)) ?_
  intro fx1_9 fk1_9 fx2_9 fk2_9 fx3_9 fk3_9 fx4_9 fk4_9 fx5_9 fk5_9 fx6_9 fk6_9 fx7_9 fk7_9 fx8_9 fk8_9 fx9_9 fk9_9 fx10_9 fk10_9 us9 ut9
  refine hK10 _ _ (fun w M => (mem_erase 2 (mem_take 3 M) :)) ?_
  refine ga_op 7 (by kernel_rfl) rfl (.free rfl) fun K12 hK12 => ?_
  refine go_callFn rfl rfl rfl Try.func78 rfl (by decide) rfl (fun w M => thenFn_any w _ _ _ _ (mem_rdF M (rdTr_parts e0).2.1) (mem_rdF M h0) (by first | exact b1.o | exact b2.o) (by first | exact b1.a | exact b2.a)) ?_
  intro fx1_11 fk1_11 fx2_11 fk2_11 fx3_11 fk3_11 fx4_11 fk4_11 fx5_11 fk5_11 fx6_11 fk6_11 fx7_11 fk7_11 fx8_11 fk8_11 fx9_11 fk9_11 fx10_11 fk10_11 us11 ut11
  refine hK12 _ _ (fun w M => (mem_erase 2 (mem_take 3 M) :)) ?_
  refine ga_op 12 (by kernel_rfl) rfl (.free rfl) fun K14 hK14 => ?_
  refine go_callL rfl rfl rfl Try.func58 rfl (by decide) rfl (fun w M => imagesOf_any w _ _ _ _ (mem_rd M e21) (mem_rd M h10) (ha)) ?_
  intro va13 vc13
  refine hK14 _ _ (fun w M => (mem_erase 2 (mem_take 3 M) :)) ?_
  refine ga_v 13 rfl (by kernel_rfl) (by kernel_rfl) (by kernel_rfl) (.free rfl) rfl rfl (qt_build rfl rfl bt_Transformation) (fun _ _ _ h => h) ?_
  refine ga_op 14 (by kernel_rfl) rfl (.free rfl) fun K15 hK15 => ?_
  refine go_storeS (n := 2) rfl rfl rfl rfl (by kernel_rfl) rfl rfl rfl ?_
  refine hK15 _ _ (fun w M => (mem_erase 2 (mem_take 3 M) :)) ?_
  refine ga_done (by kernel_rfl) ?_
  refine gk_then (hK8 _ _ ?_)
  refine gc_ret ?_
  refine ret_S (n := 2) rfl rfl Try.underlying36 rfl (by kernel_rfl) rfl (fun w M => ?_)
  try simp only [List.nil_append, List.cons_append, List.append_assoc, List.set_cons_succ, List.set_cons_zero] at M
  exact retTr_star (T := behT T F) (mem_block 3 21 (M))

set_option maxHeartbeats 1000000 in
set_option maxRecDepth 100000 in
theorem specBefore_any (w : World) (v : Value) (F : Fct) (u : Value) (T : Tra) (h : RdF w v F) (e : RdTr w u T) (b1 : GoB F T.S) (b2 : GoB F T.T) (ha : AllP T.c.length F.o) :
    Calls Try.prog 68 #[v, u] w (RetTr w (befT F T)) := by
  have h0 := h
  obtain ⟨vx1, vx2, vx3, vx4, vx5, vx6, vx7, vx8, vx9, vx10, vk1, vk2, vk3, vk4, vk5, vk6, vk7, vk8, vk9, vk10, rfl, h1, h2, h3, h4, h5, h6, h7, h8, h9, h10⟩ := h.lists
  have e0 := e
  obtain ⟨ux1, ux2, ux3, ux4, ux5, ux6, ux7, ux8, ux9, ux10, ux11, ux12, ux13, ux14, ux15, ux16, ux17, ux18, ux19, ux20, ux21, uk1, uk2, uk3, uk4, uk5, uk6, uk7, uk8, uk9, uk10, uk11, uk12, uk13, uk14, uk15, uk16, uk17, uk18, uk19, uk20, uk21, rfl, e1, e2, e3, e4, e5, e6, e7, e8, e9, e10, e11, e12, e13, e14, e15, e16, e17, e18, e19, e20, e21⟩ := e.lists
  go_enter Try.func68, Try.ntmps68
  refine gc_enter (N := 19) rfl (look_cons (k := 0) rfl (look_cons (k := 1) rfl (look_nil _))) ?_
  refine gc_seq fun K1 hK1 => ?_
  refine gc_region ?_
  refine g_op (.free rfl) fun K3 hK3 => ?_
  refine go_box rfl rfl rfl rfl rfl ?_
  intro B2
  refine hK3 _ _ ?_
  refine g_op (.free rfl) fun K5 hK5 => ?_
  refine go_box rfl rfl rfl rfl rfl ?_
  intro B4
  refine hK5 _ _ ?_
  refine g_op (.free rfl) fun K7 hK7 => ?_
  refine go_alloc (z := (.agg #[.int .i64 0, .slice none 0 0, .slice none 0 0, .slice none 0 0, .slice none 0 0, .int .i64 0, .slice none 0 0, .slice none 0 0, .slice none 0 0, .slice none 0 0, .slice none 0 0, .slice none 0 0, .int .i64 0, .slice none 0 0, .slice none 0 0, .slice none 0 0, .slice none 0 0, .int .i64 0, .slice none 0 0, .slice none 0 0, .slice none 0 0, .slice none 0 0, .slice none 0 0, .slice none 0 0, .slice none 0 0])) (cs := [.int .i64 0, .slice none 0 0, .slice none 0 0, .slice none 0 0, .slice none 0 0, .int .i64 0, .slice none 0 0, .slice none 0 0, .slice none 0 0, .slice none 0 0, .slice none 0 0, .slice none 0 0, .int .i64 0, .slice none 0 0, .slice none 0 0, .slice none 0 0, .slice none 0 0, .int .i64 0, .slice none 0 0, .slice none 0 0, .slice none 0 0, .slice none 0 0, .slice none 0 0, .slice none 0 0, .slice none 0 0]) rfl rfl rfl (fun w => by kernel_rfl) rfl ?_
  intro B6
  refine hK7 _ _ ?_
  refine g_nil ?_
  refine gk_then (hK1 _ _ ?_)
  refine gc_seq fun K8 hK8 => ?_
  try simp only [List.nil_append, List.cons_append, List.append_assoc, List.set_cons_succ, List.set_cons_zero]
  refine ga_start _ (fun w M => mem_erase 2 (M)) ?_
  refine ga_v 0 rfl (by kernel_rfl) (by kernel_rfl) (by kernel_rfl) (.free rfl) rfl rfl (qt_loadS (n := 0) rfl rfl Try.underlying34 rfl (by kernel_rfl) rfl) (fun _ _ _ h => h) ?_
  refine ga_v 1 rfl (by kernel_rfl) (by kernel_rfl) (by kernel_rfl) (.free rfl) rfl rfl (qt_field (z := 11) (off := 0) rfl rfl Try.underlying36 rfl (by kernel_rfl) rfl) (fun _ _ _ h => h) ?_
  refine ga_v 2 rfl (by kernel_rfl) (by kernel_rfl) (by kernel_rfl) (.free rfl) rfl rfl (qt_loadP (n := 1) (z := 12) rfl rfl Try.underlying34 rfl (by kernel_rfl) rfl (by first | decide | exact Nat.le_refl _ | simp)) (fun _ _ _ h => h) ?_
  refine ga_v 4 rfl (by kernel_rfl) (by kernel_rfl) (by kernel_rfl) (.free rfl) rfl rfl (qt_loadS (n := 0) rfl rfl Try.underlying34 rfl (by kernel_rfl) rfl) (fun _ _ _ h => h) ?_
  refine ga_v 5 rfl (by kernel_rfl) (by kernel_rfl) (by kernel_rfl) (.free rfl) rfl rfl (qt_field (z := 11) (off := 12) rfl rfl Try.underlying36 rfl (by kernel_rfl) rfl) (fun _ _ _ h => h) ?_
  refine ga_v 6 rfl (by kernel_rfl) (by kernel_rfl) (by kernel_rfl) (.free rfl) rfl rfl (qt_loadP (n := 1) (z := 12) rfl rfl Try.underlying34 rfl (by kernel_rfl) rfl (by first | decide | exact Nat.le_refl _ | simp)) (fun _ _ _ h => h) ?_
  refine ga_v 8 rfl (by kernel_rfl) (by kernel_rfl) (by kernel_rfl) (.free rfl) rfl rfl (qt_field (z := 0) (off := 10) rfl rfl Try.underlying34 rfl (by kernel_rfl) rfl) (fun _ _ _ h => h) ?_
  refine ga_v 9 rfl (by kernel_rfl) (by kernel_rfl) (by kernel_rfl) (.free rfl) rfl rfl (qt_loadB (n := 0) rfl rfl Try.underlying22 rfl rfl rfl) (fun _ _ _ h => h) ?_
  refine ga_v 10 rfl (by kernel_rfl) (by kernel_rfl) (by kernel_rfl) (.free rfl) rfl rfl (qt_field (z := 0) (off := 24) rfl rfl Try.underlying36 rfl (by kernel_rfl) rfl) (fun _ _ _ h => h) ?_
  refine ga_v 11 rfl (by kernel_rfl) (by kernel_rfl) (by kernel_rfl) (.free rfl) rfl rfl (qt_loadB (n := 1) rfl rfl Try.underlying22 rfl rfl rfl) (fun _ _ _ h => h) ?_
  refine ga_op 3 (by kernel_rfl) rfl (.free rfl) fun K10 hK10 => ?_
  refine go_callFn rfl rfl rfl Try.func76 rfl (by decide) rfl (fun w M => specThenF_any w _ _ _ _ (mem_rdF M h0) (mem_rdF M (rdTr_parts e0).1) (by first | exact b1.o | exact b2.o) (by first | exact b1.a | exact b2.a)) ?_
  intro fx1_9 fk1_9 fx2_9 fk2_9 fx3_9 fk3_9 fx4_9 fk4_9 fx5_9 fk5_9 fx6_9 fk6_9 fx7_9 fk7_9 fx8_9 fk8_9 fx9_9 fk9_9 fx10_9 fk10_9 us9 ut9
  refine hK10 _ _ (fun w M => (mem_erase 2 (mem_take 3 M) :)) ?_
  refine ga_op 7 (by kernel_rfl) rfl (.free rfl) fun K12 hK12 => ?_
  refine go_callFn rfl rfl rfl Try.func76 rfl (by decide) rfl (fun w M => specThenF_any w _ _ _ _ (mem_rdF M h0) (mem_rdF M (rdTr_parts e0).2.1) (by first | exact b1.o | exact b2.o) (by first | exact b1.a | exact b2.a)) ?_
  intro fx1_11 fk1_11 fx2_11 fk2_11 fx3_11 fk3_11 fx4_11 fk4_11 fx5_11 fk5_11 fx6_11 fk6_11 fx7_11 fk7_11 fx8_11 fk8_11 fx9_11 fk9_11 fx10_11 fk10_11 us11 ut11
  refine hK12 _ _ (fun w M => (mem_erase 2 (mem_take 3 M) :)) ?_
  refine ga_op 12 (by kernel_rfl) rfl (.free rfl) fun K14 hK14 => ?_
  refine go_callL rfl rfl rfl Try.func92 rfl (by decide) rfl (fun w M => specThenM_any w _ _ _ _ (mem_rd M h9) (mem_rd M e21) (ha)) ?_
  intro va13 vc13
  refine hK14 _ _ (fun w M => (mem_erase 2 (mem_take 3 M) :)) ?_
  refine ga_op 13 (by kernel_rfl) rfl (.free rfl) fun K16 hK16 => ?_
  refine go_callTr rfl rfl rfl Try.func53 rfl (by decide) rfl (fun w M => specMakeT_any w _ _ _ _ (rdF_mk ((mem_own1 (n := 3) M rfl).rd) ((mem_own1 (n := 4) M rfl).rd) ((mem_own1 (n := 5) M rfl).rd) (mem_rdU (n := 6) M rfl) ((mem_own1 (n := 7) M rfl).rd) ((mem_own1 (n := 8) M rfl).rd) ((mem_own1 (n := 9) M rfl).rd) (mem_rdU (n := 10) M rfl) ((mem_own1 (n := 11) M rfl).rd) ((mem_own1 (n := 12) M rfl).rd)) (rdF_mk ((mem_own1 (n := 13) M rfl).rd) ((mem_own1 (n := 14) M rfl).rd) ((mem_own1 (n := 15) M rfl).rd) (mem_rdU (n := 16) M rfl) ((mem_own1 (n := 17) M rfl).rd) ((mem_own1 (n := 18) M rfl).rd) ((mem_own1 (n := 19) M rfl).rd) (mem_rdU (n := 20) M rfl) ((mem_own1 (n := 21) M rfl).rd) ((mem_own1 (n := 22) M rfl).rd)) _ _ ((mem_own1 (n := 23) M rfl).rd)) ?_
  intro tx1_15 tk1_15 tx2_15 tk2_15 tx3_15 tk3_15 tx4_15 tk4_15 tx5_15 tk5_15 tx6_15 tk6_15 tx7_15 tk7_15 tx8_15 tk8_15 tx9_15 tk9_15 tx10_15 tk10_15 tx11_15 tk11_15 tx12_15 tk12_15 tx13_15 tk13_15 tx14_15 tk14_15 tx15_15 tk15_15 tx16_15 tk16_15 tx17_15 tk17_15 tx18_15 tk18_15 tx19_15 tk19_15 tx20_15 tk20_15 tx21_15 tk21_15
  refine hK16 _ _ (fun w M => (mem_erase 2 (mem_take 3 M) :)) ?_
  refine ga_op 14 (by kernel_rfl) rfl (.free rfl) fun K17 hK17 => ?_
  refine go_storeS (n := 2) rfl rfl rfl rfl (by kernel_rfl) rfl rfl rfl ?_
  refine hK17 _ _ (fun w M => (mem_erase 2 (mem_take 3 M) :)) ?_
  refine ga_done (by kernel_rfl) ?_
  refine gk_then (hK8 _ _ ?_)
  refine gc_ret ?_
  refine ret_S (n := 2) rfl rfl Try.underlying36 rfl (by kernel_rfl) rfl (fun w M => ?_)
  exact retTr_pass (T := befT F T) (n := 24) M rfl

set_option maxHeartbeats 1000000 in
set_option maxRecDepth 100000 in
theorem specBehind_any (w : World) (u : Value) (T : Tra) (v : Value) (F : Fct) (e : RdTr w u T) (h : RdF w v F) (b1 : GoB T.S F) (b2 : GoB T.T F) (ha : AllP F.a.length T.c) :
    Calls Try.prog 71 #[u, v] w (RetTr w (behT T F)) := by
  have e0 := e
  obtain ⟨ux1, ux2, ux3, ux4, ux5, ux6, ux7, ux8, ux9, ux10, ux11, ux12, ux13, ux14, ux15, ux16, ux17, ux18, ux19, ux20, ux21, uk1, uk2, uk3, uk4, uk5, uk6, uk7, uk8, uk9, uk10, uk11, uk12, uk13, uk14, uk15, uk16, uk17, uk18, uk19, uk20, uk21, rfl, e1, e2, e3, e4, e5, e6, e7, e8, e9, e10, e11, e12, e13, e14, e15, e16, e17, e18, e19, e20, e21⟩ := e.lists
  have h0 := h
  obtain ⟨vx1, vx2, vx3, vx4, vx5, vx6, vx7, vx8, vx9, vx10, vk1, vk2, vk3, vk4, vk5, vk6, vk7, vk8, vk9, vk10, rfl, h1, h2, h3, h4, h5, h6, h7, h8, h9, h10⟩ := h.lists
  go_enter Try.func71, Try.ntmps71
  refine gc_enter (N := 19) rfl (look_cons (k := 0) rfl (look_cons (k := 1) rfl (look_nil _))) ?_
  refine gc_seq fun K1 hK1 => ?_
  refine gc_region ?_
  refine g_op (.free rfl) fun K3 hK3 => ?_
  refine go_box rfl rfl rfl rfl rfl ?_
  intro B2
  refine hK3 _ _ ?_
  refine g_op (.free rfl) fun K5 hK5 => ?_
  refine go_box rfl rfl rfl rfl rfl ?_
  intro B4
  refine hK5 _ _ ?_
  refine g_op (.free rfl) fun K7 hK7 => ?_
  refine go_alloc (z := (.agg #[.int .i64 0, .slice none 0 0, .slice none 0 0, .slice none 0 0, .slice none 0 0, .int .i64 0, .slice none 0 0, .slice none 0 0, .slice none 0 0, .slice none 0 0, .slice none 0 0, .slice none 0 0, .int .i64 0, .slice none 0 0, .slice none 0 0, .slice none 0 0, .slice none 0 0, .int .i64 0, .slice none 0 0, .slice none 0 0, .slice none 0 0, .slice none 0 0, .slice none 0 0, .slice none 0 0, .slice none 0 0])) (cs := [.int .i64 0, .slice none 0 0, .slice none 0 0, .slice none 0 0, .slice none 0 0, .int .i64 0, .slice none 0 0, .slice none 0 0, .slice none 0 0, .slice none 0 0, .slice none 0 0, .slice none 0 0, .int .i64 0, .slice none 0 0, .slice none 0 0, .slice none 0 0, .slice none 0 0, .int .i64 0, .slice none 0 0, .slice none 0 0, .slice none 0 0, .slice none 0 0, .slice none 0 0, .slice none 0 0, .slice none 0 0]) rfl rfl rfl (fun w => by kernel_rfl) rfl ?_
  intro B6
  refine hK7 _ _ ?_
  refine g_nil ?_
  refine gk_then (hK1 _ _ ?_)
  refine gc_seq fun K8 hK8 => ?_
  try simp only [List.nil_append, List.cons_append, List.append_assoc, List.set_cons_succ, List.set_cons_zero]
  refine ga_start _ (fun w M => mem_erase 2 (M)) ?_
  refine ga_v 0 rfl (by kernel_rfl) (by kernel_rfl) (by kernel_rfl) (.free rfl) rfl rfl (qt_field (z := 11) (off := 0) rfl rfl Try.underlying36 rfl (by kernel_rfl) rfl) (fun _ _ _ h => h) ?_
  refine ga_v 1 rfl (by kernel_rfl) (by kernel_rfl) (by kernel_rfl) (.free rfl) rfl rfl (qt_loadP (n := 0) (z := 12) rfl rfl Try.underlying34 rfl (by kernel_rfl) rfl (by first | decide | exact Nat.le_refl _ | simp)) (fun _ _ _ h => h) ?_
  refine ga_v 2 rfl (by kernel_rfl) (by kernel_rfl) (by kernel_rfl) (.free rfl) rfl rfl (qt_loadS (n := 1) rfl rfl Try.underlying34 rfl (by kernel_rfl) rfl) (fun _ _ _ h => h) ?_
  refine ga_v 4 rfl (by kernel_rfl) (by kernel_rfl) (by kernel_rfl) (.free rfl) rfl rfl (qt_field (z := 11) (off := 12) rfl rfl Try.underlying36 rfl (by kernel_rfl) rfl) (fun _ _ _ h => h) ?_
  refine ga_v 5 rfl (by kernel_rfl) (by kernel_rfl) (by kernel_rfl) (.free rfl) rfl rfl (qt_loadP (n := 0) (z := 12) rfl rfl Try.underlying34 rfl (by kernel_rfl) rfl (by first | decide | exact Nat.le_refl _ | simp)) (fun _ _ _ h => h) ?_
  refine ga_v 6 rfl (by kernel_rfl) (by kernel_rfl) (by kernel_rfl) (.free rfl) rfl rfl (qt_loadS (n := 1) rfl rfl Try.underlying34 rfl (by kernel_rfl) rfl) (fun _ _ _ h => h) ?_
  refine ga_v 8 rfl (by kernel_rfl) (by kernel_rfl) (by kernel_rfl) (.free rfl) rfl rfl (qt_field (z := 0) (off := 24) rfl rfl Try.underlying36 rfl (by kernel_rfl) rfl) (fun _ _ _ h => h) ?_
  refine ga_v 9 rfl (by kernel_rfl) (by kernel_rfl) (by kernel_rfl) (.free rfl) rfl rfl (qt_loadB (n := 0) rfl rfl Try.underlying22 rfl rfl rfl) (fun _ _ _ h => h) ?_
  refine ga_v 10 rfl (by kernel_rfl) (by kernel_rfl) (by kernel_rfl) (.free rfl) rfl rfl (qt_field (z := 0) (off := 11) rfl rfl Try.underlying34 rfl (by kernel_rfl) rfl) (fun _ _ _ h => h) ?_
  refine ga_v 11 rfl (by kernel_rfl) (by kernel_rfl) (by kernel_rfl) (.free rfl) rfl rfl (qt_loadB (n := 1) rfl rfl Try.underlying22 rfl rfl rfl) (fun _ _ _ h => h) ?_
  refine ga_op 3 (by kernel_rfl) rfl (.free rfl) fun K10 hK10 => ?_
  refine go_callFn rfl rfl rfl Try.func76 rfl (by decide) rfl (fun w M => specThenF_any w _ _ _ _ (mem_rdF M (rdTr_parts e0).1) (mem_rdF M h0) (by first | exact b1.o | exact b2.o) (by first | exact b1.a | exact b2.a)) ?_
  intro fx1_9 fk1_9 fx2_9 fk2_9 fx3_9 fk3_9 fx4_9 fk4_9 fx5_9 fk5_9 fx6_9 fk6_9 fx7_9 fk7_9 fx8_9 fk8_9 fx9_9 fk9_9 fx10_9 fk10_9 us9 ut9
  refine hK10 _ _ (fun w M => (mem_erase 2 (mem_take 3 M) :)) ?_
  refine ga_op 7 (by kernel_rfl) rfl (.free rfl) fun K12 hK12 => ?_
  refine go_callFn rfl rfl rfl Try.func76 rfl (by decide) rfl (fun w M => specThenF_any w _ _ _ _ (mem_rdF M (rdTr_parts e0).2.1) (mem_rdF M h0) (by first | exact b1.o | exact b2.o) (by first | exact b1.a | exact b2.a)) ?_
  intro fx1_11 fk1_11 fx2_11 fk2_11 fx3_11 fk3_11 fx4_11 fk4_11 fx5_11 fk5_11 fx6_11 fk6_11 fx7_11 fk7_11 fx8_11 fk8_11 fx9_11 fk9_11 fx10_11 fk10_11 us11 ut11
  refine hK12 _ _ (fun w M => (mem_erase 2 (mem_take 3 M) :)) ?_
  refine ga_op 12 (by kernel_rfl) rfl (.free rfl) fun K14 hK14 => ?_
  refine go_callL rfl rfl rfl Try.func92 rfl (by decide) rfl (fun w M => specThenM_any w _ _ _ _ (mem_rd M e21) (mem_rd M h10) (ha)) ?_
  intro va13 vc13
  refine hK14 _ _ (fun w M => (mem_erase 2 (mem_take 3 M) :)) ?_
  refine ga_op 13 (by kernel_rfl) rfl (.free rfl) fun K16 hK16 => ?_
  refine go_callTr rfl rfl rfl Try.func53 rfl (by decide) rfl (fun w M => specMakeT_any w _ _ _ _ (rdF_mk ((mem_own1 (n := 3) M rfl).rd) ((mem_own1 (n := 4) M rfl).rd) ((mem_own1 (n := 5) M rfl).rd) (mem_rdU (n := 6) M rfl) ((mem_own1 (n := 7) M rfl).rd) ((mem_own1 (n := 8) M rfl).rd) ((mem_own1 (n := 9) M rfl).rd) (mem_rdU (n := 10) M rfl) ((mem_own1 (n := 11) M rfl).rd) ((mem_own1 (n := 12) M rfl).rd)) (rdF_mk ((mem_own1 (n := 13) M rfl).rd) ((mem_own1 (n := 14) M rfl).rd) ((mem_own1 (n := 15) M rfl).rd) (mem_rdU (n := 16) M rfl) ((mem_own1 (n := 17) M rfl).rd) ((mem_own1 (n := 18) M rfl).rd) ((mem_own1 (n := 19) M rfl).rd) (mem_rdU (n := 20) M rfl) ((mem_own1 (n := 21) M rfl).rd) ((mem_own1 (n := 22) M rfl).rd)) _ _ ((mem_own1 (n := 23) M rfl).rd)) ?_
  intro tx1_15 tk1_15 tx2_15 tk2_15 tx3_15 tk3_15 tx4_15 tk4_15 tx5_15 tk5_15 tx6_15 tk6_15 tx7_15 tk7_15 tx8_15 tk8_15 tx9_15 tk9_15 tx10_15 tk10_15 tx11_15 tk11_15 tx12_15 tk12_15 tx13_15 tk13_15 tx14_15 tk14_15 tx15_15 tk15_15 tx16_15 tk16_15 tx17_15 tk17_15 tx18_15 tk18_15 tx19_15 tk19_15 tx20_15 tk20_15 tx21_15 tk21_15
  refine hK16 _ _ (fun w M => (mem_erase 2 (mem_take 3 M) :)) ?_
  refine ga_op 14 (by kernel_rfl) rfl (.free rfl) fun K17 hK17 => ?_
  refine go_storeS (n := 2) rfl rfl rfl rfl (by kernel_rfl) rfl rfl rfl ?_
  refine hK17 _ _ (fun w M => (mem_erase 2 (mem_take 3 M) :)) ?_
  refine ga_done (by kernel_rfl) ?_
  refine gk_then (hK8 _ _ ?_)
  refine gc_ret ?_
  refine ret_S (n := 2) rfl rfl Try.underlying36 rfl (by kernel_rfl) rfl (fun w M => ?_)
  exact retTr_pass (T := behT T F) (n := 24) M rfl

end Go.Proofs.Ytpppoipaabofgaa
