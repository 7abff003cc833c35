import Derived.Test.YtpcabkdkdnchaaaGreatN6
import Derived.Test.YtpcabkdkdnchaaaGreatN12
import Derived.Test.YtpcabkdkdnchaaaGreatN9
import Derived.Test.YtpcabkdkdnchaaaGreatN10
set_option linter.unusedSimpArgs false
set_option linter.unusedVariables false
set_option linter.unusedSectionVars false
namespace Go.Proofs.YtpcabkdkdnchaaaGreat
open Go.RowKit
def EndF (F : Fct) (f : Nat) : Prop := at0 F.T.s (at0 F.a (f : Int)) = at0 F.o (at0 F.S.s (f : Int)) ∧ at0 F.T.t (at0 F.a (f : Int)) = at0 F.o (at0 F.S.t (f : Int))
def UnF (F : Fct) (x : Nat) : Prop := at0 F.a (at0 F.S.e (x : Int)) = at0 F.T.e (at0 F.o (x : Int))
def CoF (F : Fct) (f g : Nat) : Prop := at0 F.S.t (f : Int) = at0 F.S.s (g : Int) → at0 F.a (F.S.th (f : Int) (g : Int)) = F.T.th (at0 F.a (f : Int)) (at0 F.a (g : Int))
structure IsFct (F : Fct) : Prop where
 cs : fIsCategory F.S = true
 ct : fIsCategory F.T = true
 lo : (F.o.length : Int) = F.S.ob
 la : (F.a.length : Int) = F.S.s.length
 io : AllP F.T.ob F.o
 ia : AllP F.T.s.length F.a
 en : ∀ f : Nat, f < F.S.s.length → EndF F f
 un : ∀ x : Nat, (x : Int) < F.S.ob → UnF F x
 co : ∀ f g : Nat, f < F.S.s.length → g < F.S.s.length → CoF F f g
noncomputable def fIsFunctor (F : Fct) : Bool := bP (IsFct F)
theorem isf_f {F : Fct} (h : ¬ IsFct F) : fIsFunctor F = false := bP_f h
theorem isf_t {F : Fct} (h : IsFct F) : fIsFunctor F = true := bP_t h
theorem isf_of {F : Fct} (h : fIsFunctor F = true) : IsFct F := bP_iff.1 h
theorem bP_no2 {p : Prop} (h : bP p = false) : ¬ p := fun hp => by rw [bP_t hp] at h; cases h
theorem bP_yes2 {p : Prop} (h : bP p = true) : p := bP_iff.1 h
structure PreF (F : Fct) : Prop where
 cs : fIsCategory F.S = true
 ct : fIsCategory F.T = true
 lo : (F.o.length : Int) = F.S.ob
 la : (F.a.length : Int) = F.S.s.length
 io : AllP F.T.ob F.o
 ia : AllP F.T.s.length F.a
theorem preF_arr {F : Fct} (h : PreF F) {f : Int} (f0 : 0 ≤ f) (f1 : f < F.S.s.length) : 0 ≤ at0 F.a f ∧ at0 F.a f < F.T.s.length := by
 obtain ⟨k, rfl⟩ := Int.eq_ofNat_of_zero_le f0
 exact allP_at h.ia (by have := h.la; omega)
theorem preF_ob {F : Fct} (h : PreF F) {x : Int} (x0 : 0 ≤ x) (x1 : x < F.S.ob) : 0 ≤ at0 F.o x ∧ at0 F.o x < F.T.ob := by
 obtain ⟨k, rfl⟩ := Int.eq_ofNat_of_zero_le x0
 exact allP_at h.io (by have := h.lo; omega)
theorem th_iff {c : Cat} (hS : ShapeP c) {f g : Nat} (hf : f < c.s.length) (hg : g < c.s.length) : at0 c.t (f : Int) = at0 c.s (g : Int) ↔ ¬ c.th (f : Int) (g : Int) = -1 := by
 constructor
 ·intro he
  have := (th_ends hS (f := (f : Int)) (g := (g : Int)) (by omega) (by omega) (by omega) (by omega) he).1.1
  omega
 ·intro h
  apply Classical.byContradiction; intro hne
  exact h ((hS.co f g hf hg).2 hne)
theorem coF_row {F : Fct} {k : Nat} (h : ∀ a b : Nat, a < k → b < F.S.s.length → CoF F a b) (h2 : ∀ b : Nat, b < F.S.s.length → CoF F k b) : ∀ a b : Nat, a < k + 1 → b < F.S.s.length → CoF F a b := fun a b ha hb => by
 by_cases e : a = k
 ·subst e; exact h2 b hb
 ·exact h a b (by omega) hb
theorem idF {c : Cat} (hS : ShapeP c) {x : Int} (x0 : 0 ≤ x) (x1 : x < c.ob) : 0 ≤ at0 c.e x ∧ at0 c.e x < c.s.length := by
 obtain ⟨k, rfl⟩ := Int.eq_ofNat_of_zero_le x0
 have := hS.el
 exact (hS.id k (by omega)).1
set_option maxHeartbeats 1000000 in
set_option maxRecDepth 100000 in
theorem hasImages_any (w : World) (v : Value) (F : Fct) (h : RdF w v F) (cs : fIsCategory F.S = true) (ct : fIsCategory F.T = true) :
  Calls Tryz.prog 154 #[v] w (RetB w (bP (PreF F))) := by
 have h0 := h
 obtain ⟨vx1, vx2, vx3, vx4, vx5, vx6, vx7, vx8, vx9, vx10, vk1, vk2, vk3, vk4, vk5, vk6, vk7, vk8, vk9, vk10, rfl, h1, h2, h3, h4, h5, h6, h7, h8, h9, h10⟩ := h.lists
 go_enter Tryz.func154, Tryz.ntmps154
 refine gc_enter (N := 34) rfl (look_cons (k := 0) rfl (look_nil _)) ?_
 refine gc_sr fun K1 hK1 => ?_
 refine gop fun K3 hK3 => ?_
 refine go_box rfl rfl rfl rfl rfl ?_
 intro B2
 refine hK3 _ _ ?_
 refine gas ?_
 refine gnt (hK1 _ _ ?_)
 refine gc_sr fun K4 hK4 => ?_
 refine gv (qtf Tryz.underlying31 (z := 0) (off := 10)) ?_
 refine gv (qtl Tryz.underlying22 (n := 0)) ?_
 refine gv (qln (fun w M => lenV_rd h9)) ?_
 refine gv (qtf Tryz.underlying31 (z := 4) (off := 0)) ?_
 refine gv (qtf Tryz.underlying29 (z := 0) (off := 0)) ?_
 refine gv (qtl Tryz.underlying2 (n := 0)) ?_
 refine gv (qt_eql rfl rfl rfl) ?_
 refine g_splitv (.free rfl) rfl rfl (qt_move rfl rfl) (fun hs1_7 => ?_) (fun hs1_7 => ?_)
 ·try simp only [sA] at hs1_7
  refine gvh (qtf Tryz.underlying31 (z := 0) (off := 11)) ?_
  refine gvh (qtl Tryz.underlying22 (n := 0)) ?_
  refine gvh (qln (fun w M => lenV_rd h10)) ?_
  refine gvh (qtf Tryz.underlying31 (z := 4) (off := 0)) ?_
  refine gvh (qtf Tryz.underlying29 (z := 0) (off := 1)) ?_
  refine gvh (qtl Tryz.underlying22 (n := 0)) ?_
  refine gvh (qln (fun w M => lenV_rd h1)) ?_
  refine gvh (qt_eql rfl rfl rfl) ?_
  refine gv (qt_pick_t rfl rfl rfl) ?_
  refine g_splitv (.free rfl) rfl rfl (qt_move rfl rfl) (fun hs1_17 => ?_) (fun hs1_17 => ?_)
  ·try simp only [sA] at hs1_17
   refine gvh (qtf Tryz.underlying31 (z := 4) (off := 5)) ?_
   refine gvh (qt_loadP (n := 0) (z := 5) rfl rfl Tryz.underlying29 rfl (by kernel_rfl) rfl (by first | decide | exact Nat.le_refl _ | simp)) ?_
   refine gvh (qtf Tryz.underlying31 (z := 0) (off := 10)) ?_
   refine gvh (qtl Tryz.underlying22 (n := 0)) ?_
   refine g_q (.held _ _ _ rfl rfl rfl) rfl rfl (qt_call rfl Tryz.func124 rfl (by decide) rfl (fun w M => hasObjects_any w _ _ _ _ (_) (rdC_mk (mem_rd M h5) (mem_rd M h6) (mem_rd M h7) (mem_rd2 M h8)) (mem_rd M h9) (rfl))) ?_
   refine gv (qt_pick_t rfl rfl rfl) ?_
   refine g_splitv (.free rfl) rfl rfl (qt_move rfl rfl) (fun hs1_24 => ?_) (fun hs1_24 => ?_)
   ·try simp only [sA] at hs1_24
    refine gvh (qtf Tryz.underlying31 (z := 4) (off := 5)) ?_
    refine gvh (qt_loadP (n := 0) (z := 5) rfl rfl Tryz.underlying29 rfl (by kernel_rfl) rfl (by first | decide | exact Nat.le_refl _ | simp)) ?_
    refine gvh (qtf Tryz.underlying31 (z := 0) (off := 11)) ?_
    refine gvh (qtl Tryz.underlying22 (n := 0)) ?_
    refine g_q (.held _ _ _ rfl rfl rfl) rfl rfl (qt_call rfl Tryz.func171 rfl (by decide) rfl (fun w M => hasArrows_any w _ _ _ _ (_) (rdC_mk (mem_rd M h5) (mem_rd M h6) (mem_rd M h7) (mem_rd2 M h8)) (mem_rd M h10) (rfl))) ?_
    refine gv (qt_pick_t rfl rfl rfl) ?_
    refine gas ?_
    refine gnt (hK4 _ _ ?_)
    refine gc_ret ?_
    refine ret_1 rfl rfl  (fun w M => ?_)
    rw [show bP (PreF F) = bP (AllP F.T.s.length F.a) from bP_congr ⟨fun hq => hq.ia, fun hq => ⟨cs, ct, hs1_7, hs1_17, bP_yes2 hs1_24, hq⟩⟩]; exact ⟨rfl, M.1⟩
   ·try simp only [sA] at hs1_24
    refine gsk ?_
    refine gsk ?_
    refine gsk ?_
    refine gsk ?_
    refine gsk ?_
    refine gv (qt_pick_f rfl rfl rfl) ?_
    refine gas ?_
    refine gnt (hK4 _ _ ?_)
    refine gc_ret ?_
    refine ret_1 rfl rfl  (fun w M => ?_)
    rw [bP_f fun hq => bP_no2 hs1_24 hq.io]; exact ⟨rfl, M.1⟩
  ·try simp only [sA] at hs1_17
   refine gsk ?_
   refine gsk ?_
   refine gsk ?_
   refine gsk ?_
   refine gsk ?_
   refine gv (qt_pick_f rfl rfl rfl) ?_
   refine gm ?_
   refine gsk ?_
   refine gsk ?_
   refine gsk ?_
   refine gsk ?_
   refine gsk ?_
   refine gv (qt_pick_f rfl rfl rfl) ?_
   refine gas ?_
   refine gnt (hK4 _ _ ?_)
   refine gc_ret ?_
   refine ret_1 rfl rfl  (fun w M => ?_)
   rw [bP_f fun hq => hs1_17 hq.la]; exact ⟨rfl, M.1⟩
 ·try simp only [sA] at hs1_7
  refine gsk ?_
  refine gsk ?_
  refine gsk ?_
  refine gsk ?_
  refine gsk ?_
  refine gsk ?_
  refine gsk ?_
  refine gsk ?_
  refine gv (qt_pick_f rfl rfl rfl) ?_
  refine gm ?_
  refine gsk ?_
  refine gsk ?_
  refine gsk ?_
  refine gsk ?_
  refine gsk ?_
  refine gv (qt_pick_f rfl rfl rfl) ?_
  refine gm ?_
  refine gsk ?_
  refine gsk ?_
  refine gsk ?_
  refine gsk ?_
  refine gsk ?_
  refine gv (qt_pick_f rfl rfl rfl) ?_
  refine gas ?_
  refine gnt (hK4 _ _ ?_)
  refine gc_ret ?_
  refine ret_1 rfl rfl  (fun w M => ?_)
  rw [bP_f fun hq => hs1_7 hq.lo]; exact ⟨rfl, M.1⟩
set_option maxHeartbeats 1000000 in
set_option maxRecDepth 100000 in
theorem keepsEnds_any (w : World) (v : Value) (F : Fct) (h : RdF w v F) (hP : PreF F) :
  Calls Tryz.prog 155 #[v] w (RetB w (bP (∀ f : Nat, f < F.S.s.length → EndF F f))) := by
 have h0 := h
 obtain ⟨vx1, vx2, vx3, vx4, vx5, vx6, vx7, vx8, vx9, vx10, vk1, vk2, vk3, vk4, vk5, vk6, vk7, vk8, vk9, vk10, rfl, h1, h2, h3, h4, h5, h6, h7, h8, h9, h10⟩ := h.lists
 have hS := (isCat_of hP.cs).toShapeP; have hT := (isCat_of hP.ct).toShapeP
 have n1 := hS.n40; have n2 := hS.tl; have n3 := hS.el; have n4 := hS.ob0; have n5 := hS.ob8; have n6 := hS.ml
 have m1 := hT.n40; have m2 := hT.tl; have m3 := hT.el; have m4 := hT.ob0; have m5 := hT.ob8; have m6 := hT.ml
 have l1 := hP.lo; have l2 := hP.la
 go_enter Tryz.func155, Tryz.ntmps155
 refine gc_enter (N := 37) rfl (look_cons (k := 0) rfl (look_nil _)) ?_
 refine gc_sr fun K1 hK1 => ?_
 refine gop fun K3 hK3 => ?_
 refine go_box rfl rfl rfl rfl rfl ?_
 intro B2
 refine hK3 _ _ ?_
 refine gas ?_
 refine gnt (hK1 _ _ ?_)
 refine gc_seq fun K4 hK4 => ?_
 refine gc_sr fun K5 hK5 => ?_
 refine gv (qtf Tryz.underlying31 (z := 0) (off := 11)) ?_
 refine gv (qtl Tryz.underlying22 (n := 0)) ?_
 refine gv (qln (fun w M => lenV_rd h10)) ?_
 refine gm ?_
 refine gnt (hK5 _ _ ?_)
 refine gc_block ?_
 try simp only [sL]
 refine gc_loopT ([(0, _), (1, _), (7, _), (8, _)] : Env) (fun s : Nat => (fun (f : Nat) => (([(9, .int .i64 (f : Int))] : Env), ([] : List (Nat × Itm)), f ≤ F.S.s.length ∧ ∀ j : Nat, j < f → EndF F j, F.S.s.length - f)) s) (0) (by repeat first | exact sub_nil | refine sub_cons rfl ?_) rfl ⟨Nat.zero_le _, fun j hj => absurd hj (by omega)⟩ ?_
 rintro f hinv KL6 hKL6
 simp only [sU, sL] at hinv hKL6 ⊢
 obtain ⟨hf, hj⟩ := hinv
 refine gc_sr fun K7 hK7 => ?_
 refine gv (qt_lss rfl rfl rfl) ?_
 refine gnt (hK7 _ _ ?_)
 refine gc_seq fun K8 hK8 => ?_
 refine gc_cond rfl (fun hc0 => ?_) (fun hc0 => ?_)
 ·try simp only [sA] at hc0
  refine gc_skip ?_
  refine gk_then (hK8 _ _ ?_)
  refine gc_seq fun K9 hK9 => ?_
  refine gc_block ?_
  refine gc_seq fun K10 hK10 => ?_
  have hAp := arrP hS (f := (f : Int)) (by omega) (by omega)
  have p1 := hAp.fs; have p2 := hAp.ft; have p3 := hAp.s0; have p4 := hAp.s1; have p5 := hAp.t0; have p6 := hAp.t1; have p7 := hAp.row; have p8 := hAp.fm
  have hIp := preF_arr hP (f := (f : Int)) (by omega) (by omega)
  have p9 := hIp.1; have p10 := hIp.2
  have hBp := arrP hT p9 p10
  have p11 := hBp.fs; have p12 := hBp.ft; have p13 := hBp.row; have p14 := hBp.fm
  refine gc_region ?_
  refine gm ?_
  refine gv (qti (fun w M => lenA_rd h10)) ?_
  refine gv (qtd (fun w M => mem_rd M h10)) ?_
  refine gas ?_
  refine gas ?_
  refine gnt (hK10 _ _ ?_)
  refine gc_sr fun K11 hK11 => ?_
  refine gv (qtf Tryz.underlying31 (z := 4) (off := 0)) ?_
  refine gv (qt_loadP (n := 0) (z := 5) rfl rfl Tryz.underlying29 rfl (by kernel_rfl) rfl (by first | decide | exact Nat.le_refl _ | simp)) ?_
  refine gm ?_
  refine g_q (.free rfl) rfl rfl (qt_call rfl Tryz.func146 rfl (by decide) rfl (fun w M => ends_any w _ _ _ (rdC_mk (mem_rd M h1) (mem_rd M h2) (mem_rd M h3) (mem_rd2 M h4)) (by first | assumption | omega) (by first | assumption | omega) (by first | assumption | omega))) ?_
  refine gop fun K13 hK13 => ?_
  refine go_alloc (z := (.agg #[.int .i64 0, .int .i64 0])) (cs := [.int .i64 0, .int .i64 0]) rfl rfl rfl (fun w => by kernel_rfl) rfl ?_
  intro B12
  refine hK13 _ _ ?_
  refine gop fun K14 hK14 => ?_
  refine go_storeS (n := 1) rfl rfl rfl rfl (by kernel_rfl) rfl rfl rfl ?_
  refine hK14 _ _ ?_
  refine gnt (hK11 _ _ ?_)
  refine gc_seq fun K15 hK15 => ?_
  have ho1 := preF_ob hP p3 (by omega); have ho2 := preF_ob hP p5 (by omega)
  refine gc_draw (by kernel_rfl) ?_
  refine gdv (qtf Tryz.underlying31 (z := 4) (off := 5)) ?_
  refine gdv (qt_loadP (n := 0) (z := 5) rfl rfl Tryz.underlying29 rfl (by kernel_rfl) rfl (by first | decide | exact Nat.le_refl _ | simp)) ?_
  refine gdv (qt_move rfl rfl) ?_
  refine gd_q (.free rfl) rfl rfl (qt_call rfl Tryz.func146 rfl (by decide) rfl (fun w M => ends_any w _ _ _ (rdC_mk (mem_rd M h5) (mem_rd M h6) (mem_rd M h7) (mem_rd2 M h8)) (by first | assumption | omega) (by first | assumption | omega) (by first | assumption | omega))) ?_
  refine gdv (qtf Tryz.underlying31 (z := 0) (off := 10)) ?_
  refine gdv (qtl Tryz.underlying22 (n := 0)) ?_
  refine gdv (qtf Tryz.underlying72 (z := 0) (off := 0)) ?_
  refine gdv (qtl Tryz.underlying2 (n := 1)) ?_
  refine gdv (qti (fun w M => lenA_rd h9)) ?_
  refine gdv (qtd (fun w M => mem_rd M h9)) ?_
  refine gdv (qtf Tryz.underlying31 (z := 0) (off := 10)) ?_
  refine gdv (qtl Tryz.underlying22 (n := 0)) ?_
  refine gdv (qtf Tryz.underlying72 (z := 0) (off := 1)) ?_
  refine gdv (qtl Tryz.underlying2 (n := 1)) ?_
  refine gdv (qti (fun w M => lenA_rd h9)) ?_
  refine gdv (qtd (fun w M => mem_rd M h9)) ?_
  refine gdv (qt_build rfl rfl bt_arrowEnds) ?_
  refine gdv (qt_neA rfl rfl rfl (fun w => eqA_arrowEnds _ _ _ _ w) eqG_arrowEnds) ?_
  refine gd_nil ?_
  refine gk_then (hK15 _ _ ?_)
  refine gc_cond rfl (fun hc1 => ?_) (fun hc1 => ?_)
  ·try simp only [sA] at hc1
   refine gc_sr fun K16 hK16 => ?_
   refine gas ?_
   refine gnt (hK16 _ _ ?_)
   refine gc_ret ?_
   refine gk_block_ret ?_
   refine gk_then_ret ?_
   refine gk_then_ret ?_
   refine gk_block_ret ?_
   refine gk_then_ret ?_
   refine ret_1 rfl rfl  (fun w M => ?_)
   rw [bP_f fun hq => hc1 (hq f (by omega))]; exact ⟨rfl, M.1⟩
  ·try simp only [sA] at hc1
   refine gc_skip ?_
   refine gk_block ?_
   refine gk_then (hK9 _ _ ?_)
   refine gc_region ?_
   refine gv (qt_add rfl rfl rfl (by omega)) ?_
   refine gm ?_
   refine g_nil ?_
   refine gk_then (gk_take 1 ?_)
   refine gk_sub ?hs_17 (hKL6 (f + 1) ?hi_17 ?hm_17)
   case hs_17 => repeat first | exact sub_nil | refine sub_cons rfl ?_
   case hi_17 => exact ⟨by omega, all_next0 hj hc1⟩
   case hm_17 => omega
 ·try simp only [sA] at hc0
  refine gc_exit ?_
  refine gk_then_exit ?_
  refine gk_then_exit ?_
  refine gk_block_hit ?_
  refine gk_then (hK4 _ _ ?_)
  refine gc_sr fun K18 hK18 => ?_
  refine gas ?_
  refine gnt (hK18 _ _ ?_)
  refine gc_ret ?_
  refine ret_1 rfl rfl  (fun w M => ?_)
  rw [bP_t fun j h2 => hj j (by omega)]; exact ⟨rfl, M.1⟩
set_option maxHeartbeats 1000000 in
set_option maxRecDepth 100000 in
theorem keepsIds_any (w : World) (v : Value) (F : Fct) (h : RdF w v F) (hP : PreF F) :
  Calls Tryz.prog 156 #[v] w (RetB w (bP (∀ x : Nat, (x : Int) < F.S.ob → UnF F x))) := by
 have h0 := h
 obtain ⟨vx1, vx2, vx3, vx4, vx5, vx6, vx7, vx8, vx9, vx10, vk1, vk2, vk3, vk4, vk5, vk6, vk7, vk8, vk9, vk10, rfl, h1, h2, h3, h4, h5, h6, h7, h8, h9, h10⟩ := h.lists
 have hS := (isCat_of hP.cs).toShapeP; have hT := (isCat_of hP.ct).toShapeP
 have n1 := hS.n40; have n2 := hS.tl; have n3 := hS.el; have n4 := hS.ob0; have n5 := hS.ob8; have n6 := hS.ml
 have m1 := hT.n40; have m2 := hT.tl; have m3 := hT.el; have m4 := hT.ob0; have m5 := hT.ob8; have m6 := hT.ml
 have l1 := hP.lo; have l2 := hP.la
 go_enter Tryz.func156, Tryz.ntmps156
 refine gc_enter (N := 31) rfl (look_cons (k := 0) rfl (look_nil _)) ?_
 refine gc_sr fun K1 hK1 => ?_
 refine gop fun K3 hK3 => ?_
 refine go_box rfl rfl rfl rfl rfl ?_
 intro B2
 refine hK3 _ _ ?_
 refine gas ?_
 refine gnt (hK1 _ _ ?_)
 refine gc_seq fun K4 hK4 => ?_
 refine gc_sr fun K5 hK5 => ?_
 refine gv (qtf Tryz.underlying31 (z := 4) (off := 0)) ?_
 refine gv (qtf Tryz.underlying29 (z := 0) (off := 3)) ?_
 refine gv (qtl Tryz.underlying22 (n := 0)) ?_
 refine gv (qln (fun w M => lenV_rd h3)) ?_
 refine gm ?_
 refine gnt (hK5 _ _ ?_)
 refine gc_block ?_
 try simp only [sL]
 refine gc_loopT ([(0, _), (1, _), (7, _), (8, _)] : Env) (fun s : Nat => (fun (f : Nat) => (([(9, .int .i64 (f : Int))] : Env), ([] : List (Nat × Itm)), f ≤ F.S.e.length ∧ ∀ j : Nat, j < f → UnF F j, F.S.e.length - f)) s) (0) (by repeat first | exact sub_nil | refine sub_cons rfl ?_) rfl ⟨Nat.zero_le _, fun j hj => absurd hj (by omega)⟩ ?_
 rintro f hinv KL6 hKL6
 simp only [sU, sL] at hinv hKL6 ⊢
 obtain ⟨hf, hj⟩ := hinv
 refine gc_sr fun K7 hK7 => ?_
 refine gv (qt_lss rfl rfl rfl) ?_
 refine gnt (hK7 _ _ ?_)
 refine gc_seq fun K8 hK8 => ?_
 refine gc_cond rfl (fun hc0 => ?_) (fun hc0 => ?_)
 ·try simp only [sA] at hc0
  refine gc_skip ?_
  refine gk_then (hK8 _ _ ?_)
  refine gc_seq fun K9 hK9 => ?_
  refine gc_block ?_
  refine gc_seq fun K10 hK10 => ?_
  have hi := idF hS (x := (f : Int)) (by omega) (by omega)
  have i1 := hi.1; have i2 := hi.2
  have ho := preF_ob hP (x := (f : Int)) (by omega) (by omega)
  have o1 := ho.1; have o2 := ho.2
  have ha := preF_arr hP i1 i2
  refine gc_region ?_
  refine gm ?_
  refine gv (qti (fun w M => lenA_rd h3)) ?_
  refine gv (qtd (fun w M => mem_rd M h3)) ?_
  refine gas ?_
  refine gas ?_
  refine gnt (hK10 _ _ ?_)
  refine gc_seq fun K11 hK11 => ?_
  refine gc_draw (by kernel_rfl) ?_
  refine gdv (qtf Tryz.underlying31 (z := 0) (off := 11)) ?_
  refine gdv (qtl Tryz.underlying22 (n := 0)) ?_
  refine gdv (qt_move rfl rfl) ?_
  refine gdv (qti (fun w M => lenA_rd h10)) ?_
  refine gdv (qtd (fun w M => mem_rd M h10)) ?_
  refine gdv (qtf Tryz.underlying31 (z := 4) (off := 5)) ?_
  refine gdv (qtf Tryz.underlying29 (z := 0) (off := 3)) ?_
  refine gdv (qtl Tryz.underlying22 (n := 0)) ?_
  refine gdv (qtf Tryz.underlying31 (z := 0) (off := 10)) ?_
  refine gdv (qtl Tryz.underlying22 (n := 0)) ?_
  refine gdv (qt_move rfl rfl) ?_
  refine gdv (qti (fun w M => lenA_rd h9)) ?_
  refine gdv (qtd (fun w M => mem_rd M h9)) ?_
  refine gdv (qti (fun w M => lenA_rd h7)) ?_
  refine gdv (qtd (fun w M => mem_rd M h7)) ?_
  refine gdv (qt_neq rfl rfl rfl) ?_
  refine gd_nil ?_
  refine gk_then (hK11 _ _ ?_)
  refine gc_cond rfl (fun hc1 => ?_) (fun hc1 => ?_)
  ·try simp only [sA] at hc1
   refine gc_sr fun K12 hK12 => ?_
   refine gas ?_
   refine gnt (hK12 _ _ ?_)
   refine gc_ret ?_
   refine gk_block_ret ?_
   refine gk_then_ret ?_
   refine gk_then_ret ?_
   refine gk_block_ret ?_
   refine gk_then_ret ?_
   refine ret_1 rfl rfl  (fun w M => ?_)
   rw [bP_f fun hq => hc1 (hq f (by omega))]; exact ⟨rfl, M.1⟩
  ·try simp only [sA] at hc1
   refine gc_skip ?_
   refine gk_block ?_
   refine gk_then (hK9 _ _ ?_)
   refine gc_region ?_
   refine gv (qt_add rfl rfl rfl (by omega)) ?_
   refine gm ?_
   refine g_nil ?_
   refine gk_then (gk_take 1 ?_)
   refine gk_sub ?hs_13 (hKL6 (f + 1) ?hi_13 ?hm_13)
   case hs_13 => repeat first | exact sub_nil | refine sub_cons rfl ?_
   case hi_13 => exact ⟨by omega, all_next0 hj hc1⟩
   case hm_13 => omega
 ·try simp only [sA] at hc0
  refine gc_exit ?_
  refine gk_then_exit ?_
  refine gk_then_exit ?_
  refine gk_block_hit ?_
  refine gk_then (hK4 _ _ ?_)
  refine gc_sr fun K14 hK14 => ?_
  refine gas ?_
  refine gnt (hK14 _ _ ?_)
  refine gc_ret ?_
  refine ret_1 rfl rfl  (fun w M => ?_)
  rw [bP_t fun j h2 => hj j (by omega)]; exact ⟨rfl, M.1⟩
set_option maxHeartbeats 1000000 in
set_option maxRecDepth 100000 in
theorem keepsComps_any (w : World) (v : Value) (F : Fct) (h : RdF w v F) (hP : PreF F) :
  Calls Tryz.prog 157 #[v] w (RetB w (bP (∀ f g : Nat, f < F.S.s.length → g < F.S.s.length → CoF F f g))) := by
 have h0 := h
 obtain ⟨vx1, vx2, vx3, vx4, vx5, vx6, vx7, vx8, vx9, vx10, vk1, vk2, vk3, vk4, vk5, vk6, vk7, vk8, vk9, vk10, rfl, h1, h2, h3, h4, h5, h6, h7, h8, h9, h10⟩ := h.lists
 have hS := (isCat_of hP.cs).toShapeP; have hT := (isCat_of hP.ct).toShapeP
 have n1 := hS.n40; have n2 := hS.tl; have n3 := hS.el; have n4 := hS.ob0; have n5 := hS.ob8; have n6 := hS.ml
 have m1 := hT.n40; have m2 := hT.tl; have m3 := hT.el; have m4 := hT.ob0; have m5 := hT.ob8; have m6 := hT.ml
 have l1 := hP.lo; have l2 := hP.la
 go_enter Tryz.func157, Tryz.ntmps157
 refine gc_enter (N := 48) rfl (look_cons (k := 0) rfl (look_nil _)) ?_
 refine gc_sr fun K1 hK1 => ?_
 refine gop fun K3 hK3 => ?_
 refine go_box rfl rfl rfl rfl rfl ?_
 intro B2
 refine hK3 _ _ ?_
 refine gas ?_
 refine gnt (hK1 _ _ ?_)
 refine gc_seq fun K4 hK4 => ?_
 refine gc_sr fun K5 hK5 => ?_
 refine gv (qtf Tryz.underlying31 (z := 4) (off := 0)) ?_
 refine gv (qtf Tryz.underlying29 (z := 0) (off := 4)) ?_
 refine gv (qtl Tryz.underlying23 (n := 0)) ?_
 refine gv (qt_len rfl rfl ulE2 (fun w M => lenV_rd2 h4)) ?_
 refine gm ?_
 refine gnt (hK5 _ _ ?_)
 refine gc_block ?_
 try simp only [sL]
 refine gc_loopT ([(0, _), (1, _), (9, _), (10, _)] : Env) (fun s : Nat => (fun (f : Nat) => (([(11, .int .i64 (f : Int))] : Env), ([] : List (Nat × Itm)), f ≤ F.S.s.length ∧ ∀ a b : Nat, a < f → b < F.S.s.length → CoF F a b, F.S.s.length - f)) s) (0) (by repeat first | exact sub_nil | refine sub_cons rfl ?_) rfl ⟨Nat.zero_le _, fun j b hj => absurd hj (by omega)⟩ ?_
 rintro f hinv KL6 hKL6
 simp only [sU, sL] at hinv hKL6 ⊢
 obtain ⟨hf, hj⟩ := hinv
 refine gc_sr fun K7 hK7 => ?_
 refine gv (qt_lss rfl rfl rfl) ?_
 refine gnt (hK7 _ _ ?_)
 refine gc_seq fun K8 hK8 => ?_
 refine gc_cond rfl (fun hc0 => ?_) (fun hc0 => ?_)
 ·try simp only [sA] at hc0
  refine gc_skip ?_
  refine gk_then (hK8 _ _ ?_)
  refine gc_seq fun K9 hK9 => ?_
  refine gc_block ?_
  refine gc_seq fun K10 hK10 => ?_
  have hAp := arrP hS (f := (f : Int)) (by omega) (by omega)
  have p1 := hAp.fs; have p2 := hAp.ft; have p3 := hAp.s0; have p4 := hAp.s1; have p5 := hAp.t0; have p6 := hAp.t1; have p7 := hAp.row; have p8 := hAp.fm
  have hIp := preF_arr hP (f := (f : Int)) (by omega) (by omega)
  have p9 := hIp.1; have p10 := hIp.2
  have hBp := arrP hT p9 p10
  have p11 := hBp.fs; have p12 := hBp.ft; have p13 := hBp.row; have p14 := hBp.fm
  refine gc_region ?_
  refine gm ?_
  refine gv (qti2 (fun w M => lenA_rd2 h4)) ?_
  refine g_load2 (.free rfl) rfl rfl rfl rfl Tryz.underlying22 rfl h4 (by omega) (by omega) ?_
  intro ra11 rc11 hr11
  refine gas ?_
  refine gas ?_
  refine gnt (hK10 _ _ ?_)
  refine gc_sr fun K12 hK12 => ?_
  refine gm ?_
  refine gv (qln (fun w M => lenV_rd hr11)) ?_
  refine gm ?_
  refine gnt (hK12 _ _ ?_)
  refine gc_block ?_
  try simp only [sL]
  refine gc_loopT ([(0, _), (1, _), (3, _), (4, _), (9, _), (10, _), (11, _), (12, _), (16, _), (17, _)] : Env) (fun s : Nat => (fun (g : Nat) => (([(18, .int .i64 (g : Int))] : Env), ([] : List (Nat × Itm)), g ≤ F.S.s.length ∧ ∀ b : Nat, b < g → CoF F f b, F.S.s.length - g)) s) (0) (by repeat first | exact sub_nil | refine sub_cons rfl ?_) rfl ⟨Nat.zero_le _, fun j hj => absurd hj (by omega)⟩ ?_
  rintro g hinv KL13 hKL13
  simp only [sU, sL] at hinv hKL13 ⊢
  obtain ⟨hg, hi⟩ := hinv
  refine gc_sr fun K14 hK14 => ?_
  refine gv (qt_lss rfl rfl rfl) ?_
  refine gnt (hK14 _ _ ?_)
  refine gc_seq fun K15 hK15 => ?_
  refine gc_cond rfl (fun hc1 => ?_) (fun hc1 => ?_)
  ·try simp only [sA] at hc1
   refine gc_skip ?_
   refine gk_then (hK15 _ _ ?_)
   refine gc_seq fun K16 hK16 => ?_
   refine gc_block ?_
   refine gc_seq fun K17 hK17 => ?_
   have hAq := arrP hS (f := (g : Int)) (by omega) (by omega)
   have q1 := hAq.fs; have q2 := hAq.ft; have q3 := hAq.s0; have q4 := hAq.s1; have q5 := hAq.t0; have q6 := hAq.t1; have q7 := hAq.row; have q8 := hAq.fm
   have hIq := preF_arr hP (f := (g : Int)) (by omega) (by omega)
   have q9 := hIq.1; have q10 := hIq.2
   have hBq := arrP hT q9 q10
   have q11 := hBq.fs; have q12 := hBq.ft; have q13 := hBq.row; have q14 := hBq.fm
   have hth : at0 (row2 F.S.m (f : Int)) (g : Int) = F.S.th (f : Int) (g : Int) := rfl
   refine gc_region ?_
   refine gm ?_
   refine gv (qti (fun w M => lenA_rd hr11)) ?_
   refine gv (qtd (fun w M => mem_rd M hr11)) ?_
   refine gas ?_
   refine gas ?_
   refine gnt (hK17 _ _ ?_)
   refine gc_seq fun K18 hK18 => ?_
   refine gc_draw (by kernel_rfl) ?_
   refine gdv (qt_move rfl rfl) ?_
   refine gdv (qt_neq rfl rfl rfl) ?_
   refine gd_splitv (.free rfl) rfl rfl (qt_move rfl rfl) (fun hs7_2 => ?_) (fun hs7_2 => ?_)
   ·try simp only [sA] at hs7_2
    have he : at0 F.S.t (f : Int) = at0 F.S.s (g : Int) := (th_iff hS (by omega) (by omega)).2 hs7_2
    have hTh := th_ends hS (f := (f : Int)) (g := (g : Int)) (by omega) (by omega) (by omega) (by omega) he
    have t0 := hTh.1.1; have t1 := hTh.1.2
    have hIt := preF_arr hP t0 t1
    refine gdvh (qtf Tryz.underlying31 (z := 0) (off := 11)) ?_
    refine gdvh (qtl Tryz.underlying22 (n := 0)) ?_
    refine gdvh (qt_move rfl rfl) ?_
    refine gdvh (qti (fun w M => lenA_rd h10)) ?_
    refine gdvh (qtd (fun w M => mem_rd M h10)) ?_
    refine gdvh (qtf Tryz.underlying31 (z := 4) (off := 5)) ?_
    refine gdvh (qt_loadP (n := 0) (z := 5) rfl rfl Tryz.underlying29 rfl (by kernel_rfl) rfl (by first | decide | exact Nat.le_refl _ | simp)) ?_
    refine gdvh (qtf Tryz.underlying31 (z := 0) (off := 11)) ?_
    refine gdvh (qtl Tryz.underlying22 (n := 0)) ?_
    refine gdvh (qt_move rfl rfl) ?_
    refine gdvh (qti (fun w M => lenA_rd h10)) ?_
    refine gdvh (qtd (fun w M => mem_rd M h10)) ?_
    refine gdvh (qtf Tryz.underlying31 (z := 0) (off := 11)) ?_
    refine gdvh (qtl Tryz.underlying22 (n := 0)) ?_
    refine gdvh (qt_move rfl rfl) ?_
    refine gdvh (qti (fun w M => lenA_rd h10)) ?_
    refine gdvh (qtd (fun w M => mem_rd M h10)) ?_
    refine gd_q (.held _ _ _ rfl rfl rfl) rfl rfl (qt_call rfl Tryz.func119 rfl (by decide) rfl (fun w M => then_any w _ _ _ _ (rdC_mk (mem_rd M h5) (mem_rd M h6) (mem_rd M h7) (mem_rd2 M h8)) (by first | assumption | omega) (by first | assumption | omega) (by first | assumption | omega) (by first | assumption | omega))) ?_
    refine gdvh (qt_neq rfl rfl rfl) ?_
    refine gdv (qt_pick_t rfl rfl rfl) ?_
    refine gd_nil ?_
    refine gk_then (hK18 _ _ ?_)
    refine gc_cond rfl (fun hc2 => ?_) (fun hc2 => ?_)
    ·try simp only [sA] at hc2
     refine gc_sr fun K19 hK19 => ?_
     refine gas ?_
     refine gnt (hK19 _ _ ?_)
     refine gc_ret ?_
     refine gk_block_ret ?_
     refine gk_then_ret ?_
     refine gk_then_ret ?_
     refine gk_block_ret ?_
     refine gk_block_ret ?_
     refine gk_then_ret ?_
     refine gk_then_ret ?_
     refine gk_block_ret ?_
     refine gk_then_ret ?_
     refine ret_1 rfl rfl  (fun w M => ?_)
     rw [bP_f fun hq => hc2 (hq f g (by omega) (by omega) he)]; exact ⟨rfl, M.1⟩
    ·try simp only [sA] at hc2
     refine gc_skip ?_
     refine gk_block ?_
     refine gk_then (hK16 _ _ ?_)
     refine gc_region ?_
     refine gv (qt_add rfl rfl rfl (by omega)) ?_
     refine gm ?_
     refine g_nil ?_
     refine gk_then (gk_take 1 ?_)
     refine gk_sub ?hs_20 (hKL13 (g + 1) ?hi_20 ?hm_20)
     case hs_20 => repeat first | exact sub_nil | refine sub_cons rfl ?_
     case hi_20 => exact ⟨by omega, all_next0 hi (fun _ => hc2)⟩
     case hm_20 => omega
   ·try simp only [sA] at hs7_2
    have he : ¬ at0 F.S.t (f : Int) = at0 F.S.s (g : Int) := fun he => (th_iff hS (by omega) (by omega)).1 he (hth.symm.trans hs7_2)
    refine gdsk ?_
    refine gdsk ?_
    refine gdsk ?_
    refine gdsk ?_
    refine gdsk ?_
    refine gdsk ?_
    refine gdsk ?_
    refine gdsk ?_
    refine gdsk ?_
    refine gdsk ?_
    refine gdsk ?_
    refine gdsk ?_
    refine gdsk ?_
    refine gdsk ?_
    refine gdsk ?_
    refine gdsk ?_
    refine gdsk ?_
    refine gdsk ?_
    refine gdsk ?_
    refine gdv (qt_pick_f rfl rfl rfl) ?_
    refine gd_nil ?_
    refine gk_then (hK18 _ _ ?_)
    refine gc_cond_f rfl ?_
    refine gc_skip ?_
    refine gk_block ?_
    refine gk_then (hK16 _ _ ?_)
    refine gc_region ?_
    refine gv (qt_add rfl rfl rfl (by omega)) ?_
    refine gm ?_
    refine g_nil ?_
    refine gk_then (gk_take 1 ?_)
    refine gk_sub ?hs_21 (hKL13 (g + 1) ?hi_21 ?hm_21)
    case hs_21 => repeat first | exact sub_nil | refine sub_cons rfl ?_
    case hi_21 => exact ⟨by omega, all_next0 hi (fun h2 => absurd h2 he)⟩
    case hm_21 => omega
  ·try simp only [sA] at hc1
   refine gc_exit ?_
   refine gk_then_exit ?_
   refine gk_then_exit ?_
   refine gk_block_hit ?_
   refine gk_block ?_
   refine gk_then (hK9 _ _ ?_)
   refine gc_region ?_
   refine gv (qt_add rfl rfl rfl (by omega)) ?_
   refine gm ?_
   refine g_nil ?_
   refine gk_then (gk_take 1 ?_)
   refine gk_sub ?hs_22 (hKL6 (f + 1) ?hi_22 ?hm_22)
   case hs_22 => repeat first | exact sub_nil | refine sub_cons rfl ?_
   case hi_22 => exact ⟨by omega, fun a b ha hb => by
   rcases Nat.lt_or_ge a f with h1 | h1
   ·exact hj a b h1 hb
   ·obtain rfl : a = f := by omega
    exact hi b (by omega)⟩
   case hm_22 => omega
 ·try simp only [sA] at hc0
  refine gc_exit ?_
  refine gk_then_exit ?_
  refine gk_then_exit ?_
  refine gk_block_hit ?_
  refine gk_then (hK4 _ _ ?_)
  refine gc_sr fun K23 hK23 => ?_
  refine gas ?_
  refine gnt (hK23 _ _ ?_)
  refine gc_ret ?_
  refine ret_1 rfl rfl  (fun w M => ?_)
  rw [bP_t fun a b ha hb => hj a b (by omega) hb]; exact ⟨rfl, M.1⟩
set_option maxHeartbeats 1000000 in
set_option maxRecDepth 100000 in
theorem impl_IsFunctor (w : World) (v : Value) (F : Fct) (h : RdF w v F) :
  Calls Tryz.prog 131 #[v] w (RetB w (fIsFunctor F)) := by
 have h0 := h
 obtain ⟨vx1, vx2, vx3, vx4, vx5, vx6, vx7, vx8, vx9, vx10, vk1, vk2, vk3, vk4, vk5, vk6, vk7, vk8, vk9, vk10, rfl, h1, h2, h3, h4, h5, h6, h7, h8, h9, h10⟩ := h.lists
 go_enter Tryz.func131, Tryz.ntmps131
 refine gc_enter (N := 27) rfl (look_cons (k := 0) rfl (look_nil _)) ?_
 refine gc_sr fun K1 hK1 => ?_
 refine gop fun K3 hK3 => ?_
 refine go_box rfl rfl rfl rfl rfl ?_
 intro B2
 refine hK3 _ _ ?_
 refine gas ?_
 refine gnt (hK1 _ _ ?_)
 refine gc_sr fun K4 hK4 => ?_
 refine gv (qtf Tryz.underlying31 (z := 4) (off := 0)) ?_
 refine gv (qt_loadP (n := 0) (z := 5) rfl rfl Tryz.underlying29 rfl (by kernel_rfl) rfl (by first | decide | exact Nat.le_refl _ | simp)) ?_
 refine g_q (.free rfl) rfl rfl (qt_call rfl Tryz.func149 rfl (by decide) rfl (fun w M => impl_IsCategory w _ _ (rdC_mk (mem_rd M h1) (mem_rd M h2) (mem_rd M h3) (mem_rd2 M h4)))) ?_
 refine g_splitv (.free rfl) rfl rfl (qt_move rfl rfl) (fun hs1_3 => ?_) (fun hs1_3 => ?_)
 ·try simp only [sA] at hs1_3
  refine gvh (qtf Tryz.underlying31 (z := 4) (off := 5)) ?_
  refine gvh (qt_loadP (n := 0) (z := 5) rfl rfl Tryz.underlying29 rfl (by kernel_rfl) rfl (by first | decide | exact Nat.le_refl _ | simp)) ?_
  refine g_q (.held _ _ _ rfl rfl rfl) rfl rfl (qt_call rfl Tryz.func149 rfl (by decide) rfl (fun w M => impl_IsCategory w _ _ (rdC_mk (mem_rd M h5) (mem_rd M h6) (mem_rd M h7) (mem_rd2 M h8)))) ?_
  refine gv (qt_pick_t rfl rfl rfl) ?_
  refine g_splitv (.free rfl) rfl rfl (qt_move rfl rfl) (fun hs1_8 => ?_) (fun hs1_8 => ?_)
  ·try simp only [sA] at hs1_8
   refine gvh (qts Tryz.underlying31 (n := 0)) ?_
   refine g_q (.held _ _ _ rfl rfl rfl) rfl rfl (qt_call rfl Tryz.func154 rfl (by decide) rfl (fun w M => hasImages_any w _ (by first | assumption | omega) (mem_rdF M h0) (hs1_3) (hs1_8))) ?_
   refine gv (qt_pick_t rfl rfl rfl) ?_
   refine g_splitv (.free rfl) rfl rfl (qt_move rfl rfl) (fun hs1_12 => ?_) (fun hs1_12 => ?_)
   ·try simp only [sA] at hs1_12
    have hP : PreF F := bP_yes2 hs1_12
    refine gvh (qts Tryz.underlying31 (n := 0)) ?_
    refine g_q (.held _ _ _ rfl rfl rfl) rfl rfl (qt_call rfl Tryz.func155 rfl (by decide) rfl (fun w M => keepsEnds_any w _ (by first | assumption | omega) (mem_rdF M h0) (by first | assumption | omega))) ?_
    refine gv (qt_pick_t rfl rfl rfl) ?_
    refine g_splitv (.free rfl) rfl rfl (qt_move rfl rfl) (fun hs1_16 => ?_) (fun hs1_16 => ?_)
    ·try simp only [sA] at hs1_16
     refine gvh (qts Tryz.underlying31 (n := 0)) ?_
     refine g_q (.held _ _ _ rfl rfl rfl) rfl rfl (qt_call rfl Tryz.func156 rfl (by decide) rfl (fun w M => keepsIds_any w _ (by first | assumption | omega) (mem_rdF M h0) (by first | assumption | omega))) ?_
     refine gv (qt_pick_t rfl rfl rfl) ?_
     refine g_splitv (.free rfl) rfl rfl (qt_move rfl rfl) (fun hs1_20 => ?_) (fun hs1_20 => ?_)
     ·try simp only [sA] at hs1_20
      refine gvh (qts Tryz.underlying31 (n := 0)) ?_
      refine g_q (.held _ _ _ rfl rfl rfl) rfl rfl (qt_call rfl Tryz.func157 rfl (by decide) rfl (fun w M => keepsComps_any w _ (by first | assumption | omega) (mem_rdF M h0) (by first | assumption | omega))) ?_
      refine gv (qt_pick_t rfl rfl rfl) ?_
      refine gas ?_
      refine gnt (hK4 _ _ ?_)
      refine gc_ret ?_
      refine ret_1 rfl rfl  (fun w M => ?_)
      rw [show fIsFunctor F = bP (∀ f g : Nat, f < F.S.s.length → g < F.S.s.length → CoF F f g) from bP_congr ⟨fun hq => hq.co, fun hq => ⟨hs1_3, hs1_8, hP.lo, hP.la, hP.io, hP.ia, bP_yes2 hs1_16, bP_yes2 hs1_20, hq⟩⟩]; exact ⟨rfl, M.1⟩
     ·try simp only [sA] at hs1_20
      refine gsk ?_
      refine gsk ?_
      refine gv (qt_pick_f rfl rfl rfl) ?_
      refine gas ?_
      refine gnt (hK4 _ _ ?_)
      refine gc_ret ?_
      refine ret_1 rfl rfl  (fun w M => ?_)
      rw [isf_f fun hq => bP_no2 hs1_20 hq.un]; exact ⟨rfl, M.1⟩
    ·try simp only [sA] at hs1_16
     refine gsk ?_
     refine gsk ?_
     refine gv (qt_pick_f rfl rfl rfl) ?_
     refine gm ?_
     refine gsk ?_
     refine gsk ?_
     refine gv (qt_pick_f rfl rfl rfl) ?_
     refine gas ?_
     refine gnt (hK4 _ _ ?_)
     refine gc_ret ?_
     refine ret_1 rfl rfl  (fun w M => ?_)
     rw [isf_f fun hq => bP_no2 hs1_16 hq.en]; exact ⟨rfl, M.1⟩
   ·try simp only [sA] at hs1_12
    refine gsk ?_
    refine gsk ?_
    refine gv (qt_pick_f rfl rfl rfl) ?_
    refine gm ?_
    refine gsk ?_
    refine gsk ?_
    refine gv (qt_pick_f rfl rfl rfl) ?_
    refine gm ?_
    refine gsk ?_
    refine gsk ?_
    refine gv (qt_pick_f rfl rfl rfl) ?_
    refine gas ?_
    refine gnt (hK4 _ _ ?_)
    refine gc_ret ?_
    refine ret_1 rfl rfl  (fun w M => ?_)
    rw [isf_f fun hq => bP_no2 hs1_12 ⟨hq.cs, hq.ct, hq.lo, hq.la, hq.io, hq.ia⟩]; exact ⟨rfl, M.1⟩
  ·try simp only [sA] at hs1_8
   refine gsk ?_
   refine gsk ?_
   refine gv (qt_pick_f rfl rfl rfl) ?_
   refine gm ?_
   refine gsk ?_
   refine gsk ?_
   refine gv (qt_pick_f rfl rfl rfl) ?_
   refine gm ?_
   refine gsk ?_
   refine gsk ?_
   refine gv (qt_pick_f rfl rfl rfl) ?_
   refine gm ?_
   refine gsk ?_
   refine gsk ?_
   refine gv (qt_pick_f rfl rfl rfl) ?_
   refine gas ?_
   refine gnt (hK4 _ _ ?_)
   refine gc_ret ?_
   refine ret_1 rfl rfl  (fun w M => ?_)
   rw [isf_f fun hq => by rw [hq.ct] at hs1_8; cases hs1_8]; exact ⟨rfl, M.1⟩
 ·try simp only [sA] at hs1_3
  refine gsk ?_
  refine gsk ?_
  refine gsk ?_
  refine gv (qt_pick_f rfl rfl rfl) ?_
  refine gm ?_
  refine gsk ?_
  refine gsk ?_
  refine gv (qt_pick_f rfl rfl rfl) ?_
  refine gm ?_
  refine gsk ?_
  refine gsk ?_
  refine gv (qt_pick_f rfl rfl rfl) ?_
  refine gm ?_
  refine gsk ?_
  refine gsk ?_
  refine gv (qt_pick_f rfl rfl rfl) ?_
  refine gm ?_
  refine gsk ?_
  refine gsk ?_
  refine gv (qt_pick_f rfl rfl rfl) ?_
  refine gas ?_
  refine gnt (hK4 _ _ ?_)
  refine gc_ret ?_
  refine ret_1 rfl rfl  (fun w M => ?_)
  rw [isf_f fun hq => by rw [hq.cs] at hs1_3; cases hs1_3]; exact ⟨rfl, M.1⟩
set_option maxHeartbeats 4000000 in
set_option maxRecDepth 100000 in
theorem specIsF_any (w : World) (v : Value) (F : Fct) (h : RdF w v F) :
  Calls Tryz.prog 68 #[v] w (RetB w (fIsFunctor F)) := by
 have h0 := h
 obtain ⟨vx1, vx2, vx3, vx4, vx5, vx6, vx7, vx8, vx9, vx10, vk1, vk2, vk3, vk4, vk5, vk6, vk7, vk8, vk9, vk10, rfl, h1, h2, h3, h4, h5, h6, h7, h8, h9, h10⟩ := h.lists
 go_enter Tryz.func68, Tryz.ntmps68
 refine gc_enter (N := 181) rfl (look_cons (k := 0) rfl (look_nil _)) ?_
 refine gc_sr fun K1 hK1 => ?_
 refine gop fun K3 hK3 => ?_
 refine go_box rfl rfl rfl rfl rfl ?_
 intro B2
 refine hK3 _ _ ?_
 refine gas ?_
 refine gnt (hK1 _ _ ?_)
 refine gc_seq fun K4 hK4 => ?_
 try simp only [sL]
 refine gc_cut ([(0, _), (1, _), (2, _)] : Env) (fun s : Nat × Nat => (fun (B3 : Nat) (B4 : Nat) => ([(3, .pointer (some ⟨B3, 0, none⟩)), (4, .pointer (some ⟨B4, 0, none⟩))] : Env)) s.1 s.2) (fun s : Nat × Nat => (fun (B3 : Nat) (B4 : Nat) => ([] : List (Nat × Itm))) s.1 s.2) (fun s : Nat × Nat => (fun (B3 : Nat) (B4 : Nat) => ([bxI B3 29 [.int .i64 F.S.ob, .slice vx1 F.S.s.length vk1, .slice vx2 F.S.t.length vk2, .slice vx3 F.S.e.length vk3, .slice vx4 F.S.m.length vk4], bxI B4 29 [.int .i64 F.T.ob, .slice vx5 F.T.s.length vk5, .slice vx6 F.T.t.length vk6, .slice vx7 F.T.e.length vk7, .slice vx8 F.T.m.length vk8]] : List Itm)) s.1 s.2) (by repeat first | exact sub_nil | refine sub_cons rfl ?_) ?_ (fun HJ5 => ?_)
 ·rintro ⟨B3, B4⟩
  simp only [sU, sL]
  refine gk_then (hK4 _ _ ?_)
  refine gc_seq fun K6 hK6 => ?_
  refine gc_sr fun K7 hK7 => ?_
  refine gv (qts Tryz.underlying29 (n := 1)) ?_
  refine g_q (.free rfl) rfl rfl (qt_call rfl Tryz.func66 rfl (by decide) rfl (fun w M => specIs_any w _ _ (rdC_mk (mem_rd M h1) (mem_rd M h2) (mem_rd M h3) (mem_rd2 M h4)))) ?_
  refine gv (qt_not rfl rfl) ?_
  refine g_splitv (.free rfl) rfl rfl (qt_move rfl rfl) (fun hs2_3 => ?_) (fun hs2_3 => ?_)
  ·try simp only [sA] at hs2_3
   refine gsk ?_
   refine gsk ?_
   refine gsk ?_
   refine gv (qt_pick_t rfl rfl rfl) ?_
   refine gm ?_
   refine gsk ?_
   refine gsk ?_
   refine gsk ?_
   refine gsk ?_
   refine gsk ?_
   refine gsk ?_
   refine gv (qt_pick_t rfl rfl rfl) ?_
   refine gm ?_
   refine gsk ?_
   refine gsk ?_
   refine gsk ?_
   refine gsk ?_
   refine gsk ?_
   refine gsk ?_
   refine gsk ?_
   refine gv (qt_pick_t rfl rfl rfl) ?_
   refine gnt (hK7 _ _ ?_)
   refine gc_cond_t rfl ?_
   refine gc_sr fun K8 hK8 => ?_
   refine gas ?_
   refine gnt (hK8 _ _ ?_)
   refine gc_ret ?_
   refine gk_then_ret ?_
   refine ret_1 rfl rfl  (fun w M => ?_)
   rw [isf_f fun hq => by rw [hq.cs] at hs2_3; cases hs2_3]; exact ⟨rfl, M.1⟩
  ·try simp only [sA] at hs2_3
   refine gvh (qts Tryz.underlying29 (n := 2)) ?_
   refine g_q (.held _ _ _ rfl rfl rfl) rfl rfl (qt_call rfl Tryz.func66 rfl (by decide) rfl (fun w M => specIs_any w _ _ (rdC_mk (mem_rd M h5) (mem_rd M h6) (mem_rd M h7) (mem_rd2 M h8)))) ?_
   refine gvh (qt_not rfl rfl) ?_
   refine gv (qt_pick_f rfl rfl rfl) ?_
   refine g_splitv (.free rfl) rfl rfl (qt_move rfl rfl) (fun hs2_8 => ?_) (fun hs2_8 => ?_)
   ·try simp only [sA] at hs2_8
    refine gsk ?_
    refine gsk ?_
    refine gsk ?_
    refine gsk ?_
    refine gsk ?_
    refine gsk ?_
    refine gv (qt_pick_t rfl rfl rfl) ?_
    refine gm ?_
    refine gsk ?_
    refine gsk ?_
    refine gsk ?_
    refine gsk ?_
    refine gsk ?_
    refine gsk ?_
    refine gsk ?_
    refine gv (qt_pick_t rfl rfl rfl) ?_
    refine gnt (hK7 _ _ ?_)
    refine gc_cond_t rfl ?_
    refine gc_sr fun K9 hK9 => ?_
    refine gas ?_
    refine gnt (hK9 _ _ ?_)
    refine gc_ret ?_
    refine gk_then_ret ?_
    refine ret_1 rfl rfl  (fun w M => ?_)
    rw [isf_f fun hq => by rw [hq.ct] at hs2_8; cases hs2_8]; exact ⟨rfl, M.1⟩
   ·try simp only [sA] at hs2_8
    refine gvh (qtf Tryz.underlying31 (z := 0) (off := 10)) ?_
    refine gvh (qtl Tryz.underlying22 (n := 0)) ?_
    refine gvh (qln (fun w M => lenV_rd h9)) ?_
    refine gvh (qtf Tryz.underlying29 (z := 0) (off := 0)) ?_
    refine gvh (qtl Tryz.underlying2 (n := 1)) ?_
    refine gvh (qt_neq rfl rfl rfl) ?_
    refine gv (qt_pick_f rfl rfl rfl) ?_
    refine g_splitv (.free rfl) rfl rfl (qt_move rfl rfl) (fun hs2_16 => ?_) (fun hs2_16 => ?_)
    ·try simp only [sA] at hs2_16
     refine gsk ?_
     refine gsk ?_
     refine gsk ?_
     refine gsk ?_
     refine gsk ?_
     refine gsk ?_
     refine gsk ?_
     refine gv (qt_pick_t rfl rfl rfl) ?_
     refine gnt (hK7 _ _ ?_)
     refine gc_cond_t rfl ?_
     refine gc_sr fun K10 hK10 => ?_
     refine gas ?_
     refine gnt (hK10 _ _ ?_)
     refine gc_ret ?_
     refine gk_then_ret ?_
     refine ret_1 rfl rfl  (fun w M => ?_)
     rw [isf_f fun hq => hs2_16 hq.lo]; exact ⟨rfl, M.1⟩
    ·try simp only [sA] at hs2_16
     refine gvh (qtf Tryz.underlying31 (z := 0) (off := 11)) ?_
     refine gvh (qtl Tryz.underlying22 (n := 0)) ?_
     refine gvh (qln (fun w M => lenV_rd h10)) ?_
     refine gvh (qtf Tryz.underlying29 (z := 0) (off := 1)) ?_
     refine gvh (qtl Tryz.underlying22 (n := 1)) ?_
     refine gvh (qln (fun w M => lenV_rd h1)) ?_
     refine gvh (qt_neq rfl rfl rfl) ?_
     refine gv (qt_pick_f rfl rfl rfl) ?_
     refine gnt (hK7 _ _ ?_)
     refine gc_cond rfl (fun hc0 => ?_) (fun hc0 => ?_)
     ·try simp only [sA] at hc0
      refine gc_sr fun K11 hK11 => ?_
      refine gas ?_
      refine gnt (hK11 _ _ ?_)
      refine gc_ret ?_
      refine gk_then_ret ?_
      refine ret_1 rfl rfl  (fun w M => ?_)
      rw [isf_f fun hq => hc0 hq.la]; exact ⟨rfl, M.1⟩
     ·try simp only [sA] at hc0
      refine gc_skip ?_
      refine gk_then (hK6 _ _ ?_)
      refine gc_seq fun K12 hK12 => ?_
      refine gc_sr fun K13 hK13 => ?_
      refine gv (qtf Tryz.underlying29 (z := 0) (off := 0)) ?_
      refine gv (qtl Tryz.underlying2 (n := 2)) ?_
      refine gv (qtf Tryz.underlying31 (z := 0) (off := 10)) ?_
      refine gv (qtl Tryz.underlying22 (n := 0)) ?_
      refine g_q (.free rfl) rfl rfl (qt_call rfl Tryz.func101 rfl (by decide) rfl (fun w M => specMap_any w _ _ _ (_) (mem_rd M h9) (rfl))) ?_
      refine gv (qt_not rfl rfl) ?_
      refine g_splitv (.free rfl) rfl rfl (qt_move rfl rfl) (fun hs4_6 => ?_) (fun hs4_6 => ?_)
      ·try simp only [sA] at hs4_6
       refine gsk ?_
       refine gsk ?_
       refine gsk ?_
       refine gsk ?_
       refine gsk ?_
       refine gsk ?_
       refine gsk ?_
       refine gv (qt_pick_t rfl rfl rfl) ?_
       refine gnt (hK13 _ _ ?_)
       refine gc_cond_t rfl ?_
       refine gc_sr fun K14 hK14 => ?_
       refine gas ?_
       refine gnt (hK14 _ _ ?_)
       refine gc_ret ?_
       refine gk_then_ret ?_
       refine ret_1 rfl rfl  (fun w M => ?_)
       rw [isf_f fun hq => hs4_6 hq.io]; exact ⟨rfl, M.1⟩
      ·try simp only [sA] at hs4_6
       refine gvh (qtf Tryz.underlying29 (z := 0) (off := 1)) ?_
       refine gvh (qtl Tryz.underlying22 (n := 2)) ?_
       refine gvh (qln (fun w M => lenV_rd h5)) ?_
       refine gvh (qtf Tryz.underlying31 (z := 0) (off := 11)) ?_
       refine gvh (qtl Tryz.underlying22 (n := 0)) ?_
       refine g_q (.held _ _ _ rfl rfl rfl) rfl rfl (qt_call rfl Tryz.func101 rfl (by decide) rfl (fun w M => specMap_any w _ _ _ (_) (mem_rd M h10) (rfl))) ?_
       refine gvh (qt_not rfl rfl) ?_
       refine gv (qt_pick_f rfl rfl rfl) ?_
       refine gnt (hK13 _ _ ?_)
       refine gc_cond rfl (fun hc1 => ?_) (fun hc1 => ?_)
       ·try simp only [sA] at hc1
        refine gc_sr fun K15 hK15 => ?_
        refine gas ?_
        refine gnt (hK15 _ _ ?_)
        refine gc_ret ?_
        refine gk_then_ret ?_
        refine ret_1 rfl rfl  (fun w M => ?_)
        rw [isf_f fun hq => hc1 hq.ia]; exact ⟨rfl, M.1⟩
       ·try simp only [sA] at hc1
        refine gc_skip ?_
        refine gk_then (hK12 _ _ ?_)
        refine gc_seq fun K16 hK16 => ?_
        refine gc_seq fun K17 hK17 => ?_
        have hP : PreF F := ⟨hs2_3, hs2_8, hs2_16, hc0, hs4_6, hc1⟩
        have hS := (isCat_of hP.cs).toShapeP; have hT := (isCat_of hP.ct).toShapeP
        have n1 := hS.n40; have n2 := hS.tl; have n3 := hS.el; have n4 := hS.ob0; have n5 := hS.ob8; have n6 := hS.ml
        have m1 := hT.n40; have m2 := hT.tl; have m3 := hT.el; have m4 := hT.ob0; have m5 := hT.ob8; have m6 := hT.ml
        have l1 := hP.lo; have l2 := hP.la
        refine gc_region ?_
        refine gas ?_
        refine gnt (hK17 _ _ ?_)
        refine gc_block ?_
        try simp only [sL]
        refine gc_loopT ([(0, _), (1, _), (3, _), (4, _), (37, _), (52, _)] : Env) (fun s : Nat => (fun (f : Nat) => (([(5, .int .i64 (f : Int))] : Env), ([] : List (Nat × Itm)), f ≤ F.S.s.length ∧ ∀ j : Nat, j < f → EndF F j, F.S.s.length - f)) s) (0) (by repeat first | exact sub_nil | refine sub_cons rfl ?_) rfl ⟨Nat.zero_le _, fun j hj => absurd hj (by omega)⟩ ?_
        rintro f hinv KL18 hKL18
        simp only [sU, sL] at hinv hKL18 ⊢
        obtain ⟨hf, hj⟩ := hinv
        refine gc_seq fun K19 hK19 => ?_
        refine gc_sr fun K20 hK20 => ?_
        refine gm ?_
        refine gv (qtf Tryz.underlying29 (z := 0) (off := 1)) ?_
        refine gv (qtl Tryz.underlying22 (n := 1)) ?_
        refine gv (qln (fun w M => lenV_rd h1)) ?_
        refine gv (qt_lss rfl rfl rfl) ?_
        refine gnt (hK20 _ _ ?_)
        refine gc_cond rfl (fun hc2 => ?_) (fun hc2 => ?_)
        ·try simp only [sA] at hc2
         refine gc_skip ?_
         refine gk_then (hK19 _ _ ?_)
         refine gc_seq fun K21 hK21 => ?_
         refine gc_block ?_
         refine gc_seq fun K22 hK22 => ?_
         have hAp := arrP hS (f := (f : Int)) (by omega) (by omega)
         have p1 := hAp.fs; have p2 := hAp.ft; have p3 := hAp.s0; have p4 := hAp.s1; have p5 := hAp.t0; have p6 := hAp.t1; have p7 := hAp.row; have p8 := hAp.fm
         have hIp := preF_arr hP (f := (f : Int)) (by omega) (by omega)
         have p9 := hIp.1; have p10 := hIp.2
         have hBp := arrP hT p9 p10
         have p11 := hBp.fs; have p12 := hBp.ft; have p13 := hBp.row; have p14 := hBp.fm
         have ho1 := preF_ob hP p3 (by omega); have ho2 := preF_ob hP p5 (by omega)
         refine gc_draw (by kernel_rfl) ?_
         refine gdv (qtf Tryz.underlying29 (z := 0) (off := 1)) ?_
         refine gdv (qtl Tryz.underlying22 (n := 2)) ?_
         refine gdv (qtf Tryz.underlying31 (z := 0) (off := 11)) ?_
         refine gdv (qtl Tryz.underlying22 (n := 0)) ?_
         refine gdv (qt_move rfl rfl) ?_
         refine gdv (qti (fun w M => lenA_rd h10)) ?_
         refine gdv (qtd (fun w M => mem_rd M h10)) ?_
         refine gdv (qti (fun w M => lenA_rd h5)) ?_
         refine gdv (qtd (fun w M => mem_rd M h5)) ?_
         refine gdv (qtf Tryz.underlying31 (z := 0) (off := 10)) ?_
         refine gdv (qtl Tryz.underlying22 (n := 0)) ?_
         refine gdv (qtf Tryz.underlying29 (z := 0) (off := 1)) ?_
         refine gdv (qtl Tryz.underlying22 (n := 1)) ?_
         refine gdv (qt_move rfl rfl) ?_
         refine gdv (qti (fun w M => lenA_rd h1)) ?_
         refine gdv (qtd (fun w M => mem_rd M h1)) ?_
         refine gdv (qti (fun w M => lenA_rd h9)) ?_
         refine gdv (qtd (fun w M => mem_rd M h9)) ?_
         refine gdv (qt_neq rfl rfl rfl) ?_
         refine gd_splitv (.free rfl) rfl rfl (qt_move rfl rfl) (fun hs9_19 => ?_) (fun hs9_19 => ?_)
         ·try simp only [sA] at hs9_19
          refine gdsk ?_
          refine gdsk ?_
          refine gdsk ?_
          refine gdsk ?_
          refine gdsk ?_
          refine gdsk ?_
          refine gdsk ?_
          refine gdsk ?_
          refine gdsk ?_
          refine gdsk ?_
          refine gdsk ?_
          refine gdsk ?_
          refine gdsk ?_
          refine gdsk ?_
          refine gdsk ?_
          refine gdsk ?_
          refine gdsk ?_
          refine gdsk ?_
          refine gdsk ?_
          refine gdv (qt_pick_t rfl rfl rfl) ?_
          refine gd_nil ?_
          refine gk_then (hK22 _ _ ?_)
          refine gc_cond_t rfl ?_
          refine gc_sr fun K23 hK23 => ?_
          refine gas ?_
          refine gnt (hK23 _ _ ?_)
          refine gc_ret ?_
          refine gk_block_ret ?_
          refine gk_then_ret ?_
          refine gk_then_ret ?_
          refine gk_block_ret ?_
          refine gk_then_ret ?_
          refine ret_1 rfl rfl  (fun w M => ?_)
          rw [isf_f fun hq => hs9_19 (hq.en f (by omega)).1]; exact ⟨rfl, M.1⟩
         ·try simp only [sA] at hs9_19
          refine gdvh (qtf Tryz.underlying29 (z := 0) (off := 2)) ?_
          refine gdvh (qtl Tryz.underlying22 (n := 2)) ?_
          refine gdvh (qtf Tryz.underlying31 (z := 0) (off := 11)) ?_
          refine gdvh (qtl Tryz.underlying22 (n := 0)) ?_
          refine gdvh (qt_move rfl rfl) ?_
          refine gdvh (qti (fun w M => lenA_rd h10)) ?_
          refine gdvh (qtd (fun w M => mem_rd M h10)) ?_
          refine gdvh (qti (fun w M => lenA_rd h6)) ?_
          refine gdvh (qtd (fun w M => mem_rd M h6)) ?_
          refine gdvh (qtf Tryz.underlying31 (z := 0) (off := 10)) ?_
          refine gdvh (qtl Tryz.underlying22 (n := 0)) ?_
          refine gdvh (qtf Tryz.underlying29 (z := 0) (off := 2)) ?_
          refine gdvh (qtl Tryz.underlying22 (n := 1)) ?_
          refine gdvh (qt_move rfl rfl) ?_
          refine gdvh (qti (fun w M => lenA_rd h2)) ?_
          refine gdvh (qtd (fun w M => mem_rd M h2)) ?_
          refine gdvh (qti (fun w M => lenA_rd h9)) ?_
          refine gdvh (qtd (fun w M => mem_rd M h9)) ?_
          refine gdvh (qt_neq rfl rfl rfl) ?_
          refine gdv (qt_pick_f rfl rfl rfl) ?_
          refine gd_nil ?_
          refine gk_then (hK22 _ _ ?_)
          refine gc_cond rfl (fun hc3 => ?_) (fun hc3 => ?_)
          ·try simp only [sA] at hc3
           refine gc_sr fun K24 hK24 => ?_
           refine gas ?_
           refine gnt (hK24 _ _ ?_)
           refine gc_ret ?_
           refine gk_block_ret ?_
           refine gk_then_ret ?_
           refine gk_then_ret ?_
           refine gk_block_ret ?_
           refine gk_then_ret ?_
           refine ret_1 rfl rfl  (fun w M => ?_)
           rw [isf_f fun hq => hc3 (hq.en f (by omega)).2]; exact ⟨rfl, M.1⟩
          ·try simp only [sA] at hc3
           refine gc_skip ?_
           refine gk_block ?_
           refine gk_then (hK21 _ _ ?_)
           refine gc_region ?_
           refine gm ?_
           refine gv (qt_add rfl rfl rfl (by omega)) ?_
           refine gas ?_
           refine g_nil ?_
           refine gk_then (gk_take 3 ?_)
           refine gk_sub ?hs_25 (hKL18 (f + 1) ?hi_25 ?hm_25)
           case hs_25 => repeat first | exact sub_nil | refine sub_cons rfl ?_
           case hi_25 => exact ⟨by omega, all_next0 hj ⟨hs9_19, hc3⟩⟩
           case hm_25 => omega
        ·try simp only [sA] at hc2
         refine gc_exit ?_
         refine gk_then_exit ?_
         refine gk_then_exit ?_
         refine gk_block_hit ?_
         refine gk_then (hK16 _ _ ?_)
         refine gc_seq fun K26 hK26 => ?_
         refine gc_sr fun K27 hK27 => ?_
         refine gas ?_
         refine gnt (hK27 _ _ ?_)
         refine gc_block ?_
         have hen : ∀ j : Nat, j < F.S.s.length → EndF F j := fun j h2 => hj j (by omega)
         try simp only [sL]
         refine gc_loopT ([(0, _), (1, _), (3, _), (4, _), (5, _), (37, _), (52, _), (57, _)] : Env) (fun s : Nat => (fun (x : Nat) => (([(6, .int .i64 (x : Int))] : Env), ([] : List (Nat × Itm)), (x : Int) ≤ F.S.ob ∧ ∀ j : Nat, j < x → UnF F j, (F.S.ob - (x : Int)).toNat)) s) (0) (by repeat first | exact sub_nil | refine sub_cons rfl ?_) rfl ⟨by omega, fun j hj => absurd hj (by omega)⟩ ?_
         rintro x hinv KL28 hKL28
         simp only [sU, sL] at hinv hKL28 ⊢
         obtain ⟨hx, hu⟩ := hinv
         refine gc_seq fun K29 hK29 => ?_
         refine gc_sr fun K30 hK30 => ?_
         refine gm ?_
         refine gv (qtf Tryz.underlying29 (z := 0) (off := 0)) ?_
         refine gv (qtl Tryz.underlying2 (n := 1)) ?_
         refine gv (qt_lss rfl rfl rfl) ?_
         refine gnt (hK30 _ _ ?_)
         refine gc_cond rfl (fun hc4 => ?_) (fun hc4 => ?_)
         ·try simp only [sA] at hc4
          refine gc_skip ?_
          refine gk_then (hK29 _ _ ?_)
          refine gc_seq fun K31 hK31 => ?_
          refine gc_block ?_
          refine gc_seq fun K32 hK32 => ?_
          have hi := idF hS (x := (x : Int)) (by omega) (by omega)
          have i1 := hi.1; have i2 := hi.2
          have ho := preF_ob hP (x := (x : Int)) (by omega) (by omega)
          have o1 := ho.1; have o2 := ho.2
          have ha := preF_arr hP i1 i2
          refine gc_draw (by kernel_rfl) ?_
          refine gdv (qtf Tryz.underlying31 (z := 0) (off := 11)) ?_
          refine gdv (qtl Tryz.underlying22 (n := 0)) ?_
          refine gdv (qtf Tryz.underlying29 (z := 0) (off := 3)) ?_
          refine gdv (qtl Tryz.underlying22 (n := 1)) ?_
          refine gdv (qt_move rfl rfl) ?_
          refine gdv (qti (fun w M => lenA_rd h3)) ?_
          refine gdv (qtd (fun w M => mem_rd M h3)) ?_
          refine gdv (qti (fun w M => lenA_rd h10)) ?_
          refine gdv (qtd (fun w M => mem_rd M h10)) ?_
          refine gdv (qtf Tryz.underlying29 (z := 0) (off := 3)) ?_
          refine gdv (qtl Tryz.underlying22 (n := 2)) ?_
          refine gdv (qtf Tryz.underlying31 (z := 0) (off := 10)) ?_
          refine gdv (qtl Tryz.underlying22 (n := 0)) ?_
          refine gdv (qt_move rfl rfl) ?_
          refine gdv (qti (fun w M => lenA_rd h9)) ?_
          refine gdv (qtd (fun w M => mem_rd M h9)) ?_
          refine gdv (qti (fun w M => lenA_rd h7)) ?_
          refine gdv (qtd (fun w M => mem_rd M h7)) ?_
          refine gdv (qt_neq rfl rfl rfl) ?_
          refine gd_nil ?_
          refine gk_then (hK32 _ _ ?_)
          refine gc_cond rfl (fun hc5 => ?_) (fun hc5 => ?_)
          ·try simp only [sA] at hc5
           refine gc_sr fun K33 hK33 => ?_
           refine gas ?_
           refine gnt (hK33 _ _ ?_)
           refine gc_ret ?_
           refine gk_block_ret ?_
           refine gk_then_ret ?_
           refine gk_then_ret ?_
           refine gk_block_ret ?_
           refine gk_then_ret ?_
           refine ret_1 rfl rfl  (fun w M => ?_)
           rw [isf_f fun hq => hc5 (hq.un x (by omega))]; exact ⟨rfl, M.1⟩
          ·try simp only [sA] at hc5
           refine gc_skip ?_
           refine gk_block ?_
           refine gk_then (hK31 _ _ ?_)
           refine gc_region ?_
           refine gm ?_
           refine gv (qt_add rfl rfl rfl (by omega)) ?_
           refine gas ?_
           refine g_nil ?_
           refine gk_then (gk_take 3 ?_)
           refine gk_sub ?hs_34 (hKL28 (x + 1) ?hi_34 ?hm_34)
           case hs_34 => repeat first | exact sub_nil | refine sub_cons rfl ?_
           case hi_34 => exact ⟨by omega, all_next0 hu hc5⟩
           case hm_34 => omega
         ·try simp only [sA] at hc4
          refine gc_exit ?_
          refine gk_then_exit ?_
          refine gk_then_exit ?_
          refine gk_block_hit ?_
          refine gk_then (hK26 _ _ ?_)
          refine gc_seq fun K35 hK35 => ?_
          refine gc_sr fun K36 hK36 => ?_
          refine gas ?_
          refine gnt (hK36 _ _ ?_)
          refine gc_block ?_
          have hun : ∀ j : Nat, (j : Int) < F.S.ob → UnF F j := fun j h2 => hu j (by omega)
          try simp only [sL]
          refine gc_loopT ([(0, _), (1, _), (3, _), (4, _), (5, _), (6, _), (37, _), (52, _), (57, _), (103, _)] : Env) (fun s : Nat => (fun (k : Nat) => (([(7, .int .i64 (k : Int))] : Env), ([] : List (Nat × Itm)), k ≤ F.S.s.length ∧ ∀ a b : Nat, a < k → b < F.S.s.length → CoF F a b, F.S.s.length - k)) s) (0) (by repeat first | exact sub_nil | refine sub_cons rfl ?_) rfl ⟨Nat.zero_le _, fun j b hj => absurd hj (by omega)⟩ ?_
          rintro k hinv KL37 hKL37
          simp only [sU, sL] at hinv hKL37 ⊢
          obtain ⟨hk, hcc⟩ := hinv
          refine gc_seq fun K38 hK38 => ?_
          refine gc_sr fun K39 hK39 => ?_
          refine gm ?_
          refine gv (qtf Tryz.underlying29 (z := 0) (off := 1)) ?_
          refine gv (qtl Tryz.underlying22 (n := 1)) ?_
          refine gv (qln (fun w M => lenV_rd h1)) ?_
          refine gv (qt_lss rfl rfl rfl) ?_
          refine gnt (hK39 _ _ ?_)
          refine gc_cond rfl (fun hc6 => ?_) (fun hc6 => ?_)
          ·try simp only [sA] at hc6
           refine gc_skip ?_
           refine gk_then (hK38 _ _ ?_)
           refine gc_seq fun K40 hK40 => ?_
           refine gc_block ?_
           refine gc_sr fun K41 hK41 => ?_
           refine gas ?_
           refine gnt (hK41 _ _ ?_)
           refine gc_block ?_
           try simp only [sL]
           refine gc_loopT ([(0, _), (1, _), (3, _), (4, _), (5, _), (6, _), (7, _), (37, _), (52, _), (57, _), (103, _), (129, _)] : Env) (fun s : Nat => (fun (g : Nat) => (([(8, .int .i64 (g : Int))] : Env), ([] : List (Nat × Itm)), g ≤ F.S.s.length ∧ ∀ b : Nat, b < g → CoF F k b, F.S.s.length - g)) s) (0) (by repeat first | exact sub_nil | refine sub_cons rfl ?_) rfl ⟨Nat.zero_le _, fun j hj => absurd hj (by omega)⟩ ?_
           rintro g hinv KL42 hKL42
           simp only [sU, sL] at hinv hKL42 ⊢
           obtain ⟨hg, hi⟩ := hinv
           refine gc_seq fun K43 hK43 => ?_
           refine gc_sr fun K44 hK44 => ?_
           refine gm ?_
           refine gv (qtf Tryz.underlying29 (z := 0) (off := 1)) ?_
           refine gv (qtl Tryz.underlying22 (n := 1)) ?_
           refine gv (qln (fun w M => lenV_rd h1)) ?_
           refine gv (qt_lss rfl rfl rfl) ?_
           refine gnt (hK44 _ _ ?_)
           refine gc_cond rfl (fun hc7 => ?_) (fun hc7 => ?_)
           ·try simp only [sA] at hc7
            refine gc_skip ?_
            refine gk_then (hK43 _ _ ?_)
            refine gc_seq fun K45 hK45 => ?_
            refine gc_block ?_
            refine gc_seq fun K46 hK46 => ?_
            have hAp := arrP hS (f := (k : Int)) (by omega) (by omega)
            have p1 := hAp.fs; have p2 := hAp.ft; have p3 := hAp.s0; have p4 := hAp.s1; have p5 := hAp.t0; have p6 := hAp.t1; have p7 := hAp.row; have p8 := hAp.fm
            have hIp := preF_arr hP (f := (k : Int)) (by omega) (by omega)
            have p9 := hIp.1; have p10 := hIp.2
            have hBp := arrP hT p9 p10
            have p11 := hBp.fs; have p12 := hBp.ft; have p13 := hBp.row; have p14 := hBp.fm
            have hAq := arrP hS (f := (g : Int)) (by omega) (by omega)
            have q1 := hAq.fs; have q2 := hAq.ft; have q3 := hAq.s0; have q4 := hAq.s1; have q5 := hAq.t0; have q6 := hAq.t1; have q7 := hAq.row; have q8 := hAq.fm
            have hIq := preF_arr hP (f := (g : Int)) (by omega) (by omega)
            have q9 := hIq.1; have q10 := hIq.2
            have hBq := arrP hT q9 q10
            have q11 := hBq.fs; have q12 := hBq.ft; have q13 := hBq.row; have q14 := hBq.fm
            have hth : at0 (row2 F.S.m (k : Int)) (g : Int) = F.S.th (k : Int) (g : Int) := rfl
            refine gc_draw (by kernel_rfl) ?_
            refine gdv (qtf Tryz.underlying29 (z := 0) (off := 2)) ?_
            refine gdv (qtl Tryz.underlying22 (n := 1)) ?_
            refine gdv (qt_move rfl rfl) ?_
            refine gdv (qti (fun w M => lenA_rd h2)) ?_
            refine gdv (qtd (fun w M => mem_rd M h2)) ?_
            refine gdv (qtf Tryz.underlying29 (z := 0) (off := 1)) ?_
            refine gdv (qtl Tryz.underlying22 (n := 1)) ?_
            refine gdv (qt_move rfl rfl) ?_
            refine gdv (qti (fun w M => lenA_rd h1)) ?_
            refine gdv (qtd (fun w M => mem_rd M h1)) ?_
            refine gdv (qt_eql rfl rfl rfl) ?_
            refine gd_splitv (.free rfl) rfl rfl (qt_move rfl rfl) (fun hs22_11 => ?_) (fun hs22_11 => ?_)
            ·try simp only [sA] at hs22_11
             have hTh := th_ends hS (f := (k : Int)) (g := (g : Int)) (by omega) (by omega) (by omega) (by omega) hs22_11
             have t0 := hTh.1.1; have t1 := hTh.1.2
             have hIt := preF_arr hP t0 t1
             refine gdvh (qtf Tryz.underlying31 (z := 0) (off := 11)) ?_
             refine gdvh (qtl Tryz.underlying22 (n := 0)) ?_
             refine gdvh (qtf Tryz.underlying29 (z := 0) (off := 4)) ?_
             refine gdvh (qtl Tryz.underlying23 (n := 1)) ?_
             refine gdvh (qt_move rfl rfl) ?_
             refine gdvh (qti2 (fun w M => lenA_rd2 h4)) ?_
             refine gd_load2 (.held _ _ _ rfl rfl rfl) rfl rfl rfl rfl Tryz.underlying22 rfl h4 (by omega) (by omega) ?_
             intro ra47 rc47 hr47
             refine gdvh (qt_move rfl rfl) ?_
             refine gdvh (qti (fun w M => lenA_rd hr47)) ?_
             refine gdvh (qtd (fun w M => mem_rd M hr47)) ?_
             refine gdvh (qti (fun w M => lenA_rd h10)) ?_
             refine gdvh (qtd (fun w M => mem_rd M h10)) ?_
             refine gdvh (qtf Tryz.underlying29 (z := 0) (off := 4)) ?_
             refine gdvh (qtl Tryz.underlying23 (n := 2)) ?_
             refine gdvh (qtf Tryz.underlying31 (z := 0) (off := 11)) ?_
             refine gdvh (qtl Tryz.underlying22 (n := 0)) ?_
             refine gdvh (qt_move rfl rfl) ?_
             refine gdvh (qti (fun w M => lenA_rd h10)) ?_
             refine gdvh (qtd (fun w M => mem_rd M h10)) ?_
             refine gdvh (qti2 (fun w M => lenA_rd2 h8)) ?_
             refine gd_load2 (.held _ _ _ rfl rfl rfl) rfl rfl rfl rfl Tryz.underlying22 rfl h8 (by omega) (by omega) ?_
             intro ra48 rc48 hr48
             refine gdvh (qtf Tryz.underlying31 (z := 0) (off := 11)) ?_
             refine gdvh (qtl Tryz.underlying22 (n := 0)) ?_
             refine gdvh (qt_move rfl rfl) ?_
             refine gdvh (qti (fun w M => lenA_rd h10)) ?_
             refine gdvh (qtd (fun w M => mem_rd M h10)) ?_
             refine gdvh (qti (fun w M => lenA_rd hr48)) ?_
             refine gdvh (qtd (fun w M => mem_rd M hr48)) ?_
             refine gdvh (qt_neq rfl rfl rfl) ?_
             refine gdv (qt_pick_t rfl rfl rfl) ?_
             refine gd_nil ?_
             refine gk_then (hK46 _ _ ?_)
             refine gc_cond rfl (fun hc8 => ?_) (fun hc8 => ?_)
             ·try simp only [sA] at hc8
              refine gc_sr fun K49 hK49 => ?_
              refine gas ?_
              refine gnt (hK49 _ _ ?_)
              refine gc_ret ?_
              refine gk_block_ret ?_
              refine gk_then_ret ?_
              refine gk_then_ret ?_
              refine gk_block_ret ?_
              refine gk_block_ret ?_
              refine gk_then_ret ?_
              refine gk_then_ret ?_
              refine gk_block_ret ?_
              refine gk_then_ret ?_
              refine ret_1 rfl rfl  (fun w M => ?_)
              rw [isf_f fun hq => hc8 (hq.co k g (by omega) (by omega) hs22_11)]; exact ⟨rfl, M.1⟩
             ·try simp only [sA] at hc8
              refine gc_skip ?_
              refine gk_block ?_
              refine gk_then (hK45 _ _ ?_)
              refine gc_region ?_
              refine gm ?_
              refine gv (qt_add rfl rfl rfl (by omega)) ?_
              refine gas ?_
              refine g_nil ?_
              refine gk_then (gk_take 3 ?_)
              refine gk_sub ?hs_50 (hKL42 (g + 1) ?hi_50 ?hm_50)
              case hs_50 => repeat first | exact sub_nil | refine sub_cons rfl ?_
              case hi_50 => exact ⟨by omega, all_next0 hi (fun _ => hc8)⟩
              case hm_50 => omega
            ·try simp only [sA] at hs22_11
             refine gdsk ?_
             refine gdsk ?_
             refine gdsk ?_
             refine gdsk ?_
             refine gdsk ?_
             refine gdsk ?_
             refine gdsk ?_
             refine gdsk ?_
             refine gdsk ?_
             refine gdsk ?_
             refine gdsk ?_
             refine gdsk ?_
             refine gdsk ?_
             refine gdsk ?_
             refine gdsk ?_
             refine gdsk ?_
             refine gdsk ?_
             refine gdsk ?_
             refine gdsk ?_
             refine gdsk ?_
             refine gdsk ?_
             refine gdsk ?_
             refine gdsk ?_
             refine gdsk ?_
             refine gdsk ?_
             refine gdsk ?_
             refine gdsk ?_
             refine gdsk ?_
             refine gdsk ?_
             refine gdv (qt_pick_f rfl rfl rfl) ?_
             refine gd_nil ?_
             refine gk_then (hK46 _ _ ?_)
             refine gc_cond_f rfl ?_
             refine gc_skip ?_
             refine gk_block ?_
             refine gk_then (hK45 _ _ ?_)
             refine gc_region ?_
             refine gm ?_
             refine gv (qt_add rfl rfl rfl (by omega)) ?_
             refine gas ?_
             refine g_nil ?_
             refine gk_then (gk_take 3 ?_)
             refine gk_sub ?hs_51 (hKL42 (g + 1) ?hi_51 ?hm_51)
             case hs_51 => repeat first | exact sub_nil | refine sub_cons rfl ?_
             case hi_51 => exact ⟨by omega, all_next0 hi (fun h2 => absurd h2 hs22_11)⟩
             case hm_51 => omega
           ·try simp only [sA] at hc7
            refine gc_exit ?_
            refine gk_then_exit ?_
            refine gk_then_exit ?_
            refine gk_block_hit ?_
            refine gk_block ?_
            refine gk_then (hK40 _ _ ?_)
            refine gc_region ?_
            refine gm ?_
            refine gv (qt_add rfl rfl rfl (by omega)) ?_
            refine gas ?_
            refine g_nil ?_
            refine gk_then (gk_take 3 ?_)
            refine gk_sub ?hs_52 (hKL37 (k + 1) ?hi_52 ?hm_52)
            case hs_52 => repeat first | exact sub_nil | refine sub_cons rfl ?_
            case hi_52 => exact ⟨by omega, coF_row hcc (fun b hb => hi b (by omega))⟩
            case hm_52 => omega
          ·try simp only [sA] at hc6
           refine gc_exit ?_
           refine gk_then_exit ?_
           refine gk_then_exit ?_
           refine gk_block_hit ?_
           refine gk_then (hK35 _ _ ?_)
           refine gc_sr fun K53 hK53 => ?_
           refine gas ?_
           refine gnt (hK53 _ _ ?_)
           refine gc_ret ?_
           refine ret_1 rfl rfl  (fun w M => ?_)
           rw [isf_t ⟨hP.cs, hP.ct, hP.lo, hP.la, hP.io, hP.ia, hen, hun, fun a b ha hb => hcc a b (by omega) hb⟩]; exact ⟨rfl, M.1⟩
 simp only [sU, sL] at HJ5
 refine ga_start _ (fun w M => M) ?_
 refine gav 0 rfl (qtf Tryz.underlying31 (z := 4) (off := 0)) ?_
 refine gav 1 rfl (qt_loadP (n := 0) (z := 5) rfl rfl Tryz.underlying29 rfl (by kernel_rfl) rfl (by first | decide | exact Nat.le_refl _ | simp)) ?_
 refine gav 2 rfl (qtf Tryz.underlying31 (z := 4) (off := 5)) ?_
 refine gav 3 rfl (qt_loadP (n := 0) (z := 5) rfl rfl Tryz.underlying29 rfl (by kernel_rfl) rfl (by first | decide | exact Nat.le_refl _ | simp)) ?_
 refine ga_two 4 5 (by kernel_rfl) rfl rfl (.free rfl) (.free rfl) (fun K54 hK54 => ?_) (fun K54 hK54 => ?_)
 ·refine go_alloc (z := (.agg #[.int .i64 0, .slice none 0 0, .slice none 0 0, .slice none 0 0, .slice none 0 0])) (cs := [.int .i64 0, .slice none 0 0, .slice none 0 0, .slice none 0 0, .slice none 0 0]) rfl rfl rfl (fun w => by kernel_rfl) rfl ?_
  intro B55
  refine hK54 _ _ (fun w M => (mem_take 1 M :)) ?_
  refine gao 5 fun K58 hK58 => ?_
  refine go_alloc (z := (.agg #[.int .i64 0, .slice none 0 0, .slice none 0 0, .slice none 0 0, .slice none 0 0])) (cs := [.int .i64 0, .slice none 0 0, .slice none 0 0, .slice none 0 0, .slice none 0 0]) rfl rfl rfl (fun w => by kernel_rfl) rfl ?_
  intro B57
  refine hK58 _ _ (fun w M => (mem_take 1 M :)) ?_
  refine gao 6 fun K59 hK59 => ?_
  refine go_storeS (n := 1) rfl rfl rfl rfl (by kernel_rfl) rfl rfl rfl ?_
  refine hK59 _ _ (fun w M => (mem_take 1 M :)) ?_
  refine gao 7 fun K60 hK60 => ?_
  refine go_storeS (n := 2) rfl rfl rfl rfl (by kernel_rfl) rfl rfl rfl ?_
  refine hK60 _ _ (fun w M => (mem_take 1 M :)) ?_
  refine ga_done (by kernel_rfl) ?_
  refine gk_pickL [0, 0, 0] ?_
  refine gk_sub ?hs_61 (HJ5 (_, _))
  case hs_61 => repeat first | exact sub_nil | refine sub_cons rfl ?_
 ·refine go_alloc (z := (.agg #[.int .i64 0, .slice none 0 0, .slice none 0 0, .slice none 0 0, .slice none 0 0])) (cs := [.int .i64 0, .slice none 0 0, .slice none 0 0, .slice none 0 0, .slice none 0 0]) rfl rfl rfl (fun w => by kernel_rfl) rfl ?_
  intro B62
  refine hK54 _ _ (fun w M => (mem_take 1 M :)) ?_
  refine gao 4 fun K65 hK65 => ?_
  refine go_alloc (z := (.agg #[.int .i64 0, .slice none 0 0, .slice none 0 0, .slice none 0 0, .slice none 0 0])) (cs := [.int .i64 0, .slice none 0 0, .slice none 0 0, .slice none 0 0, .slice none 0 0]) rfl rfl rfl (fun w => by kernel_rfl) rfl ?_
  intro B64
  refine hK65 _ _ (fun w M => (mem_take 1 M :)) ?_
  refine gao 6 fun K66 hK66 => ?_
  refine go_storeS (n := 2) rfl rfl rfl rfl (by kernel_rfl) rfl rfl rfl ?_
  refine hK66 _ _ (fun w M => (mem_take 1 M :)) ?_
  refine gao 7 fun K67 hK67 => ?_
  refine go_storeS (n := 1) rfl rfl rfl rfl (by kernel_rfl) rfl rfl rfl ?_
  refine hK67 _ _ (fun w M => (mem_take 1 M :)) ?_
  refine ga_done (by kernel_rfl) ?_
  refine gk_pickL [0, 1, 0] ?_
  refine gk_sub ?hs_68 (HJ5 (_, _))
  case hs_68 => repeat first | exact sub_nil | refine sub_cons rfl ?_
end Go.Proofs.YtpcabkdkdnchaaaGreat
