import Derived.Test.YtpcabkdkdnchaaaGreatZ20
import Derived.Test.YtpcabkdkdnchaaaGreatZ21
import Derived.Test.YtpcabkdkdnchaaaGreatZ22
import Derived.Test.YtpcabkdkdnchaaaGreatZ14
import Derived.Test.YtpcabkdkdnchaaaGreatZ15
import Derived.Test.YtpcabkdkdnchaaaGreatZ6
set_option linter.unusedSimpArgs false
set_option linter.unusedVariables false
set_option linter.unusedSectionVars false
namespace Go.Proofs.YtpcabkdkdnchaaaGreat
open Go.RowKit
noncomputable def cspE (F G : Fct) : Int := if twoFE F G = 0 then (if bP (F.T = G.T) = true then 0 else 5) else 1
noncomputable def cspF (F G : Fct) : Fct := if cspE F G = 0 then F else fct0
noncomputable def cspG (F G : Fct) : Fct := if cspE F G = 0 then G else fct0
theorem csp_1 {F G : Fct} (h : ¬ twoFE F G = 0) : cspE F G = 1 ∧ cspF F G = fct0 ∧ cspG F G = fct0 := by
 have e : cspE F G = 1 := if_neg h
 exact ⟨e, if_neg (by rw [e]; decide), if_neg (by rw [e]; decide)⟩
theorem csp_5 {F G : Fct} (h : twoFE F G = 0) (h' : bP (F.T = G.T) = false) : cspE F G = 5 ∧ cspF F G = fct0 ∧ cspG F G = fct0 := by
 have e : cspE F G = 5 := (if_pos h).trans (if_neg (by rw [h']; decide))
 exact ⟨e, if_neg (by rw [e]; decide), if_neg (by rw [e]; decide)⟩
theorem csp_t {F G : Fct} (h : twoFE F G = 0) (h' : bP (F.T = G.T) = true) : cspE F G = 0 ∧ cspF F G = F ∧ cspG F G = G := by
 have e : cspE F G = 0 := (if_pos h).trans (if_pos h')
 exact ⟨e, if_pos e, if_pos e⟩
theorem csp_0 {F G : Fct} (h : cspE F G = 0) : CspP F G ∧ cspF F G = F ∧ cspG F G = G := by
 by_cases h1 : twoFE F G = 0
 ·cases h2 : bP (F.T = G.T) with
  | true => exact ⟨⟨isf_of (twoFE_0 h1).1, isf_of (twoFE_0 h1).2, bP_iff.1 h2⟩, if_pos h, if_pos h⟩
  | false => rw [(csp_5 h1 h2).1] at h; exact absurd h (by decide)
 ·rw [(csp_1 h1).1] at h; exact absurd h (by decide)
noncomputable def cmE (F G : Fct) : Int := if cspE F G = 0 then (if (obL F G).length ≤ 8 ∧ (arL F G (obL F G)).length ≤ 40 then 0 else 3) else cspE F G
noncomputable def cmFf (F G : Fct) : Fct := if cmE F G = 0 then F else fct0
noncomputable def cmG (F G : Fct) : Fct := if cmE F G = 0 then G else fct0
noncomputable def cmC (F G : Fct) : Cat := if cmE F G = 0 then commaM F G else cat0
noncomputable def cmO (F G : Fct) : List (Ent Int) := if cmE F G = 0 then obL F G else []
noncomputable def cmA (F G : Fct) : List (Ent (Int × Int)) := if cmE F G = 0 then arL F G (obL F G) else []
theorem cmx_n {F G : Fct} {n : Int} (e : cmE F G = n) (h : ¬ n = 0) : cmFf F G = fct0 ∧ cmG F G = fct0 ∧ cmC F G = cat0 ∧ cmO F G = [] ∧ cmA F G = [] ∧ cmE F G = n := by
 have h : ¬ cmE F G = 0 := by rw [e]; exact h
 exact ⟨if_neg h, if_neg h, if_neg h, if_neg h, if_neg h, e⟩
theorem cmx_t {F G : Fct} (h : cmE F G = 0) : cmFf F G = F ∧ cmG F G = G ∧ cmC F G = commaM F G ∧ cmO F G = obL F G ∧ cmA F G = arL F G (obL F G) ∧ cmE F G = 0 := ⟨if_pos h, if_pos h, if_pos h, if_pos h, if_pos h, h⟩
theorem cme_1 {F G : Fct} (h : ¬ cspE F G = 0) : cmE F G = cspE F G := if_neg h
theorem cme_3 {F G : Fct} (h : cspE F G = 0) (h' : ¬ ((obL F G).length ≤ 8 ∧ (arL F G (obL F G)).length ≤ 40)) : cmE F G = 3 := (if_pos h).trans (if_neg h')
theorem cme_t {F G : Fct} (h : cspE F G = 0) (h' : (obL F G).length ≤ 8 ∧ (arL F G (obL F G)).length ≤ 40) : cmE F G = 0 := (if_pos h).trans (if_pos h')
noncomputable def fCommaCategory (F G : Fct) : Cat × Int := (cmC F G, cmE F G)
theorem am_0 {α : Type} {m : Nat} {L : List α} (h : amC m L = 0) : L.length ≤ m ∧ amL m L = L := by
 by_cases hl : L.length ≤ m
 ·exact ⟨hl, (am_t hl).1⟩
 ·rw [(am_f hl).2] at h; exact absurd h (by decide)
theorem am_3 {α : Type} {m : Nat} {L : List α} (h : ¬ amC m L = 0) : ¬ L.length ≤ m ∧ amC m L = 3 := by
 by_cases hl : L.length ≤ m
 ·exact absurd (am_t hl).2 h
 ·exact ⟨hl, (am_f hl).2⟩
theorem arL_rng {F G : Fct} {os : List (Ent Int)} {e : Ent (Int × Int)} (h : e ∈ arL F G os) : (0 ≤ e.2.2.1 ∧ e.2.2.1 < F.S.s.length) ∧ 0 ≤ e.2.2.2 ∧ e.2.2.2 < G.S.s.length := by
 have := paL_mem.1 (arL_mem.1 h).2.2
 exact ⟨this.1.1, this.2.1.1⟩
set_option maxHeartbeats 2000000 in
set_option maxRecDepth 100000 in
theorem readCospan_any (w : World) (v : Value) (F : Fct) (u : Value) (G : Fct) (h : RdF w v F) (e : RdF w u G) :
  Calls Tryz.prog 80 #[v, u] w (RetCP w (cspF F G) (cspG F G) (cspE F G)) := by
 have h0 := h
 obtain ⟨vx1, vx2, vx3, vx4, vx5, vx6, vx7, vx8, vx9, vx10, vk1, vk2, vk3, vk4, vk5, vk6, vk7, vk8, vk9, vk10, rfl, h1, h2, h3, h4, h5, h6, h7, h8, h9, h10⟩ := h.lists
 have e0 := e
 obtain ⟨ux1, ux2, ux3, ux4, ux5, ux6, ux7, ux8, ux9, ux10, uk1, uk2, uk3, uk4, uk5, uk6, uk7, uk8, uk9, uk10, rfl, e1, e2, e3, e4, e5, e6, e7, e8, e9, e10⟩ := e.lists
 go_enter Tryz.func80, Tryz.ntmps80
 refine gc_enter (N := 30) rfl (look_cons (k := 0) rfl (look_cons (k := 1) rfl (look_nil _))) ?_
 refine gc_sr fun K1 hK1 => ?_
 refine gop fun K3 hK3 => ?_
 refine go_box rfl rfl rfl rfl rfl ?_
 intro B2
 refine hK3 _ _ ?_
 refine gop fun K5 hK5 => ?_
 refine go_box rfl rfl rfl rfl rfl ?_
 intro B4
 refine hK5 _ _ ?_
 refine gop fun K7 hK7 => ?_
 refine go_alloc (z := (.agg #[.int .i64 0, .slice none 0 0, .slice none 0 0, .slice none 0 0, .slice none 0 0, .int .i64 0, .slice none 0 0, .slice none 0 0, .slice none 0 0, .slice none 0 0, .slice none 0 0, .slice none 0 0, .int .i64 0, .slice none 0 0, .slice none 0 0, .slice none 0 0, .slice none 0 0, .int .i64 0, .slice none 0 0, .slice none 0 0, .slice none 0 0, .slice none 0 0, .slice none 0 0, .slice none 0 0])) (cs := [.int .i64 0, .slice none 0 0, .slice none 0 0, .slice none 0 0, .slice none 0 0, .int .i64 0, .slice none 0 0, .slice none 0 0, .slice none 0 0, .slice none 0 0, .slice none 0 0, .slice none 0 0, .int .i64 0, .slice none 0 0, .slice none 0 0, .slice none 0 0, .slice none 0 0, .int .i64 0, .slice none 0 0, .slice none 0 0, .slice none 0 0, .slice none 0 0, .slice none 0 0, .slice none 0 0]) rfl rfl rfl (fun w => by kernel_rfl) rfl ?_
 intro B6
 refine hK7 _ _ ?_
 refine gas ?_
 refine gnt (hK1 _ _ ?_)
 refine gc_sr fun K8 hK8 => ?_
 refine gv (qts Tryz.underlying31 (n := 0)) ?_
 refine gv (qts Tryz.underlying31 (n := 1)) ?_
 refine gop fun K10 hK10 => ?_
 refine go_callFFI rfl rfl rfl Tryz.func113 rfl (by decide) rfl (fun w M => readFunctors_any w _ _ (mem_rdF M h0) _ _ (mem_rdF M e0)) ?_
 intro fx1_9 fk1_9 fx2_9 fk2_9 fx3_9 fk3_9 fx4_9 fk4_9 fx5_9 fk5_9 fx6_9 fk6_9 fx7_9 fk7_9 fx8_9 fk8_9 fx9_9 fk9_9 fx10_9 fk10_9 us9 ut9 gy1_9 gj1_9 gy2_9 gj2_9 gy3_9 gj3_9 gy4_9 gj4_9 gy5_9 gj5_9 gy6_9 gj6_9 gy7_9 gj7_9 gy8_9 gj8_9 gy9_9 gj9_9 gy10_9 gj10_9 vs9 vt9
 refine hK10 _ _ ?_
 refine gm ?_
 refine gv (qt_extract rfl rfl rfl) ?_
 refine gv (qt_extract rfl rfl rfl) ?_
 refine gv (qt_extract rfl rfl rfl) ?_
 refine gop fun K12 hK12 => ?_
 refine go_alloc (z := (.agg #[.int .i64 0, .slice none 0 0, .slice none 0 0, .slice none 0 0, .slice none 0 0, .int .i64 0, .slice none 0 0, .slice none 0 0, .slice none 0 0, .slice none 0 0, .slice none 0 0, .slice none 0 0])) (cs := [.int .i64 0, .slice none 0 0, .slice none 0 0, .slice none 0 0, .slice none 0 0, .int .i64 0, .slice none 0 0, .slice none 0 0, .slice none 0 0, .slice none 0 0, .slice none 0 0, .slice none 0 0]) rfl rfl rfl (fun w => by kernel_rfl) rfl ?_
 intro B11
 refine hK12 _ _ ?_
 refine gop fun K14 hK14 => ?_
 refine go_alloc (z := (.agg #[.int .i64 0, .slice none 0 0, .slice none 0 0, .slice none 0 0, .slice none 0 0, .int .i64 0, .slice none 0 0, .slice none 0 0, .slice none 0 0, .slice none 0 0, .slice none 0 0, .slice none 0 0])) (cs := [.int .i64 0, .slice none 0 0, .slice none 0 0, .slice none 0 0, .slice none 0 0, .int .i64 0, .slice none 0 0, .slice none 0 0, .slice none 0 0, .slice none 0 0, .slice none 0 0, .slice none 0 0]) rfl rfl rfl (fun w => by kernel_rfl) rfl ?_
 intro B13
 refine hK14 _ _ ?_
 refine gop fun K15 hK15 => ?_
 refine go_storeS (n := 23) rfl rfl rfl rfl (by kernel_rfl) rfl rfl rfl ?_
 refine hK15 _ _ ?_
 refine gop fun K16 hK16 => ?_
 refine go_storeS (n := 24) rfl rfl rfl rfl (by kernel_rfl) rfl rfl rfl ?_
 refine hK16 _ _ ?_
 refine gas ?_
 refine gnt (hK8 _ _ ?_)
 refine gc_seq fun K17 hK17 => ?_
 refine gc_sr fun K18 hK18 => ?_
 refine gm ?_
 refine gv (qt_neq rfl rfl rfl) ?_
 refine gnt (hK18 _ _ ?_)
 refine gc_cond rfl (fun hc0 => ?_) (fun hc0 => ?_)
 ·try simp only [sA] at hc0
  refine gc_sr fun K19 hK19 => ?_
  refine gv (qt_build rfl rfl bt0_cospan) ?_
  refine gm ?_
  refine gop fun K20 hK20 => ?_
  refine go_storeS (n := 2) rfl rfl rfl rfl (by kernel_rfl) rfl rfl rfl ?_
  refine hK20 _ _ ?_
  refine gas ?_
  refine gnt (hK19 _ _ ?_)
  refine gc_ret ?_
  refine gk_then_ret ?_
  refine ret_SI (n := 2) rfl rfl rfl Tryz.underlying58 rfl (by kernel_rfl) rfl (fun w M => ?_)
  have hn := csp_1 hc0; rw [hn.1, hn.2.1, hn.2.2, (twoFE_n hc0).2]; exact retCP_zero M.1
 ·try simp only [sA] at hc0
  refine gc_skip ?_
  refine gk_then (hK17 _ _ ?_)
  refine gc_seq fun K21 hK21 => ?_
  refine gc_seq fun K22 hK22 => ?_
  have hQ := twoF_c hc0
  simp only [hQ.1, hQ.2]
  refine gc_region ?_
  refine gv (qtf Tryz.underlying31 (z := 4) (off := 5)) ?_
  refine gv (qt_loadP (n := 23) (z := 5) rfl rfl Tryz.underlying29 rfl (by kernel_rfl) rfl (by first | decide | exact Nat.le_refl _ | simp)) ?_
  refine gv (qtf Tryz.underlying31 (z := 4) (off := 5)) ?_
  refine gv (qt_loadP (n := 24) (z := 5) rfl rfl Tryz.underlying29 rfl (by kernel_rfl) rfl (by first | decide | exact Nat.le_refl _ | simp)) ?_
  refine g_q (.free rfl) rfl rfl (qt_call rfl Tryz.func114 rfl (by decide) rfl (fun w M => equals_any w _ _ (rdC_mk ((mem_own1 (n := 7) M rfl).rd) ((mem_own1 (n := 8) M rfl).rd) ((mem_own1 (n := 9) M rfl).rd) (mem_rdU (n := 10) M rfl)) _ _ (rdC_mk ((mem_own1 (n := 17) M rfl).rd) ((mem_own1 (n := 18) M rfl).rd) ((mem_own1 (n := 19) M rfl).rd) (mem_rdU (n := 20) M rfl)))) ?_
  refine gv (qt_not rfl rfl) ?_
  refine gnt (hK22 _ _ ?_)
  refine gc_cond rfl (fun hc1 => ?_) (fun hc1 => ?_)
  ·try simp only [sA] at hc1
   refine gc_sr fun K23 hK23 => ?_
   refine gv (qt_build rfl rfl bt0_cospan) ?_
   refine gop fun K24 hK24 => ?_
   refine go_storeS (n := 2) rfl rfl rfl rfl (by kernel_rfl) rfl rfl rfl ?_
   refine hK24 _ _ ?_
   refine gas ?_
   refine gnt (hK23 _ _ ?_)
   refine gc_ret ?_
   refine gk_then_ret ?_
   refine ret_SI (n := 2) rfl rfl rfl Tryz.underlying58 rfl (by kernel_rfl) rfl (fun w M => ?_)
   have hn := csp_5 hc0 hc1; rw [hn.1, hn.2.1, hn.2.2]; exact retCP_zero M.1
  ·try simp only [sA] at hc1
   refine gc_skip ?_
   refine gk_then (hK21 _ _ ?_)
   refine gc_sr fun K25 hK25 => ?_
   refine gv (qts Tryz.underlying31 (n := 23)) ?_
   refine gv (qts Tryz.underlying31 (n := 24)) ?_
   refine gv (qt_build rfl rfl bt_cospan) ?_
   refine gop fun K26 hK26 => ?_
   refine go_storeS (n := 2) rfl rfl rfl rfl (by kernel_rfl) rfl rfl rfl ?_
   refine hK26 _ _ ?_
   refine gas ?_
   refine gnt (hK25 _ _ ?_)
   refine gc_ret ?_
   refine ret_SI (n := 2) rfl rfl rfl Tryz.underlying58 rfl (by kernel_rfl) rfl (fun w M => ?_)
   try simp only [sL] at M
   have hn := csp_t hc0 hc1; rw [hn.1, hn.2.1, hn.2.2]; exact retCP_star (F := F) (G := G) (mem_block 3 20 (M))
set_option maxHeartbeats 2000000 in
set_option maxRecDepth 100000 in
theorem cmUnit_any (w : World) (B D x : Nat) {x1 x2 x3 x4 x5 x6 x7 x8 x9 x10 y1 y2 y3 y4 y5 y6 y7 y8 y9 y10 : Option Addr} {k1 k2 k3 k4 k5 k6 k7 k8 k9 k10 l1 l2 l3 l4 l5 l6 l7 l8 l9 l10 : Nat} (F G : Fct) (hC : CspR w F G x1 x2 x3 x4 x5 x6 x7 x8 x9 x10 y1 y2 y3 y4 y5 y6 y7 y8 y9 y10 k1 k2 k3 k4 k5 k6 k7 k8 k9 k10 l1 l2 l3 l4 l5 l6 l7 l8 l9 l10) (hP : CspP F G) (hx : x < (obL F G).length) (hbB : BxV w B 58 (.agg #[.int .i64 F.S.ob, .slice x1 F.S.s.length k1, .slice x2 F.S.t.length k2, .slice x3 F.S.e.length k3, .slice x4 F.S.m.length k4, .int .i64 F.T.ob, .slice x5 F.T.s.length k5, .slice x6 F.T.t.length k6, .slice x7 F.T.e.length k7, .slice x8 F.T.m.length k8, .slice x9 F.o.length k9, .slice x10 F.a.length k10, .int .i64 G.S.ob, .slice y1 G.S.s.length l1, .slice y2 G.S.t.length l2, .slice y3 G.S.e.length l3, .slice y4 G.S.m.length l4, .int .i64 G.T.ob, .slice y5 G.T.s.length l5, .slice y6 G.T.t.length l6, .slice y7 G.T.e.length l7, .slice y8 G.T.m.length l8, .slice y9 G.o.length l9, .slice y10 G.a.length l10])) (oa : Option Addr) (oq : Nat) (hbD : BxV w D 59 (.agg #[.slice oa (obL F G).length oq])) (hO : RdE0 lab_co w (.slice oa (obL F G).length oq) (obL F G)) :
  Calls Tryz.prog 85 #[.int .i64 ((x : Int)), .pointer (some ⟨B, 0, none⟩), .pointer (some ⟨D, 0, none⟩)] w (RetV w (.agg #[.int .i64 (cmU F G x).1, .int .i64 (cmU F G x).2])) := by
 have fS := (isCat_of hP.f.cs).toShapeP; have fT := (isCat_of hP.f.ct).toShapeP; have gS := (isCat_of hP.g.cs).toShapeP
 have fo := hP.f.lo; have fa := hP.f.la; have go := hP.g.lo; have ga := hP.g.la
 have s8 := fS.ob8; have s0 := fS.ob0; have g8 := gS.ob8; have g0 := gS.ob0; have n1 := fS.n40; have n2 := gS.n40; have n3 := fT.n40
 have hob := obP_at (F := F) (G := G) (x := (x : Int)) (by omega) (by omega)
 have ha0 := hob.1.1; have ha1 := hob.1.2; have hb0 := hob.2.1.1; have hb1 := hob.2.1.2
 have fe := fS.el; have ge := gS.el
 go_enter Tryz.func85, Tryz.ntmps85
 refine gc_enter (N := 28) rfl (look_cons (k := 0) rfl (look_cons (k := 1) rfl (look_cons (k := 2) rfl (look_nil _)))) ?_
 refine gc_sr fun K1 hK1 => ?_
 refine gop fun K3 hK3 => ?_
 refine go_alloc (z := (.agg #[.int .i64 0, .int .i64 0])) (cs := [.int .i64 0, .int .i64 0]) rfl rfl rfl (fun w => by kernel_rfl) rfl ?_
 intro B2
 refine hK3 _ _ ?_
 refine gnt (hK1 _ _ ?_)
 refine gc_seq fun K4 hK4 => ?_
 try simp only [sL]
 refine ga_start _ (fun w M => mem_erase 0 (M)) ?_
 refine gav 0 rfl (qtf Tryz.underlying58 (z := 11) (off := 0)) ?_
 refine gav 1 rfl (qtf Tryz.underlying31 (z := 4) (off := 0)) ?_
 refine gav 2 rfl (qtf Tryz.underlying29 (z := 0) (off := 3)) ?_
 refine gav 3 rfl (qt_loadRB hbB rfl rfl Tryz.underlying22 rfl rfl) ?_
 refine gav 4 rfl (qt_loadRB hbD rfl rfl Tryz.underlying59 rfl rfl) ?_
 refine gav 5 rfl (qt_move rfl rfl) ?_
 refine gav 6 rfl (qt_indexE0 lab_co rfl rfl rfl rfl (fun w M => lenA_E0 (mem_rdE0 M hO)) (by omega) (by omega)) ?_
 refine gav 7 rfl (qt_fieldQ lab_co (z := 0) (off := 0) rfl rfl Tryz.underlying67 rfl (by kernel_rfl) rfl (fun w M => lenA_E0 (mem_rdE0 M hO)) (by omega) (by omega)) ?_
 refine gav 8 rfl (qt_loadQ lab_co rfl rfl Tryz.underlying2 rfl (fun w M => mem_rdE0 M hO) (by omega) (by omega) rfl) ?_
 refine gav 9 rfl (qti (fun w M => lenA_rd hC.FSe)) ?_
 refine gav 10 rfl (qtd (fun w M => mem_rd M hC.FSe)) ?_
 refine gav 11 rfl (qtf Tryz.underlying58 (z := 11) (off := 12)) ?_
 refine gav 12 rfl (qtf Tryz.underlying31 (z := 4) (off := 0)) ?_
 refine gav 13 rfl (qtf Tryz.underlying29 (z := 0) (off := 3)) ?_
 refine gav 14 rfl (qt_loadRB hbB rfl rfl Tryz.underlying22 rfl rfl) ?_
 refine gav 15 rfl (qt_loadRB hbD rfl rfl Tryz.underlying59 rfl rfl) ?_
 refine gav 16 rfl (qt_move rfl rfl) ?_
 refine gav 17 rfl (qt_indexE0 lab_co rfl rfl rfl rfl (fun w M => lenA_E0 (mem_rdE0 M hO)) (by omega) (by omega)) ?_
 refine gav 18 rfl (qt_fieldQ lab_co (z := 0) (off := 1) rfl rfl Tryz.underlying67 rfl (by kernel_rfl) rfl (fun w M => lenA_E0 (mem_rdE0 M hO)) (by omega) (by omega)) ?_
 refine gav 19 rfl (qt_loadQ lab_co rfl rfl Tryz.underlying2 rfl (fun w M => mem_rdE0 M hO) (by omega) (by omega) rfl) ?_
 refine gav 20 rfl (qti (fun w M => lenA_rd hC.GSe)) ?_
 refine gav 21 rfl (qtd (fun w M => mem_rd M hC.GSe)) ?_
 refine gav 22 rfl (qt_build rfl rfl bt_arrowPair) ?_
 refine gao 23 fun K5 hK5 => ?_
 refine go_storeS (n := 0) rfl rfl rfl rfl (by kernel_rfl) rfl rfl rfl ?_
 refine hK5 _ _ (fun w M => (mem_erase 0 (mem_take 1 M) :)) ?_
 refine ga_done (by kernel_rfl) ?_
 refine gk_then (hK4 _ _ ?_)
 refine gc_ret ?_
 refine ret_S (n := 0) rfl rfl Tryz.underlying110 rfl (by kernel_rfl) rfl (fun w M => ?_)
 exact ⟨rfl, M.1⟩
set_option maxHeartbeats 8000000 in
set_option maxRecDepth 100000 in
theorem commaOf_any (w : World) (v : Value) (F : Fct) (u : Value) (G : Fct) (h : RdF w v F) (e : RdF w u G) :
  Calls Tryz.prog 42 #[v, u] w (RetCS w (cmFf F G) (cmG F G) (cmC F G) (cmO F G) (cmA F G) (cmE F G)) := by
 have h0 := h
 obtain ⟨vx1, vx2, vx3, vx4, vx5, vx6, vx7, vx8, vx9, vx10, vk1, vk2, vk3, vk4, vk5, vk6, vk7, vk8, vk9, vk10, rfl, h1, h2, h3, h4, h5, h6, h7, h8, h9, h10⟩ := h.lists
 have e0 := e
 obtain ⟨ux1, ux2, ux3, ux4, ux5, ux6, ux7, ux8, ux9, ux10, uk1, uk2, uk3, uk4, uk5, uk6, uk7, uk8, uk9, uk10, rfl, e1, e2, e3, e4, e5, e6, e7, e8, e9, e10⟩ := e.lists
 go_enter Tryz.func42, Tryz.ntmps42
 refine gc_enter (N := 77) rfl (look_cons (k := 0) rfl (look_cons (k := 1) rfl (look_nil _))) ?_
 refine gc_sr fun K1 hK1 => ?_
 refine gop fun K3 hK3 => ?_
 refine go_box rfl rfl rfl rfl rfl ?_
 intro B2
 refine hK3 _ _ ?_
 refine gop fun K5 hK5 => ?_
 refine go_box rfl rfl rfl rfl rfl ?_
 intro B4
 refine hK5 _ _ ?_
 refine gop fun K7 hK7 => ?_
 refine go_alloc (z := (.agg #[.int .i64 0, .slice none 0 0, .slice none 0 0, .slice none 0 0, .slice none 0 0, .int .i64 0, .slice none 0 0, .slice none 0 0, .slice none 0 0, .slice none 0 0, .slice none 0 0, .slice none 0 0, .int .i64 0, .slice none 0 0, .slice none 0 0, .slice none 0 0, .slice none 0 0, .int .i64 0, .slice none 0 0, .slice none 0 0, .slice none 0 0, .slice none 0 0, .slice none 0 0, .slice none 0 0, .int .i64 0, .slice none 0 0, .slice none 0 0, .slice none 0 0, .slice none 0 0, .slice none 0 0, .slice none 0 0])) (cs := [.int .i64 0, .slice none 0 0, .slice none 0 0, .slice none 0 0, .slice none 0 0, .int .i64 0, .slice none 0 0, .slice none 0 0, .slice none 0 0, .slice none 0 0, .slice none 0 0, .slice none 0 0, .int .i64 0, .slice none 0 0, .slice none 0 0, .slice none 0 0, .slice none 0 0, .int .i64 0, .slice none 0 0, .slice none 0 0, .slice none 0 0, .slice none 0 0, .slice none 0 0, .slice none 0 0, .int .i64 0, .slice none 0 0, .slice none 0 0, .slice none 0 0, .slice none 0 0, .slice none 0 0, .slice none 0 0]) rfl rfl rfl (fun w => by kernel_rfl) rfl ?_
 intro B6
 refine hK7 _ _ ?_
 refine gas ?_
 refine gnt (hK1 _ _ ?_)
 refine gc_sr fun K8 hK8 => ?_
 refine gv (qts Tryz.underlying31 (n := 0)) ?_
 refine gv (qts Tryz.underlying31 (n := 1)) ?_
 refine gop fun K10 hK10 => ?_
 refine go_callCP rfl rfl rfl Tryz.func80 rfl (by decide) rfl (fun w M => readCospan_any w _ _ _ _ (mem_rdF M h0) (mem_rdF M e0)) ?_
 intro x1 k1 x2 k2 x3 k3 x4 k4 x5 k5 x6 k6 x7 k7 x8 k8 x9 k9 x10 k10 y1 l1 y2 l2 y3 l3 y4 l4 y5 l5 y6 l6 y7 l7 y8 l8 y9 l9 y10 l10 pu9 pv9 pw9 pz9
 refine hK10 _ _ ?_
 refine gm ?_
 refine gv (qt_extract rfl rfl rfl) ?_
 refine gv (qt_extract rfl rfl rfl) ?_
 refine gop fun K12 hK12 => ?_
 refine go_alloc (z := (.agg #[.int .i64 0, .slice none 0 0, .slice none 0 0, .slice none 0 0, .slice none 0 0, .int .i64 0, .slice none 0 0, .slice none 0 0, .slice none 0 0, .slice none 0 0, .slice none 0 0, .slice none 0 0, .int .i64 0, .slice none 0 0, .slice none 0 0, .slice none 0 0, .slice none 0 0, .int .i64 0, .slice none 0 0, .slice none 0 0, .slice none 0 0, .slice none 0 0, .slice none 0 0, .slice none 0 0])) (cs := [.int .i64 0, .slice none 0 0, .slice none 0 0, .slice none 0 0, .slice none 0 0, .int .i64 0, .slice none 0 0, .slice none 0 0, .slice none 0 0, .slice none 0 0, .slice none 0 0, .slice none 0 0, .int .i64 0, .slice none 0 0, .slice none 0 0, .slice none 0 0, .slice none 0 0, .int .i64 0, .slice none 0 0, .slice none 0 0, .slice none 0 0, .slice none 0 0, .slice none 0 0, .slice none 0 0]) rfl rfl rfl (fun w => by kernel_rfl) rfl ?_
 intro B11
 refine hK12 _ _ ?_
 refine gop fun K13 hK13 => ?_
 refine go_storeS (n := 4) rfl rfl rfl rfl (by kernel_rfl) rfl rfl rfl ?_
 refine hK13 _ _ ?_
 refine gas ?_
 refine gnt (hK8 _ _ ?_)
 refine gc_seq fun K14 hK14 => ?_
 refine gc_sr fun K15 hK15 => ?_
 refine gm ?_
 refine gv (qt_neq rfl rfl rfl) ?_
 refine gnt (hK15 _ _ ?_)
 refine gc_cond rfl (fun hc0 => ?_) (fun hc0 => ?_)
 ·try simp only [sA] at hc0
  refine gc_sr fun K16 hK16 => ?_
  refine gv (qt_build rfl rfl bt0_commaSpace) ?_
  refine gm ?_
  refine gop fun K17 hK17 => ?_
  refine go_storeS (n := 2) rfl rfl rfl rfl (by kernel_rfl) rfl rfl rfl ?_
  refine hK17 _ _ ?_
  refine gas ?_
  refine gnt (hK16 _ _ ?_)
  refine gc_ret ?_
  refine gk_then_ret ?_
  refine ret_SI (n := 2) rfl rfl rfl Tryz.underlying62 rfl (by kernel_rfl) rfl (fun w M => ?_)
  have hn := cmx_n (cme_1 hc0) hc0; rw [hn.1, hn.2.1, hn.2.2.1, hn.2.2.2.1, hn.2.2.2.2.1, hn.2.2.2.2.2]; exact retCS_zero M.1
 ·try simp only [sA] at hc0
  refine gc_skip ?_
  refine gk_then (hK14 _ _ ?_)
  refine gc_seq fun K18 hK18 => ?_
  have hq := csp_0 hc0
  have hP := hq.1
  simp only [hq.2.1, hq.2.2]
  have fS := (isCat_of hP.f.cs).toShapeP; have fT := (isCat_of hP.f.ct).toShapeP; have gS := (isCat_of hP.g.cs).toShapeP
  have fo := hP.f.lo; have fa := hP.f.la; have go := hP.g.lo; have ga := hP.g.la
  have s8 := fS.ob8; have s0 := fS.ob0; have g8 := gS.ob8; have g0 := gS.ob0; have n1 := fS.n40; have n2 := gS.n40; have n3 := fT.n40
  have hos : ∀ k : Nat, k < (obL F G).length → 0 ≤ (atE (obL F G) (k : Int)).2.2 ∧ (atE (obL F G) (k : Int)).2.2 < F.T.s.length := fun k hk => (obP_at (x := (k : Int)) (by omega) (by omega)).2.2.1
  refine gc_region ?_
  refine gv (qts Tryz.underlying58 (n := 4)) ?_
  refine gop fun K20 hK20 => ?_
  refine go_callCl1 rfl rfl rfl Tryz.func82 rfl (by decide) rfl (fun w M => allObj_any w F G (csp_get csp_pack M (n := 3) rfl)) ?_
  intro B19
  refine hK20 _ _ ?_
  refine gop fun K22 hK22 => ?_
  refine go_callIt (σ := Option Addr × Nat) (V := fun s => .tuple #[.slice s.1 (amL 8 (obL F G)).length s.2, .int .i64 (amC 8 (obL F G))]) (New := fun s => [ownEI0 lab_co (.slice s.1 (amL 8 (obL F G)).length s.2) (amL 8 (obL F G))]) (B := [_, _]) [5, 3] rfl rfl rfl Tryz.func81 rfl (by decide) rfl rfl (fun R w M => atMostO _ w _ _ [_] 8 (by omega) _ (seqC_pack (allOb_seq csp_pack hP)) _ Tryz.func115 rfl (by decide) R M) ?_
  intro so
  refine hK22 _ _ ?_
  refine gm ?_
  refine gv (qt_extract rfl rfl rfl) ?_
  refine gv (qt_extract rfl rfl rfl) ?_
  refine gop fun K24 hK24 => ?_
  refine go_alloc (z := (.slice none 0 0)) (cs := [.slice none 0 0]) rfl rfl rfl (fun w => by kernel_rfl) rfl ?_
  intro B23
  refine hK24 _ _ ?_
  refine gop fun K25 hK25 => ?_
  refine go_storeB (n := 7) rfl rfl rfl rfl (by kernel_rfl) rfl rfl rfl (by first | decide | simp) ?_
  refine hK25 _ _ ?_
  refine gas ?_
  refine gnt (hK18 _ _ ?_)
  refine gc_seq fun K26 hK26 => ?_
  refine gc_sr fun K27 hK27 => ?_
  refine gm ?_
  refine gv (qt_neq rfl rfl rfl) ?_
  refine gnt (hK27 _ _ ?_)
  refine gc_cond rfl (fun hc1 => ?_) (fun hc1 => ?_)
  ·try simp only [sA] at hc1
   refine gc_sr fun K28 hK28 => ?_
   refine gv (qt_build rfl rfl bt0_commaSpace) ?_
   refine gm ?_
   refine gop fun K29 hK29 => ?_
   refine go_storeS (n := 2) rfl rfl rfl rfl (by kernel_rfl) rfl rfl rfl ?_
   refine hK29 _ _ ?_
   refine gas ?_
   refine gnt (hK28 _ _ ?_)
   refine gc_ret ?_
   refine gk_then_ret ?_
   refine ret_SI (n := 2) rfl rfl rfl Tryz.underlying62 rfl (by kernel_rfl) rfl (fun w M => ?_)
   have hn := cmx_n (cme_3 hc0 (fun hh => (am_3 hc1).1 hh.1)) (by decide); rw [hn.1, hn.2.1, hn.2.2.1, hn.2.2.2.1, hn.2.2.2.2.1, hn.2.2.2.2.2, (am_3 hc1).2]; exact retCS_zero M.1
  ·try simp only [sA] at hc1
   refine gc_skip ?_
   refine gk_then (hK26 _ _ ?_)
   refine gc_seq fun K30 hK30 => ?_
   have h8 := am_0 hc1
   simp only [h8.2]
   have h8 := h8.1
   have hll := obL_len (F := F) (G := G) (by omega) (by omega) n3
   refine gc_region ?_
   refine gv (qts Tryz.underlying58 (n := 4)) ?_
   refine gv (qtl Tryz.underlying59 (n := 7)) ?_
   refine gop fun K32 hK32 => ?_
   refine go_callCl2 rfl rfl rfl Tryz.func84 rfl (by decide) rfl (fun w M => arrAm_any w F G (csp_get csp_pack M (n := 3) rfl) _ _ _) ?_
   intro B31 D31
   refine hK32 _ _ ?_
   refine gop fun K34 hK34 => ?_
   refine go_callIt (σ := Option Addr × Nat) (V := fun s => .tuple #[.slice s.1 (amL 40 (arL F G (obL F G))).length s.2, .int .i64 (amC 40 (arL F G (obL F G)))]) (New := fun s => [ownEI0 lab_ca (.slice s.1 (amL 40 (arL F G (obL F G))).length s.2) (amL 40 (arL F G (obL F G)))]) (B := [_, _, _, _]) [8, 8, 3, 5] rfl rfl rfl Tryz.func83 rfl (by decide) rfl rfl (fun R w M => atMostA _ w _ _ [_, _] 40 (by omega) _ (seqC_pack (arrows_seq csp_pack hP (by omega) hos)) _ Tryz.func117 rfl (by decide) R M) ?_
   intro sr
   refine hK34 _ _ ?_
   refine gm ?_
   refine gv (qt_extract rfl rfl rfl) ?_
   refine gv (qt_extract rfl rfl rfl) ?_
   refine gas ?_
   refine gas ?_
   refine gnt (hK30 _ _ ?_)
   refine gc_seq fun K35 hK35 => ?_
   refine gc_sr fun K36 hK36 => ?_
   refine gm ?_
   refine gv (qt_neq rfl rfl rfl) ?_
   refine gnt (hK36 _ _ ?_)
   refine gc_cond rfl (fun hc2 => ?_) (fun hc2 => ?_)
   ·try simp only [sA] at hc2
    refine gc_sr fun K37 hK37 => ?_
    refine gv (qt_build rfl rfl bt0_commaSpace) ?_
    refine gm ?_
    refine gop fun K38 hK38 => ?_
    refine go_storeS (n := 2) rfl rfl rfl rfl (by kernel_rfl) rfl rfl rfl ?_
    refine hK38 _ _ ?_
    refine gas ?_
    refine gnt (hK37 _ _ ?_)
    refine gc_ret ?_
    refine gk_then_ret ?_
    refine ret_SI (n := 2) rfl rfl rfl Tryz.underlying62 rfl (by kernel_rfl) rfl (fun w M => ?_)
    have hn := cmx_n (cme_3 hc0 (fun hh => (am_3 hc2).1 hh.2)) (by decide); rw [hn.1, hn.2.1, hn.2.2.1, hn.2.2.2.1, hn.2.2.2.2.1, hn.2.2.2.2.2, (am_3 hc2).2]; exact retCS_zero M.1
   ·try simp only [sA] at hc2
    refine gc_skip ?_
    refine gk_then (hK35 _ _ ?_)
    refine gc_seq fun K39 hK39 => ?_
    have h40 := am_0 hc2
    simp only [h40.2]
    have h40 := h40.1
    refine gc_region ?_
    refine gv (qtl Tryz.underlying59 (n := 7)) ?_
    refine gv (qt_len rfl rfl (lab_ul0 lab_co) (fun w M => lenV_E0 (mem_ownE0 (n := 6) M rfl))) ?_
    refine gv (qt_makeF rfl rfl) ?_
    refine gv (qts Tryz.underlying58 (n := 4)) ?_
    refine gv (qt_makeFBc rfl rfl) ?_
    refine gv (qt_build rfl rfl bt023_plan_pairOf_int64_int64) ?_
    refine gop fun K41 hK41 => ?_
    refine go_alloc (z := (.agg #[.int .i64 0, .slice none 0 0, .nilFunc, .nilFunc])) (cs := [.int .i64 0, .slice none 0 0, .nilFunc, .nilFunc]) rfl rfl rfl (fun w => by kernel_rfl) rfl ?_
    intro B40
    refine hK41 _ _ ?_
    refine gop fun K42 hK42 => ?_
    refine go_storeS (n := 11) rfl rfl rfl rfl (by kernel_rfl) rfl rfl rfl ?_
    refine hK42 _ _ ?_
    refine gnt (hK39 _ _ ?_)
    refine gc_seq fun K43 hK43 => ?_
    refine gc_sr fun K44 hK44 => ?_
    refine gm ?_
    refine gv (qt_len rfl rfl (lab_ul0 lab_ca) (fun w M => lenV_E0 (mem_ownE0 (n := 10) M rfl))) ?_
    refine gm ?_
    refine gnt (hK44 _ _ ?_)
    refine gc_block ?_
    refine gc_nilE lab_pair ?_
    try simp only [sL]
    refine gc_loopT ([(0, _), (1, _), (2, _), (3, _), (4, _), (5, _), (6, _), (7, _), (8, _), (9, _), (10, _), (22, _), (32, _), (43, _), (52, _), (53, _)] : Env) (fun s : Nat × (Option Addr) × Nat => (fun (k : Nat) (a : Option Addr) (q : Nat) => (([(54, .int .i64 (k : Int))] : Env), ([(11, bxI B40 115 [.int .i64 (((obL F G).length : Nat) : Int), .slice a ((arL F G (obL F G)).take k).length q, .func (.func 85) #[] #[.pointer (some ⟨B11, 0, none⟩), .pointer (some ⟨B23, 0, none⟩)], .func (.func 86) #[.agg #[.int .i64 F.S.ob, .slice x1 F.S.s.length k1, .slice x2 F.S.t.length k2, .slice x3 F.S.e.length k3, .slice x4 F.S.m.length k4, .int .i64 F.T.ob, .slice x5 F.T.s.length k5, .slice x6 F.T.t.length k6, .slice x7 F.T.e.length k7, .slice x8 F.T.m.length k8, .slice x9 F.o.length k9, .slice x10 F.a.length k10, .int .i64 G.S.ob, .slice y1 G.S.s.length l1, .slice y2 G.S.t.length l2, .slice y3 G.S.e.length l3, .slice y4 G.S.m.length l4, .int .i64 G.T.ob, .slice y5 G.T.s.length l5, .slice y6 G.T.t.length l6, .slice y7 G.T.e.length l7, .slice y8 G.T.m.length l8, .slice y9 G.o.length l9, .slice y10 G.a.length l10]] #[]]), (12, ownEI lab_pair (.slice a ((arL F G (obL F G)).take k).length q) ((arL F G (obL F G)).take k))] : List (Nat × Itm)), k ≤ (arL F G (obL F G)).length, (arL F G (obL F G)).length - k)) s.1 s.2.1 s.2.2) (0, _, _) (by repeat first | exact sub_nil | refine sub_cons rfl ?_) rfl (Nat.zero_le _) ?_
    rintro ⟨k, a, q⟩ hinv KL45 hKL45
    simp only [sU, sL] at hinv hKL45 ⊢
    have hk := hinv
    have htk : ((arL F G (obL F G)).take k).length ≤ 40 := by rw [List.length_take]; omega
    refine gc_sr fun K46 hK46 => ?_
    refine gv (qt_lss rfl rfl rfl) ?_
    refine gnt (hK46 _ _ ?_)
    refine gc_seq fun K47 hK47 => ?_
    refine gc_cond rfl (fun hc3 => ?_) (fun hc3 => ?_)
    ·try simp only [sA] at hc3
     refine gc_skip ?_
     refine gk_then (hK47 _ _ ?_)
     refine gc_seq fun K48 hK48 => ?_
     refine gc_block ?_
     refine gc_sr fun K49 hK49 => ?_
     refine gv (qt_indexE0 lab_ca rfl rfl rfl rfl (fun w M => lenA_E0 (mem_ownE0 (n := 10) M rfl)) (by omega) (by omega)) ?_
     refine gv (qt_load_ca rfl rfl rfl (fun w M => mem_ownE0 (n := 10) M rfl) (by omega) (by omega)) ?_
     refine gop fun K51 hK51 => ?_
     refine go_alloc (z := (.agg #[.int .i64 0, .int .i64 0, .int .i64 0, .int .i64 0])) (cs := [.int .i64 0, .int .i64 0, .int .i64 0, .int .i64 0]) rfl rfl rfl (fun w => by kernel_rfl) rfl ?_
     intro B50
     refine hK51 _ _ ?_
     refine gop fun K52 hK52 => ?_
     refine go_storeS (n := 13) rfl rfl rfl rfl (by kernel_rfl) rfl rfl rfl ?_
     refine hK52 _ _ ?_
     refine gnt (hK49 _ _ ?_)
     refine gc_region ?_
     refine gv (qtf Tryz.underlying74 (z := 1) (off := 0)) ?_
     refine gv (qt_loadP (n := 13) (z := 2) rfl rfl Tryz.underlying72 rfl (by kernel_rfl) rfl (by first | decide | exact Nat.le_refl _ | simp)) ?_
     refine gv (qtf Tryz.underlying74 (z := 0) (off := 2)) ?_
     refine gv (qtl Tryz.underlying2 (n := 13)) ?_
     refine gv (qtf Tryz.underlying74 (z := 0) (off := 3)) ?_
     refine gv (qtl Tryz.underlying2 (n := 13)) ?_
     refine gv (qt_build rfl rfl bt_arrowPair) ?_
     refine gop fun K54 hK54 => ?_
     refine go_two (n := 11) (m := 12) (m' := 11) (σ := Option Addr × Nat) rfl rfl rfl Tryz.func87 rfl (by decide) rfl rfl rfl (fun z => rfl) (fun R w M => add_pair _ w R _ _ _ _ (atE (arL F G (obL F G)) (k : Int)).2.2 _ _ _ _ _ (by omega) M) ?_
     intro ⟨sa53, sq53⟩
     refine hK54 _ _ ?_
     refine g_nil ?_
     refine gk_block ?_
     refine gk_then (hK48 _ _ ?_)
     refine gc_region ?_
     refine gv (qt_add rfl rfl rfl (by omega)) ?_
     refine gm ?_
     refine g_nil ?_
     simp only [show (arL F G (obL F G)).take k ++ [((atE (arL F G (obL F G)) (k : Int)).1, (atE (arL F G (obL F G)) (k : Int)).2.1, (atE (arL F G (obL F G)) (k : Int)).2.2)] = (arL F G (obL F G)).take (k + 1) from takeE_succ (by omega)]
     refine gk_then (gk_take 13 ?_)
     refine gk_sub ?hs_55 (hKL45 (k + 1, _, _) ?hi_55 ?hm_55)
     case hs_55 => repeat first | exact sub_nil | refine sub_cons rfl ?_
     case hi_55 => omega
     case hm_55 => omega
    ·try simp only [sA] at hc3
     refine gc_exit ?_
     refine gk_then_exit ?_
     refine gk_then_exit ?_
     refine gk_block_hit ?_
     refine gk_then (hK43 _ _ ?_)
     refine gc_seq fun K56 hK56 => ?_
     obtain rfl : k = (arL F G (obL F G)).length := by omega
     simp only [List.take_length]
     refine gc_region ?_
     refine gv (qts Tryz.underlying115 (n := 11)) ?_
     refine gop fun K58 hK58 => ?_
     refine go_callCI rfl rfl rfl Tryz.func88 rfl (by decide) rfl (fun w M => build_pairV w (((obL F G).length : Nat) : Int) _ (arL F G (obL F G)) (mem_ownE (n := 12) M rfl) (arL_nodup F G _) (by omega) _ (cmU F G) (fun w' hb x hx => callsV_f (bnd := []) (vs := [_]) (caps := [_, _]) Tryz.func85 rfl (by decide) (cmUnit_any w' _ _ x F G (csp_below hb (csp_get csp_pack M (n := 3) rfl)) hP (by omega) (bxV_below hb (bxV_of (n := 4) M rfl)) _ _ (bxV_below hb (bxV_of (n := 7) M rfl)) (rdE_below0 hb (mem_ownE0 (n := 6) M rfl)))) _ (cmT F G) (fun w' hb f hf g hg hj => callsV_f (bnd := [_]) (vs := [_, _]) (caps := []) Tryz.func86 rfl (by decide) (thenParts_any w' F G (csp_below hb (csp_get csp_pack M (n := 3) rfl)) hP f.2.2 g.2.2 (arL_rng hf).1.1 (arL_rng hf).1.2 (arL_rng hf).2.1 (arL_rng hf).2.2 (arL_rng hg).1.1 (arL_rng hg).1.2 (arL_rng hg).2.1 (arL_rng hg).2.2))) ?_
     intro ca57 cb57 cc57 cd57 ce57 cf57 cg57 ch57 cu57
     refine hK58 _ _ ?_
     refine gm ?_
     refine gv (qt_extract rfl rfl rfl) ?_
     refine gv (qt_extract rfl rfl rfl) ?_
     refine gop fun K60 hK60 => ?_
     refine go_alloc (z := (.agg #[.int .i64 0, .slice none 0 0, .slice none 0 0, .slice none 0 0, .slice none 0 0])) (cs := [.int .i64 0, .slice none 0 0, .slice none 0 0, .slice none 0 0, .slice none 0 0]) rfl rfl rfl (fun w => by kernel_rfl) rfl ?_
     intro B59
     refine hK60 _ _ ?_
     refine gop fun K61 hK61 => ?_
     refine go_storeS (n := 17) rfl rfl rfl rfl (by kernel_rfl) rfl rfl rfl ?_
     refine hK61 _ _ ?_
     refine gas ?_
     refine gnt (hK56 _ _ ?_)
     refine gc_seq fun K62 hK62 => ?_
     have hmd := (madeE_t (n := (((obL F G).length : Nat) : Int)) (es := arL F G (obL F G)) (u := cmU F G) (th := cmT F G) (by omega) h40).1
     rw [show buildE (((obL F G).length : Nat) : Int) (arL F G (obL F G)) (cmU F G) (cmT F G) = commaM F G from rfl] at hmd
     simp only [hmd]
     refine gc_region ?_
     refine gv (qts Tryz.underlying58 (n := 4)) ?_
     refine gv (qts Tryz.underlying29 (n := 17)) ?_
     refine gv (qtl Tryz.underlying59 (n := 7)) ?_
     refine gm ?_
     refine gv (qt_build rfl rfl bt_commaSpace) ?_
     refine gop fun K63 hK63 => ?_
     refine go_storeS (n := 2) rfl rfl rfl rfl (by kernel_rfl) rfl rfl rfl ?_
     refine hK63 _ _ ?_
     refine gas ?_
     refine gnt (hK62 _ _ ?_)
     refine gc_ret ?_
     refine ret_SI (n := 2) rfl rfl rfl Tryz.underlying62 rfl (by kernel_rfl) rfl (fun w M => ?_)
     have hn := cmx_t (cme_t hc0 ⟨h8, h40⟩)
     rw [hn.1, hn.2.1, hn.2.2.1, hn.2.2.2.1, hn.2.2.2.2.1, hn.2.2.2.2.2]
     exact retCS_star (cpk_out (mem_pick (n := 9) (mem_pick (n := 11) (mem_pick (n := 16) (mem_pick (n := 16) (mem_pick (n := 16) (mem_pick (n := 16) (mem_pick (n := 10) (M) rfl) rfl) rfl) rfl) rfl) rfl) rfl))
end Go.Proofs.YtpcabkdkdnchaaaGreat
set_option linter.unusedSimpArgs false
set_option linter.unusedVariables false
set_option linter.unusedSectionVars false
namespace Go.Proofs.YtpcabkdkdnchaaaGreat
open Go.RowKit
section
variable {w0 : World} {is : List Itm} {ops : Array Oper} {Q : Exit → Act → World → Prop} {o : Oper} {rest : List Oper} {N : Frm} {e : Env} {v : Value} {d : Nat} {K : Act → World → Prop}
theorem go_slice3I {t : TypeId} {x0 x1 x2 : Operand} {y0 y1 y2 : Int} (hd : o.dst = some d) (hN : Nat.blt d N = true) (hop : o.op = .buildSlice t 3 #[(0, x0), (1, x1), (2, x2)]) (h0 : evo e x0 = some (.int .i64 y0)) (h1 : evo e x1 = some (.int .i64 y1)) (h2 : evo e x2 = some (.int .i64 y2)) (ht : Tryz.prog.underlying t = some (.slice 2))
    (hk : ∀ B : Nat, GK w0 (is ++ [own1I (.slice (some ⟨B, 0, none⟩) 3 3) [y0, y1, y2]]) N K ((d, .slice (some ⟨B, 0, none⟩) 3 3) :: e)) : GO w0 is N o e Q K := by
  intro w ac M F
  refine go_val (v := .slice (some ⟨w.heap.size, 0, none⟩) 3 3) (w' := w.alloc (.cells #[.int .i64 y0, .int .i64 y1, .int .i64 y2] 2)) hd hN F ?_ fun ac F => hk _ _ ac (mem_row (xs := [y0, y1, y2]) M (by simp)) F
  intro ρ F
  have h0 := F _ _ h0; have h1 := F _ _ h1; have h2 := F _ _ h2
  obtain ⟨i, hi, hz, hs, hb⟩ := info_parts info64
  have hr : Array.range 3 = #[0, 1, 2] := by apply Array.toList_inj.1; simp [List.range_succ]
  simp [execOp, hop, h0, h1, h2, Instr.buildSlice, run_underlying ht, sizeOf, typeInfo, hi, hs, Instr.fill, newRow, zeroValue, hz, Value.cells, Sem.run_bind, hr]
theorem go_slice4I {t : TypeId} {x0 x1 x2 x3 : Operand} {y0 y1 y2 y3 : Int} (hd : o.dst = some d) (hN : Nat.blt d N = true) (hop : o.op = .buildSlice t 4 #[(0, x0), (1, x1), (2, x2), (3, x3)]) (h0 : evo e x0 = some (.int .i64 y0)) (h1 : evo e x1 = some (.int .i64 y1)) (h2 : evo e x2 = some (.int .i64 y2)) (h3 : evo e x3 = some (.int .i64 y3)) (ht : Tryz.prog.underlying t = some (.slice 2))
    (hk : ∀ B : Nat, GK w0 (is ++ [own1I (.slice (some ⟨B, 0, none⟩) 4 4) [y0, y1, y2, y3]]) N K ((d, .slice (some ⟨B, 0, none⟩) 4 4) :: e)) : GO w0 is N o e Q K := by
  intro w ac M F
  refine go_val (v := .slice (some ⟨w.heap.size, 0, none⟩) 4 4) (w' := w.alloc (.cells #[.int .i64 y0, .int .i64 y1, .int .i64 y2, .int .i64 y3] 2)) hd hN F ?_ fun ac F => hk _ _ ac (mem_row (xs := [y0, y1, y2, y3]) M (by simp)) F
  intro ρ F
  have h0 := F _ _ h0; have h1 := F _ _ h1; have h2 := F _ _ h2; have h3 := F _ _ h3
  obtain ⟨i, hi, hz, hs, hb⟩ := info_parts info64
  have hr : Array.range 4 = #[0, 1, 2, 3] := by apply Array.toList_inj.1; simp [List.range_succ]
  simp [execOp, hop, h0, h1, h2, h3, Instr.buildSlice, run_underlying ht, sizeOf, typeInfo, hi, hs, Instr.fill, newRow, zeroValue, hz, Value.cells, Sem.run_bind, hr]
end
end Go.Proofs.YtpcabkdkdnchaaaGreat
set_option linter.unusedSimpArgs false
set_option linter.unusedVariables false
set_option linter.unusedSectionVars false
namespace Go.Proofs.YtpcabkdkdnchaaaGreat
open Go.RowKit
theorem mapE_succ {α β : Type} [Inhabited α] {f : Ent α → β} {es : List (Ent α)} {k : Nat} (h : k < es.length) : (es.take k).map f ++ [f (atE es (k : Int))] = (es.take (k + 1)).map f := by
 rw [List.take_succ_eq_append_getElem h, ← atE_eq h, List.map_append]; rfl
theorem cmE_0 {F G : Fct} (h : cmE F G = 0) : (obL F G).length ≤ 8 ∧ (arL F G (obL F G)).length ≤ 40 := by
 by_cases h1 : cspE F G = 0
 ·by_cases h2 : (obL F G).length ≤ 8 ∧ (arL F G (obL F G)).length ≤ 40
  ·exact h2
  ·rw [cme_3 h1 h2] at h; exact absurd h (by decide)
 ·rw [cme_1 h1] at h; exact absurd h h1
theorem cmO_len (F G : Fct) : (cmO F G).length ≤ 1000 := by
 by_cases h : cmE F G = 0
 ·rw [(cmx_t h).2.2.2.1]; have := (cmE_0 h).1; omega
 ·rw [(cmx_n rfl h).2.2.2.1]; simp
theorem cmA_len (F G : Fct) : (cmA F G).length ≤ 1000 := by
 by_cases h : cmE F G = 0
 ·rw [(cmx_t h).2.2.2.2.1]; have := (cmE_0 h).2; omega
 ·rw [(cmx_n rfl h).2.2.2.2.1]; simp
set_option maxHeartbeats 1000000 in
set_option maxRecDepth 100000 in
theorem impl_CommaCategory (w : World) (v : Value) (F : Fct) (u : Value) (G : Fct) (h : RdF w v F) (e : RdF w u G) :
  Calls Tryz.prog 59 #[v, u] w (RetCI w (fCommaCategory F G).1 (fCommaCategory F G).2) := by
 have h0 := h
 obtain ⟨vx1, vx2, vx3, vx4, vx5, vx6, vx7, vx8, vx9, vx10, vk1, vk2, vk3, vk4, vk5, vk6, vk7, vk8, vk9, vk10, rfl, h1, h2, h3, h4, h5, h6, h7, h8, h9, h10⟩ := h.lists
 have e0 := e
 obtain ⟨ux1, ux2, ux3, ux4, ux5, ux6, ux7, ux8, ux9, ux10, uk1, uk2, uk3, uk4, uk5, uk6, uk7, uk8, uk9, uk10, rfl, e1, e2, e3, e4, e5, e6, e7, e8, e9, e10⟩ := e.lists
 go_enter Tryz.func59, Tryz.ntmps59
 refine gc_enter (N := 17) rfl (look_cons (k := 0) rfl (look_cons (k := 1) rfl (look_nil _))) ?_
 refine gc_sr fun K1 hK1 => ?_
 refine gop fun K3 hK3 => ?_
 refine go_box rfl rfl rfl rfl rfl ?_
 intro B2
 refine hK3 _ _ ?_
 refine gop fun K5 hK5 => ?_
 refine go_box rfl rfl rfl rfl rfl ?_
 intro B4
 refine hK5 _ _ ?_
 refine gop fun K7 hK7 => ?_
 refine go_alloc (z := (.agg #[.int .i64 0, .slice none 0 0, .slice none 0 0, .slice none 0 0, .slice none 0 0])) (cs := [.int .i64 0, .slice none 0 0, .slice none 0 0, .slice none 0 0, .slice none 0 0]) rfl rfl rfl (fun w => by kernel_rfl) rfl ?_
 intro B6
 refine hK7 _ _ ?_
 refine gas ?_
 refine gnt (hK1 _ _ ?_)
 refine gc_sr fun K8 hK8 => ?_
 refine gv (qts Tryz.underlying31 (n := 0)) ?_
 refine gv (qts Tryz.underlying31 (n := 1)) ?_
 refine gop fun K10 hK10 => ?_
 refine go_callCS rfl rfl rfl Tryz.func42 rfl (by decide) rfl (fun w M => commaOf_any w _ _ _ _ (mem_rdF M h0) (mem_rdF M e0)) ?_
 intro px1_9 pk1_9 px2_9 pk2_9 px3_9 pk3_9 px4_9 pk4_9 px5_9 pk5_9 px6_9 pk6_9 px7_9 pk7_9 px8_9 pk8_9 px9_9 pk9_9 px10_9 pk10_9 py1_9 pl1_9 py2_9 pl2_9 py3_9 pl3_9 py4_9 pl4_9 py5_9 pl5_9 py6_9 pl6_9 py7_9 pl7_9 py8_9 pl8_9 py9_9 pl9_9 py10_9 pl10_9 pc1_9 pd1_9 pc2_9 pd2_9 pc3_9 pd3_9 pc4_9 pd4_9 oa9 oq9 ra9 rq9 pu9 pv9 pw9 pz9 pp9
 refine hK10 _ _ ?_
 refine gm ?_
 refine gv (qt_extract rfl rfl rfl) ?_
 refine gv (qt_extract rfl rfl rfl) ?_
 refine gop fun K12 hK12 => ?_
 refine go_alloc (z := (.agg #[.int .i64 0, .slice none 0 0, .slice none 0 0, .slice none 0 0, .slice none 0 0, .int .i64 0, .slice none 0 0, .slice none 0 0, .slice none 0 0, .slice none 0 0, .slice none 0 0, .slice none 0 0, .int .i64 0, .slice none 0 0, .slice none 0 0, .slice none 0 0, .slice none 0 0, .int .i64 0, .slice none 0 0, .slice none 0 0, .slice none 0 0, .slice none 0 0, .slice none 0 0, .slice none 0 0, .int .i64 0, .slice none 0 0, .slice none 0 0, .slice none 0 0, .slice none 0 0, .slice none 0 0, .slice none 0 0])) (cs := [.int .i64 0, .slice none 0 0, .slice none 0 0, .slice none 0 0, .slice none 0 0, .int .i64 0, .slice none 0 0, .slice none 0 0, .slice none 0 0, .slice none 0 0, .slice none 0 0, .slice none 0 0, .int .i64 0, .slice none 0 0, .slice none 0 0, .slice none 0 0, .slice none 0 0, .int .i64 0, .slice none 0 0, .slice none 0 0, .slice none 0 0, .slice none 0 0, .slice none 0 0, .slice none 0 0, .int .i64 0, .slice none 0 0, .slice none 0 0, .slice none 0 0, .slice none 0 0, .slice none 0 0, .slice none 0 0]) rfl rfl rfl (fun w => by kernel_rfl) rfl ?_
 intro B11
 refine hK12 _ _ ?_
 refine gop fun K13 hK13 => ?_
 refine go_storeS (n := 29) rfl rfl rfl rfl (by kernel_rfl) rfl rfl rfl ?_
 refine hK13 _ _ ?_
 refine gas ?_
 refine gnt (hK8 _ _ ?_)
 refine gc_sr fun K14 hK14 => ?_
 refine gv (qtf Tryz.underlying62 (z := 4) (off := 24)) ?_
 refine gv (qt_loadP (n := 29) (z := 5) rfl rfl Tryz.underlying29 rfl (by kernel_rfl) rfl (by first | decide | exact Nat.le_refl _ | simp)) ?_
 refine gm ?_
 refine gop fun K15 hK15 => ?_
 refine go_storeS (n := 2) rfl rfl rfl rfl (by kernel_rfl) rfl rfl rfl ?_
 refine hK15 _ _ ?_
 refine gas ?_
 refine gnt (hK14 _ _ ?_)
 refine gc_ret ?_
 refine ret_SI (n := 2) rfl rfl rfl Tryz.underlying29 rfl (by kernel_rfl) rfl (fun w M => ?_)
 exact ⟨_, rfl, ownC_star (mem_pick (n := 27) (mem_pick (n := 27) (mem_pick (n := 27) (mem_pick (n := 27) (M) rfl) rfl) rfl) rfl).2, M.1⟩
end Go.Proofs.YtpcabkdkdnchaaaGreat
