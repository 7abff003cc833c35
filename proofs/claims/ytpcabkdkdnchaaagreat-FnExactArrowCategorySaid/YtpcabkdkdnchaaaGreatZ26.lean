import Derived.Test.YtpcabkdkdnchaaaGreatZ25
set_option linter.unusedSimpArgs false
set_option linter.unusedVariables false
set_option linter.unusedSectionVars false
namespace Go.Proofs.YtpcabkdkdnchaaaGreat
open Go.RowKit
noncomputable def spcF (F G : Fct) : Cat := spcC ((obL F G).map row3).length ((arL F G (obL F G)).map row4) F.S G.S (colR ((obL F G).map row3) 0) (colR ((obL F G).map row3) 1)
theorem spcF_hx {F G : Fct} (hP : CspP F G) : ∀ x : Nat, x < ((obL F G).map row3).length → (x < (colR ((obL F G).map row3) 0).length ∧ 0 ≤ at0 (colR ((obL F G).map row3) 0) (x : Int) ∧ at0 (colR ((obL F G).map row3) 0) (x : Int) < F.S.ob) ∧ (x < (colR ((obL F G).map row3) 1).length ∧ 0 ≤ at0 (colR ((obL F G).map row3) 1) (x : Int) ∧ at0 (colR ((obL F G).map row3) 1) (x : Int) < G.S.ob) := fun x hx0 => by
 have hx : x < (obL F G).length := by rw [List.length_map] at hx0; exact hx0
 have ho := obP_at (F := F) (G := G) (x := (x : Int)) (by omega) (by omega)
 have fo := hP.f.lo; have go := hP.g.lo
 have hl : x < (((obL F G).map row3)).length := by rw [List.length_map]; exact hx
 rw [colR_len, colR_len, colR_at hl, colR_at hl, row2_map hx]
 have e0 : at0 (row3 (atE (obL F G) (x : Int))) 0 = (atE (obL F G) (x : Int)).1 := rfl
 have e1 : at0 (row3 (atE (obL F G) (x : Int))) 1 = (atE (obL F G) (x : Int)).2.1 := rfl
 rw [e0, e1]
 exact ⟨⟨hl, ho.1.1, by omega⟩, hl, ho.2.1.1, by omega⟩
theorem spcF_hr {F G : Fct} : ∀ i : Nat, i < ((arL F G (obL F G)).map row4).length → (row2 ((arL F G (obL F G)).map row4) (i : Int)).length = 4 ∧ (0 ≤ at0 (row2 ((arL F G (obL F G)).map row4) (i : Int)) 2 ∧ at0 (row2 ((arL F G (obL F G)).map row4) (i : Int)) 2 < F.S.s.length) ∧ (0 ≤ at0 (row2 ((arL F G (obL F G)).map row4) (i : Int)) 3 ∧ at0 (row2 ((arL F G (obL F G)).map row4) (i : Int)) 3 < G.S.s.length) := fun i hi => by
 rw [List.length_map] at hi
 rw [row2_map hi]
 have := arL_rng (atE_mem hi)
 exact ⟨rfl, this.1, this.2⟩
theorem spcF_fit {F G : Fct} : FitP (spcF F G) ↔ ((obL F G).length : Int) ≤ 8 ∧ (arL F G (obL F G)).length ≤ 40 := by
 unfold spcF
 have := spcC_fit ((obL F G).map row3).length ((arL F G (obL F G)).map row4) F.S G.S (colR ((obL F G).map row3) 0) (colR ((obL F G).map row3) 1) (spcC ((obL F G).map row3).length ((arL F G (obL F G)).map row4) F.S G.S (colR ((obL F G).map row3) 0) (colR ((obL F G).map row3) 1)).m (spcC ((obL F G).map row3).length ((arL F G (obL F G)).map row4) F.S G.S (colR ((obL F G).map row3) 0) (colR ((obL F G).map row3) 1)).e
 rw [List.length_map, List.length_map] at this; rw [List.length_map]; exact this
theorem spcF_t {F G : Fct} (hP : CspP F G) (hf : FitP (spcF F G)) : spcF F G = commaM F G := by
 unfold spcF; rw [List.length_map]; exact spc_comma hP (spcF_fit.1 hf)
theorem cm_rows3 {F G : Fct} {k : Int} (hk : k < 3) : ∀ i : Nat, i < ((obL F G).map row3).length → k < (row2 ((obL F G).map row3) (i : Int)).length := fun i hi => by
 rw [List.length_map] at hi
 rw [row2_map hi]; exact hk
set_option maxHeartbeats 8000000 in
set_option maxRecDepth 100000 in
theorem specComma_any (w : World) (v : Value) (F : Fct) (u : Value) (G : Fct) (h : RdF w v F) (e : RdF w u G) (hP : CspP F G) :
  Calls Tryz.prog 76 #[v, u] w (RetCRR w (spcF F G) ((obL F G).map row3) ((arL F G (obL F G)).map row4)) := by
 have h0 := h
 obtain ⟨vx1, vx2, vx3, vx4, vx5, vx6, vx7, vx8, vx9, vx10, vk1, vk2, vk3, vk4, vk5, vk6, vk7, vk8, vk9, vk10, rfl, h1, h2, h3, h4, h5, h6, h7, h8, h9, h10⟩ := h.lists
 have e0 := e
 obtain ⟨ux1, ux2, ux3, ux4, ux5, ux6, ux7, ux8, ux9, ux10, uk1, uk2, uk3, uk4, uk5, uk6, uk7, uk8, uk9, uk10, rfl, e1, e2, e3, e4, e5, e6, e7, e8, e9, e10⟩ := e.lists
 have fS := (isCat_of hP.f.cs).toShapeP; have fT := (isCat_of hP.f.ct).toShapeP; have gS := (isCat_of hP.g.cs).toShapeP
 have fo := hP.f.lo; have fa := hP.f.la; have go := hP.g.lo; have ga := hP.g.la
 have s8 := fS.ob8; have s0 := fS.ob0; have g8 := gS.ob8; have g0 := gS.ob0; have n1 := fS.n40; have n2 := gS.n40; have n3 := fT.n40
 have hos : ∀ k : Nat, k < (obL F G).length → 0 ≤ (atE (obL F G) (k : Int)).2.2 ∧ (atE (obL F G) (k : Int)).2.2 < F.T.s.length := fun k hk => (obP_at (x := (k : Int)) (by omega) (by omega)).2.2.1
 have hoL := obL_len (F := F) (G := G) (by omega) (by omega) n3
 have hlm : ((obL F G).map row3).length = (obL F G).length := List.length_map ..
 have hla : ((arL F G (obL F G)).map row4).length ≤ 10485760000 := by rw [List.length_map]; exact Nat.le_trans (arL_len (m := 2560) hoL n1 n2) (by omega)
 go_enter Tryz.func76, Tryz.ntmps76
 refine gc_enter (N := 30) rfl (look_cons (k := 0) rfl (look_cons (k := 1) rfl (look_nil _))) ?_
 refine gc_sr fun K1 hK1 => ?_
 refine gop fun K3 hK3 => ?_
 refine go_box rfl rfl rfl rfl rfl ?_
 intro B2
 refine hK3 _ _ ?_
 refine gop fun K5 hK5 => ?_
 refine go_box rfl rfl rfl rfl rfl ?_
 intro B4
 refine hK5 _ _ ?_
 refine gop fun K7 hK7 => ?_
 refine go_alloc (z := (.agg #[.int .i64 0, .slice none 0 0, .slice none 0 0, .slice none 0 0, .slice none 0 0])) (cs := [.int .i64 0, .slice none 0 0, .slice none 0 0, .slice none 0 0, .slice none 0 0]) rfl rfl rfl (fun w => by kernel_rfl) rfl ?_
 intro B6
 refine hK7 _ _ ?_
 refine gas ?_
 refine gas ?_
 refine gnt (hK1 _ _ ?_)
 refine gc_sr fun K8 hK8 => ?_
 refine gv (qts Tryz.underlying31 (n := 0)) ?_
 refine gv (qts Tryz.underlying31 (n := 1)) ?_
 refine gop fun K10 hK10 => ?_
 refine go_callR rfl rfl rfl Tryz.func75 rfl (by decide) rfl (fun w M => specObs_any w _ _ _ _ (mem_rdF M h0) (mem_rdF M e0) (hP.f) (hP.g)) ?_
 intro va9 vc9 us9
 refine hK10 _ _ ?_
 refine gas ?_
 refine gnt (hK8 _ _ ?_)
 refine gc_sr fun K11 hK11 => ?_
 refine gv (qts Tryz.underlying31 (n := 0)) ?_
 refine gv (qts Tryz.underlying31 (n := 1)) ?_
 refine gm ?_
 refine gop fun K13 hK13 => ?_
 refine go_callR rfl rfl rfl Tryz.func102 rfl (by decide) rfl (fun w M => specArr_any w _ _ _ _ (mem_rdF M h0) (mem_rdF M e0) (hP.f) (hP.g) (hP.t) _ (obL F G) (mem_rdU (n := 3) M rfl) (by omega) (hos)) ?_
 intro va12 vc12 us12
 refine hK13 _ _ ?_
 refine gas ?_
 refine gnt (hK11 _ _ ?_)
 refine gc_seq fun K14 hK14 => ?_
 try simp only [sL]
 refine gc_cut ([(0, _), (1, _), (2, _), (3, _), (4, _), (7, _), (8, _)] : Env) (fun s : (Option Addr) × (Option Addr) × (Option Addr) × (Option Addr) × Nat × Nat × Nat × Nat × (List Value) => (fun (zz1 : Option Addr) (zz2 : Option Addr) (zz3 : Option Addr) (zz4 : Option Addr) (mm1 : Nat) (mm2 : Nat) (mm3 : Nat) (mm4 : Nat) (zp : List Value) => ([(5, .slice va9 ((obL F G).map row3).length vc9), (6, .slice va12 ((arL F G (obL F G)).map row4).length vc12)] : Env)) s.1 s.2.1 s.2.2.1 s.2.2.2.1 s.2.2.2.2.1 s.2.2.2.2.2.1 s.2.2.2.2.2.2.1 s.2.2.2.2.2.2.2.1 s.2.2.2.2.2.2.2.2) (fun s : (Option Addr) × (Option Addr) × (Option Addr) × (Option Addr) × Nat × Nat × Nat × Nat × (List Value) => (fun (zz1 : Option Addr) (zz2 : Option Addr) (zz3 : Option Addr) (zz4 : Option Addr) (mm1 : Nat) (mm2 : Nat) (mm3 : Nat) (mm4 : Nat) (zp : List Value) => ([(2, bxI B6 29 [.int .i64 (spcF F G).ob, .slice zz1 (spcF F G).s.length mm1, .slice zz2 (spcF F G).t.length mm2, .slice zz3 (spcF F G).e.length mm3, .slice zz4 (spcF F G).m.length mm4])] : List (Nat × Itm))) s.1 s.2.1 s.2.2.1 s.2.2.2.1 s.2.2.2.2.1 s.2.2.2.2.2.1 s.2.2.2.2.2.2.1 s.2.2.2.2.2.2.2.1 s.2.2.2.2.2.2.2.2) (fun s : (Option Addr) × (Option Addr) × (Option Addr) × (Option Addr) × Nat × Nat × Nat × Nat × (List Value) => (fun (zz1 : Option Addr) (zz2 : Option Addr) (zz3 : Option Addr) (zz4 : Option Addr) (mm1 : Nat) (mm2 : Nat) (mm3 : Nat) (mm4 : Nat) (zp : List Value) => ([own1I (.slice zz1 (spcF F G).s.length mm1) (spcF F G).s, own1I (.slice zz2 (spcF F G).t.length mm2) (spcF F G).t, own1I (.slice zz3 (spcF F G).e.length mm3) (spcF F G).e, own2U (.slice zz4 (spcF F G).m.length mm4) zp (spcF F G).m] : List Itm)) s.1 s.2.1 s.2.2.1 s.2.2.2.1 s.2.2.2.2.1 s.2.2.2.2.2.1 s.2.2.2.2.2.2.1 s.2.2.2.2.2.2.2.1 s.2.2.2.2.2.2.2.2) (by repeat first | exact sub_nil | refine sub_cons rfl ?_) ?_ (fun HJ15 => ?_)
 ·rintro ⟨zz1, zz2, zz3, zz4, mm1, mm2, mm3, mm4, zp⟩
  simp only [sU, sL]
  refine gk_then (hK14 _ _ ?_)
  refine gc_ret ?_
  refine ret_ST (n := 2) rfl rfl rfl rfl Tryz.underlying29 rfl (by kernel_rfl) rfl (fun w M => ?_)
  exact retCRR_star (mem_pick (n := 8) (mem_pick (n := 8) (mem_pick (n := 8) (mem_pick (n := 8) (mem_pick (n := 4) (mem_pick (n := 4) (M) rfl) rfl) rfl) rfl) rfl) rfl)
 simp only [sU, sL] at HJ15
 refine ga_start _ (fun w M => mem_erase 2 (M)) ?_
 refine gav 0 rfl (qt_move rfl rfl) ?_
 refine gav 1 rfl (qt_len rfl rfl ulE2 (fun w M => lenV_U (n := 2) rfl M)) ?_
 refine gav 2 rfl (qt_move rfl rfl) ?_
 refine gav 3 rfl (qtf Tryz.underlying31 (z := 4) (off := 0)) ?_
 refine gav 4 rfl (qt_loadP (n := 0) (z := 5) rfl rfl Tryz.underlying29 rfl (by kernel_rfl) rfl (by first | decide | exact Nat.le_refl _ | simp)) ?_
 refine gav 5 rfl (qtf Tryz.underlying31 (z := 4) (off := 0)) ?_
 refine gav 6 rfl (qt_loadP (n := 1) (z := 5) rfl rfl Tryz.underlying29 rfl (by kernel_rfl) rfl (by first | decide | exact Nat.le_refl _ | simp)) ?_
 refine gav 7 rfl (qt_move rfl rfl) ?_
 refine gav 9 rfl (qt_move rfl rfl) ?_
 refine gav 12 rfl (qt_move rfl rfl) ?_
 refine gav 13 rfl (qt_move rfl rfl) ?_
 refine gao 8 fun K17 hK17 => ?_
 refine go_callL rfl rfl rfl Tryz.func40 rfl (by decide) rfl (fun w M => specCol_any w _ ((obL F G).map row3) (0) (mem_rdU (n := 3) M rfl) (by decide) (cm_rows3 (by decide))) ?_
 intro va16 vc16
 refine hK17 _ _ (fun w M => (mem_erase 2 (mem_take 5 M) :)) ?_
 refine gao 10 fun K19 hK19 => ?_
 refine go_callL rfl rfl rfl Tryz.func40 rfl (by decide) rfl (fun w M => specCol_any w _ ((obL F G).map row3) (1) (mem_rdU (n := 3) M rfl) (by decide) (cm_rows3 (by decide))) ?_
 intro va18 vc18
 refine hK19 _ _ (fun w M => (mem_erase 2 (mem_take 5 M) :)) ?_
 refine gao 11 fun K21 hK21 => ?_
 refine go_callC rfl rfl rfl Tryz.func111 rfl (by decide) rfl (fun w M => specBuild_any w ((obL F G).map row3).length (by omega) _ _ (mem_rdU (n := 4) M rfl) (hla) _ _ (rdC_mk (mem_rd M h1) (mem_rd M h2) (mem_rd M h3) (mem_rd2 M h4)) _ _ (rdC_mk (mem_rd M e1) (mem_rd M e2) (mem_rd M e3) (mem_rd2 M e4)) _ _ ((mem_own1 (n := 5) M rfl).rd) _ _ ((mem_own1 (n := 6) M rfl).rd) (fS) (gS) (spcF_hx hP) (spcF_hr)) ?_
 intro ca20 cb20 cc20 cd20 ce20 cf20 cg20 ch20 cu20
 refine hK21 _ _ (fun w M => (mem_erase 2 (mem_take 5 M) :)) ?_
 refine gao 14 fun K22 hK22 => ?_
 refine go_storeS (n := 2) rfl rfl rfl rfl (by kernel_rfl) rfl rfl rfl ?_
 refine hK22 _ _ (fun w M => (mem_erase 2 (mem_take 5 M) :)) ?_
 refine gav 15 rfl (qt_assign rfl rfl) ?_
 refine gav 16 rfl (qt_assign rfl rfl) ?_
 refine ga_done (by kernel_rfl) ?_
 try simp only [sL]
 refine gk_pickL [0, 0, 0, 0, 0, 2, 2, 2, 2] ?_
 refine gk_sub ?hs_23 (HJ15 (_, _, _, _, _, _, _, _, _))
 case hs_23 => repeat first | exact sub_nil | refine sub_cons rfl ?_
set_option maxHeartbeats 4000000 in
set_option maxRecDepth 100000 in
theorem specCode_any (w : World) (v : Value) (F : Fct) (u : Value) (G : Fct) (h : RdF w v F) (e : RdF w u G) :
  Calls Tryz.prog 38 #[v, u] w (RetCRRI w (cmC F G) ((cmO F G).map row3) ((cmA F G).map row4) (cmE F G)) := by
 have h0 := h
 obtain ⟨vx1, vx2, vx3, vx4, vx5, vx6, vx7, vx8, vx9, vx10, vk1, vk2, vk3, vk4, vk5, vk6, vk7, vk8, vk9, vk10, rfl, h1, h2, h3, h4, h5, h6, h7, h8, h9, h10⟩ := h.lists
 have e0 := e
 obtain ⟨ux1, ux2, ux3, ux4, ux5, ux6, ux7, ux8, ux9, ux10, uk1, uk2, uk3, uk4, uk5, uk6, uk7, uk8, uk9, uk10, rfl, e1, e2, e3, e4, e5, e6, e7, e8, e9, e10⟩ := e.lists
 go_enter Tryz.func38, Tryz.ntmps38
 refine gc_enter (N := 46) rfl (look_cons (k := 0) rfl (look_cons (k := 1) rfl (look_nil _))) ?_
 refine gc_sr fun K1 hK1 => ?_
 refine gop fun K3 hK3 => ?_
 refine go_box rfl rfl rfl rfl rfl ?_
 intro B2
 refine hK3 _ _ ?_
 refine gop fun K5 hK5 => ?_
 refine go_box rfl rfl rfl rfl rfl ?_
 intro B4
 refine hK5 _ _ ?_
 refine gop fun K7 hK7 => ?_
 refine go_alloc (z := (.agg #[.int .i64 0, .slice none 0 0, .slice none 0 0, .slice none 0 0, .slice none 0 0])) (cs := [.int .i64 0, .slice none 0 0, .slice none 0 0, .slice none 0 0, .slice none 0 0]) rfl rfl rfl (fun w => by kernel_rfl) rfl ?_
 intro B6
 refine hK7 _ _ ?_
 refine gas ?_
 refine gas ?_
 refine gas ?_
 refine gnt (hK1 _ _ ?_)
 refine gc_seq fun K8 hK8 => ?_
 refine gc_sr fun K9 hK9 => ?_
 refine gv (qts Tryz.underlying31 (n := 0)) ?_
 refine gv (qts Tryz.underlying31 (n := 1)) ?_
 refine g_q (.free rfl) rfl rfl (qt_call rfl Tryz.func73 rfl (by decide) rfl (fun w M => specTwoF_any w _ _ (mem_rdF M h0) _ _ (mem_rdF M e0))) ?_
 refine gas ?_
 refine gnt (hK9 _ _ ?_)
 refine gc_sr fun K10 hK10 => ?_
 refine gm ?_
 refine gv (qt_neq rfl rfl rfl) ?_
 refine gnt (hK10 _ _ ?_)
 refine gc_cond rfl (fun hc0 => ?_) (fun hc0 => ?_)
 ·try simp only [sA] at hc0
  refine gc_sr fun K11 hK11 => ?_
  refine gv (qt_build rfl rfl bt0_Category) ?_
  refine gm ?_
  refine gop fun K12 hK12 => ?_
  refine go_storeS (n := 2) rfl rfl rfl rfl (by kernel_rfl) rfl rfl rfl ?_
  refine hK12 _ _ ?_
  refine gas ?_
  refine gas ?_
  refine gas ?_
  refine gnt (hK11 _ _ ?_)
  refine gc_ret ?_
  refine gk_then_ret ?_
  refine ret_SQ (n := 2) rfl rfl rfl rfl rfl Tryz.underlying29 rfl (by kernel_rfl) rfl (fun w M => ?_)
  have hn := cmx_n (n := 1) ((cme_1 (by rw [(csp_1 hc0).1]; decide)).trans (csp_1 hc0).1) (by decide); rw [hn.2.2.1, hn.2.2.2.1, hn.2.2.2.2.1, hn.2.2.2.2.2, (twoFE_n hc0).2]; exact retCRRI_zero M.1
 ·try simp only [sA] at hc0
  refine gc_skip ?_
  refine gk_then (hK8 _ _ ?_)
  refine gc_seq fun K13 hK13 => ?_
  refine gc_sr fun K14 hK14 => ?_
  refine gv (qtf Tryz.underlying31 (z := 4) (off := 5)) ?_
  refine gv (qt_loadP (n := 0) (z := 5) rfl rfl Tryz.underlying29 rfl (by kernel_rfl) rfl (by first | decide | exact Nat.le_refl _ | simp)) ?_
  refine gv (qtf Tryz.underlying31 (z := 4) (off := 5)) ?_
  refine gv (qt_loadP (n := 1) (z := 5) rfl rfl Tryz.underlying29 rfl (by kernel_rfl) rfl (by first | decide | exact Nat.le_refl _ | simp)) ?_
  refine g_q (.free rfl) rfl rfl (qt_call rfl Tryz.func74 rfl (by decide) rfl (fun w M => specSameC_any w _ _ (rdC_mk (mem_rd M h5) (mem_rd M h6) (mem_rd M h7) (mem_rd2 M h8)) _ _ (rdC_mk (mem_rd M e5) (mem_rd M e6) (mem_rd M e7) (mem_rd2 M e8)))) ?_
  refine gv (qt_not rfl rfl) ?_
  refine gnt (hK14 _ _ ?_)
  refine gc_cond rfl (fun hc1 => ?_) (fun hc1 => ?_)
  ·try simp only [sA] at hc1
   refine gc_sr fun K15 hK15 => ?_
   refine gv (qt_build rfl rfl bt0_Category) ?_
   refine gop fun K16 hK16 => ?_
   refine go_storeS (n := 2) rfl rfl rfl rfl (by kernel_rfl) rfl rfl rfl ?_
   refine hK16 _ _ ?_
   refine gas ?_
   refine gas ?_
   refine gas ?_
   refine gnt (hK15 _ _ ?_)
   refine gc_ret ?_
   refine gk_then_ret ?_
   refine ret_SQ (n := 2) rfl rfl rfl rfl rfl Tryz.underlying29 rfl (by kernel_rfl) rfl (fun w M => ?_)
   have hn := cmx_n (n := 5) ((cme_1 (by rw [(csp_5 hc0 hc1).1]; decide)).trans (csp_5 hc0 hc1).1) (by decide); rw [hn.2.2.1, hn.2.2.2.1, hn.2.2.2.2.1, hn.2.2.2.2.2]; exact retCRRI_zero M.1
  ·try simp only [sA] at hc1
   refine gc_skip ?_
   refine gk_then (hK13 _ _ ?_)
   refine gc_seq fun K17 hK17 => ?_
   refine gc_seq fun K18 hK18 => ?_
   have hq := csp_t hc0 hc1
   have hP := (csp_0 hq.1).1
   have fS := (isCat_of hP.f.cs).toShapeP; have fT := (isCat_of hP.f.ct).toShapeP; have gS := (isCat_of hP.g.cs).toShapeP
   have fo := hP.f.lo; have fa := hP.f.la; have go := hP.g.lo; have ga := hP.g.la
   have s8 := fS.ob8; have s0 := fS.ob0; have g8 := gS.ob8; have g0 := gS.ob0; have n1 := fS.n40; have n2 := gS.n40; have n3 := fT.n40
   have hlm : ((obL F G).map row3).length = (obL F G).length := List.length_map ..
   refine gc_region ?_
   refine gv (qts Tryz.underlying31 (n := 0)) ?_
   refine gv (qts Tryz.underlying31 (n := 1)) ?_
   refine gop fun K20 hK20 => ?_
   refine go_callR rfl rfl rfl Tryz.func75 rfl (by decide) rfl (fun w M => specObs_any w _ _ _ _ (mem_rdF M h0) (mem_rdF M e0) (hP.f) (hP.g)) ?_
   intro va19 vc19 us19
   refine hK20 _ _ ?_
   refine gv (qt_len rfl rfl ulE2 (fun w M => lenV_U (n := 3) rfl M)) ?_
   refine gv (qt_gtr rfl rfl rfl) ?_
   refine gnt (hK18 _ _ ?_)
   refine gc_cond rfl (fun hc2 => ?_) (fun hc2 => ?_)
   ·try simp only [sA] at hc2
    refine gc_sr fun K21 hK21 => ?_
    refine gv (qt_build rfl rfl bt0_Category) ?_
    refine gop fun K22 hK22 => ?_
    refine go_storeS (n := 2) rfl rfl rfl rfl (by kernel_rfl) rfl rfl rfl ?_
    refine hK22 _ _ ?_
    refine gas ?_
    refine gas ?_
    refine gas ?_
    refine gnt (hK21 _ _ ?_)
    refine gc_ret ?_
    refine gk_then_ret ?_
    refine ret_SQ (n := 2) rfl rfl rfl rfl rfl Tryz.underlying29 rfl (by kernel_rfl) rfl (fun w M => ?_)
    have hn := cmx_n (cme_3 hq.1 (fun hh => by omega)) (by decide); rw [hn.2.2.1, hn.2.2.2.1, hn.2.2.2.2.1, hn.2.2.2.2.2]; exact retCRRI_zero M.1
   ·try simp only [sA] at hc2
    refine gc_skip ?_
    refine gk_then (hK17 _ _ ?_)
    refine gc_sr fun K23 hK23 => ?_
    refine gv (qts Tryz.underlying31 (n := 0)) ?_
    refine gv (qts Tryz.underlying31 (n := 1)) ?_
    refine gop fun K25 hK25 => ?_
    refine go_callCRR rfl rfl rfl Tryz.func76 rfl (by decide) rfl (fun w M => specComma_any w _ _ _ _ (mem_rdF M h0) (mem_rdF M e0) (hP)) ?_
    intro cz1_24 cm1_24 cz2_24 cm2_24 cz3_24 cm3_24 cz4_24 cm4_24 qa24 qb24 qc24 qd24 cu24 cv24 cw24
    refine hK25 _ _ ?_
    refine gm ?_
    refine gv (qt_extract rfl rfl rfl) ?_
    refine gv (qt_extract rfl rfl rfl) ?_
    refine gv (qt_extract rfl rfl rfl) ?_
    refine gop fun K27 hK27 => ?_
    refine go_alloc (z := (.agg #[.int .i64 0, .slice none 0 0, .slice none 0 0, .slice none 0 0, .slice none 0 0])) (cs := [.int .i64 0, .slice none 0 0, .slice none 0 0, .slice none 0 0, .slice none 0 0]) rfl rfl rfl (fun w => by kernel_rfl) rfl ?_
    intro B26
    refine hK27 _ _ ?_
    refine gop fun K28 hK28 => ?_
    refine go_storeS (n := 10) rfl rfl rfl rfl (by kernel_rfl) rfl rfl rfl ?_
    refine hK28 _ _ ?_
    refine gas ?_
    refine gas ?_
    refine gnt (hK23 _ _ ?_)
    refine gc_seq fun K29 hK29 => ?_
    refine gc_sr fun K30 hK30 => ?_
    refine gv (qts Tryz.underlying29 (n := 10)) ?_
    refine g_q (.free rfl) rfl rfl (qt_call rfl Tryz.func77 rfl (by decide) rfl (fun w M => specFits_any w _ _ (rdC_mk ((mem_own1 (n := 4) M rfl).rd) ((mem_own1 (n := 5) M rfl).rd) ((mem_own1 (n := 6) M rfl).rd) (mem_rdU (n := 7) M rfl)))) ?_
    refine gv (qt_not rfl rfl) ?_
    refine gnt (hK30 _ _ ?_)
    refine gc_cond rfl (fun hc3 => ?_) (fun hc3 => ?_)
    ·try simp only [sA] at hc3
     refine gc_sr fun K31 hK31 => ?_
     refine gv (qt_build rfl rfl bt0_Category) ?_
     refine gop fun K32 hK32 => ?_
     refine go_storeS (n := 2) rfl rfl rfl rfl (by kernel_rfl) rfl rfl rfl ?_
     refine hK32 _ _ ?_
     refine gas ?_
     refine gas ?_
     refine gas ?_
     refine gnt (hK31 _ _ ?_)
     refine gc_ret ?_
     refine gk_then_ret ?_
     refine ret_SQ (n := 2) rfl rfl rfl rfl rfl Tryz.underlying29 rfl (by kernel_rfl) rfl (fun w M => ?_)
     have hn := cmx_n (cme_3 hq.1 (fun hh => absurd (spcF_fit.2 ⟨by omega, hh.2⟩) (bP_f' hc3))) (by decide); rw [hn.2.2.1, hn.2.2.2.1, hn.2.2.2.2.1, hn.2.2.2.2.2]; exact retCRRI_zero M.1
    ·try simp only [sA] at hc3
     refine gc_skip ?_
     refine gk_then (hK29 _ _ ?_)
     refine gc_sr fun K33 hK33 => ?_
     refine gv (qts Tryz.underlying29 (n := 10)) ?_
     refine gm ?_
     refine gm ?_
     refine gop fun K34 hK34 => ?_
     refine go_storeS (n := 2) rfl rfl rfl rfl (by kernel_rfl) rfl rfl rfl ?_
     refine hK34 _ _ ?_
     refine gas ?_
     refine gas ?_
     refine gas ?_
     refine gnt (hK33 _ _ ?_)
     refine gc_ret ?_
     refine ret_SQ (n := 2) rfl rfl rfl rfl rfl Tryz.underlying29 rfl (by kernel_rfl) rfl (fun w M => ?_)
     have hf := bP_t' hc3
     have hn := cmx_t (cme_t hq.1 ⟨by omega, (spcF_fit.1 hf).2⟩)
     rw [hn.2.2.1, hn.2.2.2.1, hn.2.2.2.2.1, hn.2.2.2.2.2]
     simp only [spcF_t hP hf] at M ⊢
     exact retCRRI_star (mem_pick (n := 9) (mem_pick (n := 9) (mem_pick (n := 9) (mem_pick (n := 9) (mem_pick (n := 9) (mem_pick (n := 9) (M) rfl) rfl) rfl) rfl) rfl) rfl)
set_option maxHeartbeats 1000000 in
set_option maxRecDepth 100000 in
theorem spec_CommaCategory (w : World) (v : Value) (F : Fct) (u : Value) (G : Fct) (h : RdF w v F) (e : RdF w u G) :
  Calls Tryz.prog 54 #[v, u] w (RetCI w (fCommaCategory F G).1 (fCommaCategory F G).2) := by
 have h0 := h
 obtain ⟨vx1, vx2, vx3, vx4, vx5, vx6, vx7, vx8, vx9, vx10, vk1, vk2, vk3, vk4, vk5, vk6, vk7, vk8, vk9, vk10, rfl, h1, h2, h3, h4, h5, h6, h7, h8, h9, h10⟩ := h.lists
 have e0 := e
 obtain ⟨ux1, ux2, ux3, ux4, ux5, ux6, ux7, ux8, ux9, ux10, uk1, uk2, uk3, uk4, uk5, uk6, uk7, uk8, uk9, uk10, rfl, e1, e2, e3, e4, e5, e6, e7, e8, e9, e10⟩ := e.lists
 go_enter Tryz.func54, Tryz.ntmps54
 refine gc_enter (N := 20) rfl (look_cons (k := 0) rfl (look_cons (k := 1) rfl (look_nil _))) ?_
 refine gc_sr fun K1 hK1 => ?_
 refine gop fun K3 hK3 => ?_
 refine go_box rfl rfl rfl rfl rfl ?_
 intro B2
 refine hK3 _ _ ?_
 refine gop fun K5 hK5 => ?_
 refine go_box rfl rfl rfl rfl rfl ?_
 intro B4
 refine hK5 _ _ ?_
 refine gop fun K7 hK7 => ?_
 refine go_alloc (z := (.agg #[.int .i64 0, .slice none 0 0, .slice none 0 0, .slice none 0 0, .slice none 0 0])) (cs := [.int .i64 0, .slice none 0 0, .slice none 0 0, .slice none 0 0, .slice none 0 0]) rfl rfl rfl (fun w => by kernel_rfl) rfl ?_
 intro B6
 refine hK7 _ _ ?_
 refine gas ?_
 refine gnt (hK1 _ _ ?_)
 refine gc_sr fun K8 hK8 => ?_
 refine gv (qts Tryz.underlying31 (n := 0)) ?_
 refine gv (qts Tryz.underlying31 (n := 1)) ?_
 refine gop fun K10 hK10 => ?_
 refine go_callCRRI rfl rfl rfl Tryz.func38 rfl (by decide) rfl (fun w M => specCode_any w _ _ _ _ (mem_rdF M h0) (mem_rdF M e0)) ?_
 intro cz1_9 cm1_9 cz2_9 cm2_9 cz3_9 cm3_9 cz4_9 cm4_9 qa9 qb9 qc9 qd9 cu9 cv9 cw9
 refine hK10 _ _ ?_
 refine gm ?_
 refine gv (qt_extract rfl rfl rfl) ?_
 refine gv (qt_extract rfl rfl rfl) ?_
 refine gv (qt_extract rfl rfl rfl) ?_
 refine gv (qt_extract rfl rfl rfl) ?_
 refine gop fun K12 hK12 => ?_
 refine go_alloc (z := (.agg #[.int .i64 0, .slice none 0 0, .slice none 0 0, .slice none 0 0, .slice none 0 0])) (cs := [.int .i64 0, .slice none 0 0, .slice none 0 0, .slice none 0 0, .slice none 0 0]) rfl rfl rfl (fun w => by kernel_rfl) rfl ?_
 intro B11
 refine hK12 _ _ ?_
 refine gop fun K13 hK13 => ?_
 refine go_storeS (n := 9) rfl rfl rfl rfl (by kernel_rfl) rfl rfl rfl ?_
 refine hK13 _ _ ?_
 refine gas ?_
 refine gas ?_
 refine gas ?_
 refine gnt (hK8 _ _ ?_)
 refine gc_sr fun K14 hK14 => ?_
 refine gv (qts Tryz.underlying29 (n := 9)) ?_
 refine gm ?_
 refine gop fun K15 hK15 => ?_
 refine go_storeS (n := 2) rfl rfl rfl rfl (by kernel_rfl) rfl rfl rfl ?_
 refine hK15 _ _ ?_
 refine gas ?_
 refine gnt (hK14 _ _ ?_)
 refine gc_ret ?_
 refine ret_SI (n := 2) rfl rfl rfl Tryz.underlying29 rfl (by kernel_rfl) rfl (fun w M => ?_)
 exact ⟨_, rfl, ownC_star (mem_pick (n := 6) (mem_pick (n := 6) (mem_pick (n := 6) (mem_pick (n := 6) (M) rfl) rfl) rfl) rfl).2, M.1⟩
end Go.Proofs.YtpcabkdkdnchaaaGreat
set_option linter.unusedSimpArgs false
set_option linter.unusedVariables false
set_option linter.unusedSectionVars false
namespace Go.Proofs.YtpcabkdkdnchaaaGreat
open Go.RowKit
theorem comma_len {F G : Fct} (h : cmE F G = 0) : (commaM F G).s.length = (arL F G (obL F G)).length ∧ (commaM F G).t.length = (arL F G (obL F G)).length ∧ (commaM F G).e.length = (obL F G).length ∧ (commaM F G).m.length = (arL F G (obL F G)).length :=
  ⟨tabTo_len _ _, tabTo_len _ _, by show (tabTo _ _).length = _; rw [tabTo_len, Int.toNat_natCast], rowsTo_len _ _⟩
theorem comma_small {F G : Fct} (h : cmE F G = 0) : mzC (commaM F G) ≤ 1152921504606846 := by
  have hl := comma_len h; have hs := cmE_0 h
  refine mz_small (by omega) (by omega) (by omega) (by omega) fun i hi => ?_
  rw [show row2 (commaM F G).m (i : Int) = _ from rowsTo_at _ (by omega)]
  unfold rowE; rw [tabTo_len]; omega
theorem bound_CommaCategory (F G : Fct) : mzC (fCommaCategory F G).1 ≤ 1152921504606846 := by
  show mzC (cmC F G) ≤ _
  by_cases h : cmE F G = 0
  · rw [(cmx_t h).2.2.1]; exact comma_small h
  · rw [(cmx_n rfl h).2.2.1]; decide
end Go.Proofs.YtpcabkdkdnchaaaGreat
