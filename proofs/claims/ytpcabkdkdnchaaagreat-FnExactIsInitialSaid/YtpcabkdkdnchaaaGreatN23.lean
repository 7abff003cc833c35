import Derived.Test.YtpcabkdkdnchaaaGreatN22
set_option linter.unusedSimpArgs false
set_option linter.unusedVariables false
set_option linter.unusedSectionVars false
namespace Go.Proofs.YtpcabkdkdnchaaaGreat
open Go.RowKit
set_option maxHeartbeats 4000000 in
set_option maxRecDepth 100000 in
theorem isFinalF_any (w : World) (v : Value) (F : Fct) (h : RdF w v F) (hI : fIsFunctor F = true) :
    Calls Tryz.prog 72 #[v] w (RetB w (bP (finP F))) := by
  have h0 := h
  obtain ⟨vx1, vx2, vx3, vx4, vx5, vx6, vx7, vx8, vx9, vx10, vk1, vk2, vk3, vk4, vk5, vk6, vk7, vk8, vk9, vk10, rfl, h1, h2, h3, h4, h5, h6, h7, h8, h9, h10⟩ := h.lists
  have hF := isf_of hI
  have hS := (isCat_of hF.cs).toShapeP
  have hT := (isCat_of hF.ct).toShapeP
  have hn40 := hS.n40; have hob0 := hT.ob0; have hob8 := hT.ob8; have hm40 := hT.n40
  have hel := hT.el
  have hel2 := (isCat_of hF.ct).toShapeP.el
  go_enter Tryz.func72, Tryz.ntmps72
  refine gc_enter (N := 19) rfl (look_cons (k := 0) rfl (look_nil _)) ?_
  refine gc_seq fun K1 hK1 => ?_
  refine gc_region ?_
  refine g_op (.free rfl) fun K3 hK3 => ?_
  refine go_box rfl rfl rfl rfl rfl ?_
  intro B2
  refine hK3 _ _ ?_
  refine g_v (.free rfl) rfl rfl (qt_assign rfl rfl) ?_
  refine g_nil ?_
  refine gk_then (hK1 _ _ ?_)
  refine gc_seq fun K4 hK4 => ?_
  refine gc_seq fun K5 hK5 => ?_
  refine gc_region ?_
  refine g_v (.free rfl) rfl rfl (qt_field (z := 4) (off := 5) rfl rfl Tryz.underlying31 rfl (by kernel_rfl) rfl) ?_
  refine g_v (.free rfl) rfl rfl (qt_field (z := 0) (off := 0) rfl rfl Tryz.underlying29 rfl (by kernel_rfl) rfl) ?_
  refine g_v (.free rfl) rfl rfl (qt_loadB (n := 0) rfl rfl Tryz.underlying2 rfl rfl rfl) ?_
  refine g_v (.free rfl) rfl rfl (qt_move rfl rfl) ?_
  refine g_nil ?_
  refine gk_then (hK5 _ _ ?_)
  refine gc_block ?_
  try simp only [List.nil_append, List.cons_append, List.append_assoc, List.set_cons_succ, List.set_cons_zero]
  refine gc_loop ([(0, _), (1, _), (6, _)] : Env) (fun s : Nat => (fun (k : Nat) => ([(7, .int .i64 (k : Int))] : Env)) s) (fun s : Nat => (fun (k : Nat) => ([] : List (Nat × Itm))) s) (fun s : Nat => (fun (k : Nat) => (k : Int) ≤ F.T.ob ∧ ∀ x : Nat, x < k → finC F (x : Int)) s) (fun s : Nat => (fun (k : Nat) => (F.T.ob - (k : Int)).toNat) s) (0) (sub_cons rfl (sub_cons rfl (sub_cons rfl (sub_cons rfl sub_nil)))) rfl ⟨by omega, fun j hj => absurd hj (by omega)⟩ ?_
  rintro k hinv KL6 hKL6
  simp only [updL, List.foldl_cons, List.foldl_nil, List.set_cons_succ, List.set_cons_zero, List.cons_append, List.nil_append] at hinv hKL6 ⊢
  obtain ⟨hk, hj⟩ := hinv
  refine gc_seq fun K7 hK7 => ?_
  refine gc_region ?_
  refine g_v (.free rfl) rfl rfl (qt_lss rfl rfl rfl) ?_
  refine g_nil ?_
  refine gk_then (hK7 _ _ ?_)
  refine gc_seq fun K8 hK8 => ?_
  refine gc_cond rfl (fun hc0 => ?_) (fun hc0 => ?_)
  · try simp only [decide_eq_true_eq, decide_eq_false_iff_not, Bool.not_eq_true', Bool.not_eq_false', Bool.not_eq_eq_eq_not, Bool.not_true, Bool.not_false, ne_eq, Decidable.not_not, Classical.not_not] at hc0
    refine gc_skip ?_
    refine gk_then (hK8 _ _ ?_)
    refine gc_seq fun K9 hK9 => ?_
    refine gc_block ?_
    refine gc_seq fun K10 hK10 => ?_
    refine gc_region ?_
    refine g_v (.free rfl) rfl rfl (qt_move rfl rfl) ?_
    refine g_v (.free rfl) rfl rfl (qt_assign rfl rfl) ?_
    refine g_nil ?_
    refine gk_then (hK10 _ _ ?_)
    refine gc_seq fun K11 hK11 => ?_
    try simp only [List.nil_append, List.cons_append, List.append_assoc, List.set_cons_succ, List.set_cons_zero]
    refine ga_start _ (fun w M => M) ?_
    refine ga_v 0 rfl (by kernel_rfl) (by kernel_rfl) (by kernel_rfl) (.free rfl) rfl rfl (qt_field (z := 4) (off := 5) rfl rfl Tryz.underlying31 rfl (by kernel_rfl) rfl) (fun _ _ _ h => h) ?_
    refine ga_v 1 rfl (by kernel_rfl) (by kernel_rfl) (by kernel_rfl) (.free rfl) rfl rfl (qt_loadP (n := 0) (z := 5) rfl rfl Tryz.underlying29 rfl (by kernel_rfl) rfl (by first | decide | exact Nat.le_refl _ | simp)) (fun _ _ _ h => h) ?_
    refine ga_v 2 rfl (by kernel_rfl) (by kernel_rfl) (by kernel_rfl) (.free rfl) rfl rfl (qt_move rfl rfl) (fun _ _ _ h => h) ?_
    refine ga_v 4 rfl (by kernel_rfl) (by kernel_rfl) (by kernel_rfl) (.free rfl) rfl rfl (qt_loadS (n := 0) rfl rfl Tryz.underlying31 rfl (by kernel_rfl) rfl) (fun _ _ _ h => h) ?_
    refine ga_op 3 (by kernel_rfl) rfl (.free rfl) fun K13 hK13 => ?_
    refine go_callPt rfl rfl rfl Tryz.func93 rfl (by decide) rfl (fun w M => pointAt_any w F.T (k : Int) _ _ _ _ _ _ _ _ (rdC_mk (mem_rd M h5) (mem_rd M h6) (mem_rd M h7) (mem_rd2 M h8)) (by omega) (by omega)) ?_
    intro pa12 pb12 pc12 pd12 pe12 pf12 pg12 ph12 pi12 pj12 pk12 pl12 pm12
    refine hK13 _ _ (fun w M => (mem_take 1 M :)) ?_
    refine ga_v 5 rfl (by kernel_rfl) (by kernel_rfl) (by kernel_rfl) (.free rfl) rfl rfl (qt_build rfl rfl bt_cospan) (fun _ _ _ h => h) ?_
    refine ga_op 6 (by kernel_rfl) rfl (.free rfl) fun K14 hK14 => ?_
    refine go_q rfl rfl (qt_call rfl Tryz.func107 rfl (by decide) rfl (fun w M => isConn_any w (pntF F.T (k : Int)) (F) (csp_mk (rdF_mk (F := pntF F.T (k : Int)) ((mem_own1 (n := 1) M rfl).rd) ((mem_own1 (n := 2) M rfl).rd) ((mem_own1 (n := 3) M rfl).rd) (mem_rdU (n := 4) M rfl) (mem_rd M h5) (mem_rd M h6) (mem_rd M h7) (mem_rd2 M h8) ((mem_own1 (n := 5) M rfl).rd) ((mem_own1 (n := 6) M rfl).rd)) (rdF_below M.1 h)) (pnt_csp hF (by omega) (by omega)))) ?_
    refine hK14 _ _ (fun w M => (mem_take 1 M :)) ?_
    refine ga_v 7 rfl (by kernel_rfl) (by kernel_rfl) (by kernel_rfl) (.free rfl) rfl rfl (qt_not rfl rfl) (fun _ _ _ h => h) ?_
    refine ga_done (by kernel_rfl) ?_
    refine gk_then (hK11 _ _ ?_)
    refine gc_cond rfl (fun hc1 => ?_) (fun hc1 => ?_)
    · try simp only [decide_eq_true_eq, decide_eq_false_iff_not, Bool.not_eq_true', Bool.not_eq_false', Bool.not_eq_eq_eq_not, Bool.not_true, Bool.not_false, ne_eq, Decidable.not_not, Classical.not_not] at hc1
      refine gc_seq fun K15 hK15 => ?_
      refine gc_region ?_
      refine g_v (.free rfl) rfl rfl (qt_assign rfl rfl) ?_
      refine g_nil ?_
      refine gk_then (hK15 _ _ ?_)
      refine gc_ret ?_
      refine gk_block_ret ?_
      refine gk_then_ret ?_
      refine gk_then_ret ?_
      refine gk_block_ret ?_
      refine gk_then_ret ?_
      refine ret_1 rfl rfl  (fun w M => ?_)
      rw [bP_f fun hq => bP_f' hc1 (hq k (by omega))]; exact ⟨rfl, M.1⟩
    · try simp only [decide_eq_true_eq, decide_eq_false_iff_not, Bool.not_eq_true', Bool.not_eq_false', Bool.not_eq_eq_eq_not, Bool.not_true, Bool.not_false, ne_eq, Decidable.not_not, Classical.not_not] at hc1
      refine gc_skip ?_
      refine gk_block ?_
      refine gk_then (hK9 _ _ ?_)
      refine gc_region ?_
      refine g_v (.free rfl) rfl rfl (qt_add rfl rfl rfl (by omega)) ?_
      refine g_v (.free rfl) rfl rfl (qt_move rfl rfl) ?_
      refine g_nil ?_
      refine gk_then (gk_take 1 ?_)
      refine gk_sub ?hs_16 (hKL6 (k + 1) ?hi_16 ?hm_16)
      case hs_16 => exact (sub_cons rfl (sub_cons rfl (sub_cons rfl (sub_cons rfl sub_nil))))
      case hi_16 => exact ⟨by omega, all_next0 hj (bP_t' hc1)⟩
      case hm_16 => omega
  · try simp only [decide_eq_true_eq, decide_eq_false_iff_not, Bool.not_eq_true', Bool.not_eq_false', Bool.not_eq_eq_eq_not, Bool.not_true, Bool.not_false, ne_eq, Decidable.not_not, Classical.not_not] at hc0
    refine gc_exit ?_
    refine gk_then_exit ?_
    refine gk_then_exit ?_
    refine gk_block_hit ?_
    refine gk_then (hK4 _ _ ?_)
    refine gc_seq fun K17 hK17 => ?_
    refine gc_region ?_
    refine g_v (.free rfl) rfl rfl (qt_assign rfl rfl) ?_
    refine g_nil ?_
    refine gk_then (hK17 _ _ ?_)
    refine gc_ret ?_
    refine ret_1 rfl rfl  (fun w M => ?_)
    rw [bP_t (p := finP F) fun x hx => hj x (by omega)]; exact ⟨rfl, M.1⟩
theorem r40 (e : Ent (Int × Int)) : at0 (row4 e) 0 = e.1 := rfl
theorem r41 (e : Ent (Int × Int)) : at0 (row4 e) 1 = e.2.1 := rfl
theorem endsA_len (es : List (Ent (Int × Int))) : (endsA es).length = es.length := List.length_map ..
theorem atE_getD {L : List (Ent (Int × Int))} {i : Nat} (h : i < L.length) : L.take i ++ [atE L (i : Int)] = L.take (i + 1) := by
  rw [List.take_add_one, List.getElem?_eq_getElem h]
  have : atE L (i : Int) = L[i] := by unfold atE; simp [List.getD, List.getElem?_eq_getElem h]
  rw [this]; rfl
theorem endsA_take {L : List (Ent (Int × Int))} {i : Nat} (h : i < L.length) : endsA (L.take i) ++ [[(atE L (i : Int)).1, (atE L (i : Int)).2.1]] = endsA (L.take (i + 1)) := by
  rw [endsA_snoc, atE_getD h]
set_option maxHeartbeats 8000000 in
set_option maxRecDepth 100000 in
theorem specFinal_any (w : World) (v : Value) (F : Fct) (h : RdF w v F) (hI : fIsFunctor F = true) :
    Calls Tryz.prog 69 #[v] w (RetB w (bP (finP F))) := by
  have h0 := h
  obtain ⟨vx1, vx2, vx3, vx4, vx5, vx6, vx7, vx8, vx9, vx10, vk1, vk2, vk3, vk4, vk5, vk6, vk7, vk8, vk9, vk10, rfl, h1, h2, h3, h4, h5, h6, h7, h8, h9, h10⟩ := h.lists
  have hF := isf_of hI
  have hS := (isCat_of hF.cs).toShapeP
  have hT := (isCat_of hF.ct).toShapeP
  have hn40 := hS.n40; have hob0 := hT.ob0; have hob8 := hT.ob8; have hm40 := hT.n40
  have hel := hT.el
  have hel2 := (isCat_of hF.ct).toShapeP.el
  go_enter Tryz.func69, Tryz.ntmps69
  refine gc_enter (N := 70) rfl (look_cons (k := 0) rfl (look_nil _)) ?_
  refine gc_seq fun K1 hK1 => ?_
  refine gc_region ?_
  refine g_op (.free rfl) fun K3 hK3 => ?_
  refine go_box rfl rfl rfl rfl rfl ?_
  intro B2
  refine hK3 _ _ ?_
  refine g_v (.free rfl) rfl rfl (qt_assign rfl rfl) ?_
  refine g_nil ?_
  refine gk_then (hK1 _ _ ?_)
  refine gc_seq fun K4 hK4 => ?_
  refine gc_seq fun K5 hK5 => ?_
  refine gc_region ?_
  refine g_v (.free rfl) rfl rfl (qt_assign rfl rfl) ?_
  refine g_nil ?_
  refine gk_then (hK5 _ _ ?_)
  refine gc_block ?_
  try simp only [List.nil_append, List.cons_append, List.append_assoc, List.set_cons_succ, List.set_cons_zero]
  refine gc_loop ([(0, _), (1, _)] : Env) (fun s : Nat => (fun (k : Nat) => ([(3, .int .i64 (k : Int))] : Env)) s) (fun s : Nat => (fun (k : Nat) => ([] : List (Nat × Itm))) s) (fun s : Nat => (fun (k : Nat) => (k : Int) ≤ F.T.ob ∧ ∀ x : Nat, x < k → finC F (x : Int)) s) (fun s : Nat => (fun (k : Nat) => (F.T.ob - (k : Int)).toNat) s) (0) (sub_cons rfl (sub_cons rfl (sub_cons rfl sub_nil))) rfl ⟨by omega, fun j hj => absurd hj (by omega)⟩ ?_
  rintro k hinv KL6 hKL6
  simp only [updL, List.foldl_cons, List.foldl_nil, List.set_cons_succ, List.set_cons_zero, List.cons_append, List.nil_append] at hinv hKL6 ⊢
  obtain ⟨hk, hj⟩ := hinv
  refine gc_seq fun K7 hK7 => ?_
  refine gc_seq fun K8 hK8 => ?_
  refine gc_region ?_
  refine g_v (.free rfl) rfl rfl (qt_move rfl rfl) ?_
  refine g_v (.free rfl) rfl rfl (qt_field (z := 4) (off := 5) rfl rfl Tryz.underlying31 rfl (by kernel_rfl) rfl) ?_
  refine g_v (.free rfl) rfl rfl (qt_field (z := 0) (off := 0) rfl rfl Tryz.underlying29 rfl (by kernel_rfl) rfl) ?_
  refine g_v (.free rfl) rfl rfl (qt_loadB (n := 0) rfl rfl Tryz.underlying2 rfl rfl rfl) ?_
  refine g_v (.free rfl) rfl rfl (qt_lss rfl rfl rfl) ?_
  refine g_nil ?_
  refine gk_then (hK8 _ _ ?_)
  refine gc_cond rfl (fun hc0 => ?_) (fun hc0 => ?_)
  · try simp only [decide_eq_true_eq, decide_eq_false_iff_not, Bool.not_eq_true', Bool.not_eq_false', Bool.not_eq_eq_eq_not, Bool.not_true, Bool.not_false, ne_eq, Decidable.not_not, Classical.not_not] at hc0
    refine gc_skip ?_
    refine gk_then (hK7 _ _ ?_)
    refine gc_seq fun K9 hK9 => ?_
    refine gc_block ?_
    refine gc_seq fun K10 hK10 => ?_
    have hP := pnt_csp hF (x := (k : Int)) (by omega) (by omega)
    have pS := (isCat_of hP.f.cs).toShapeP; have gS := hS; have n3 := hT.n40
    have po := hP.f.lo; have fo := hF.lo; have s8 := pS.ob8; have s0 := pS.ob0; have g8 := hS.ob8; have g0 := hS.ob0; have p40 := pS.n40
    have hoL := obL_len (F := (pntF F.T (k : Int))) (G := F) (by omega) (by omega) n3
    have hos : ∀ q : Nat, q < (obL (pntF F.T (k : Int)) F).length → 0 ≤ (atE (obL (pntF F.T (k : Int)) F) (q : Int)).2.2 ∧ (atE (obL (pntF F.T (k : Int)) F) (q : Int)).2.2 < F.T.s.length := fun q hk => (obP_at (F := (pntF F.T (k : Int))) (G := F) (x := (q : Int)) (by omega) (by omega)).2.2.1
    have haL := arL_len (F := (pntF F.T (k : Int))) (G := F) (os := obL (pntF F.T (k : Int)) F) (m := 2560) hoL p40 hn40
    have hlm : ((obL (pntF F.T (k : Int)) F).map row3).length = (obL (pntF F.T (k : Int)) F).length := List.length_map ..
    have hla : ((arL (pntF F.T (k : Int)) F (obL (pntF F.T (k : Int)) F)).map row4).length = (arL (pntF F.T (k : Int)) F (obL (pntF F.T (k : Int)) F)).length := List.length_map ..
    refine gc_region ?_
    refine g_v (.free rfl) rfl rfl (qt_field (z := 4) (off := 5) rfl rfl Tryz.underlying31 rfl (by kernel_rfl) rfl) ?_
    refine g_v (.free rfl) rfl rfl (qt_loadP (n := 0) (z := 5) rfl rfl Tryz.underlying29 rfl (by kernel_rfl) rfl (by first | decide | exact Nat.le_refl _ | simp)) ?_
    refine g_v (.free rfl) rfl rfl (qt_move rfl rfl) ?_
    refine g_op (.free rfl) fun K12 hK12 => ?_
    refine go_callFn rfl rfl rfl Tryz.func56 rfl (by decide) rfl (fun w M => specPoint_any w _ (F.T) _ (rdC_mk (mem_rd M h5) (mem_rd M h6) (mem_rd M h7) (mem_rd2 M h8)) (hT) (⟨by omega, by omega⟩)) ?_
    intro fx1_11 fk1_11 fx2_11 fk2_11 fx3_11 fk3_11 fx4_11 fk4_11 fx5_11 fk5_11 fx6_11 fk6_11 fx7_11 fk7_11 fx8_11 fk8_11 fx9_11 fk9_11 fx10_11 fk10_11 us11 ut11
    refine hK12 _ _ ?_
    refine g_op (.free rfl) fun K14 hK14 => ?_
    refine go_alloc (z := (.agg #[.int .i64 0, .slice none 0 0, .slice none 0 0, .slice none 0 0, .slice none 0 0, .int .i64 0, .slice none 0 0, .slice none 0 0, .slice none 0 0, .slice none 0 0, .slice none 0 0, .slice none 0 0])) (cs := [.int .i64 0, .slice none 0 0, .slice none 0 0, .slice none 0 0, .slice none 0 0, .int .i64 0, .slice none 0 0, .slice none 0 0, .slice none 0 0, .slice none 0 0, .slice none 0 0, .slice none 0 0]) rfl rfl rfl (fun w => by kernel_rfl) rfl ?_
    intro B13
    refine hK14 _ _ ?_
    refine g_op (.free rfl) fun K15 hK15 => ?_
    refine go_storeS (n := 11) rfl rfl rfl rfl (by kernel_rfl) rfl rfl rfl ?_
    refine hK15 _ _ ?_
    refine g_nil ?_
    refine gk_then (hK10 _ _ ?_)
    refine gc_seq fun K16 hK16 => ?_
    refine gc_region ?_
    refine g_v (.free rfl) rfl rfl (qt_loadS (n := 11) rfl rfl Tryz.underlying31 rfl (by kernel_rfl) rfl) ?_
    refine g_v (.free rfl) rfl rfl (qt_loadS (n := 0) rfl rfl Tryz.underlying31 rfl (by kernel_rfl) rfl) ?_
    refine g_op (.free rfl) fun K18 hK18 => ?_
    refine go_callR rfl rfl rfl Tryz.func75 rfl (by decide) rfl (fun w M => specObs_any w _ (pntF F.T (k : Int)) _ (F) (rdF_mk ((mem_own1 (n := 1) M rfl).rd) ((mem_own1 (n := 2) M rfl).rd) ((mem_own1 (n := 3) M rfl).rd) (mem_rdU (n := 4) M rfl) ((mem_own1 (n := 5) M rfl).rd) ((mem_own1 (n := 6) M rfl).rd) ((mem_own1 (n := 7) M rfl).rd) (mem_rdU (n := 8) M rfl) ((mem_own1 (n := 9) M rfl).rd) ((mem_own1 (n := 10) M rfl).rd)) (mem_rdF M h0) (hP.f) (hF)) ?_
    intro va17 vc17 us17
    refine hK18 _ _ ?_
    refine g_v (.free rfl) rfl rfl (qt_assign rfl rfl) ?_
    refine g_nil ?_
    refine gk_then (hK16 _ _ ?_)
    refine gc_seq fun K19 hK19 => ?_
    refine gc_region ?_
    refine g_v (.free rfl) rfl rfl (qt_loadS (n := 11) rfl rfl Tryz.underlying31 rfl (by kernel_rfl) rfl) ?_
    refine g_v (.free rfl) rfl rfl (qt_loadS (n := 0) rfl rfl Tryz.underlying31 rfl (by kernel_rfl) rfl) ?_
    refine g_v (.free rfl) rfl rfl (qt_move rfl rfl) ?_
    refine g_op (.free rfl) fun K21 hK21 => ?_
    refine go_callR rfl rfl rfl Tryz.func102 rfl (by decide) rfl (fun w M => specArr_any w _ (pntF F.T (k : Int)) _ (F) (rdF_mk ((mem_own1 (n := 1) M rfl).rd) ((mem_own1 (n := 2) M rfl).rd) ((mem_own1 (n := 3) M rfl).rd) (mem_rdU (n := 4) M rfl) ((mem_own1 (n := 5) M rfl).rd) ((mem_own1 (n := 6) M rfl).rd) ((mem_own1 (n := 7) M rfl).rd) (mem_rdU (n := 8) M rfl) ((mem_own1 (n := 9) M rfl).rd) ((mem_own1 (n := 10) M rfl).rd)) (mem_rdF M h0) (hP.f) (hF) (rfl) _ (obL (pntF F.T (k : Int)) F) (mem_rdU (n := 12) M rfl) (by omega) (hos)) ?_
    intro va20 vc20 us20
    refine hK21 _ _ ?_
    refine g_v (.free rfl) rfl rfl (qt_assign rfl rfl) ?_
    refine g_nil ?_
    refine gk_then (hK19 _ _ ?_)
    refine gc_seq fun K22 hK22 => ?_
    refine gc_region ?_
    refine g_op (.free rfl) fun K24 hK24 => ?_
    refine go_sliceR0 rfl rfl rfl Tryz.underlying23 ?_
    intro B23
    refine hK24 _ _ ?_
    refine g_v (.free rfl) rfl rfl (qt_assign rfl rfl) ?_
    refine g_nil ?_
    refine gk_then (hK22 _ _ ?_)
    refine gc_seq fun K25 hK25 => ?_
    refine gc_seq fun K26 hK26 => ?_
    refine gc_region ?_
    refine g_v (.free rfl) rfl rfl (qt_assign rfl rfl) ?_
    refine g_nil ?_
    refine gk_then (hK26 _ _ ?_)
    refine gc_block ?_
    try simp only [List.nil_append, List.cons_append, List.append_assoc, List.set_cons_succ, List.set_cons_zero]
    refine gc_loop ([(0, _), (1, _), (3, _), (4, _), (5, _), (6, _), (15, _)] : Env) (fun s : Nat × (Option Addr) × Nat × (List Value) => (fun (i : Nat) (a : Option Addr) (q : Nat) (us : List Value) => ([(7, .slice a (endsA ((arL (pntF F.T (k : Int)) F (obL (pntF F.T (k : Int)) F)).take i)).length q), (8, .int .i64 (i : Int))] : Env)) s.1 s.2.1 s.2.2.1 s.2.2.2) (fun s : Nat × (Option Addr) × Nat × (List Value) => (fun (i : Nat) (a : Option Addr) (q : Nat) (us : List Value) => ([(14, own2U (.slice a (endsA ((arL (pntF F.T (k : Int)) F (obL (pntF F.T (k : Int)) F)).take i)).length q) us (endsA ((arL (pntF F.T (k : Int)) F (obL (pntF F.T (k : Int)) F)).take i)))] : List (Nat × Itm))) s.1 s.2.1 s.2.2.1 s.2.2.2) (fun s : Nat × (Option Addr) × Nat × (List Value) => (fun (i : Nat) (a : Option Addr) (q : Nat) (us : List Value) => i ≤ (arL (pntF F.T (k : Int)) F (obL (pntF F.T (k : Int)) F)).length) s.1 s.2.1 s.2.2.1 s.2.2.2) (fun s : Nat × (Option Addr) × Nat × (List Value) => (fun (i : Nat) (a : Option Addr) (q : Nat) (us : List Value) => (arL (pntF F.T (k : Int)) F (obL (pntF F.T (k : Int)) F)).length - i) s.1 s.2.1 s.2.2.1 s.2.2.2) ((0, _, _, _)) (sub_cons rfl (sub_cons rfl (sub_cons rfl (sub_cons rfl (sub_cons rfl (sub_cons rfl (sub_cons rfl (sub_cons rfl (sub_cons rfl sub_nil))))))))) rfl (Nat.zero_le _) ?_
    rintro ⟨i, a, q, us⟩ hinv KL27 hKL27
    simp only [updL, List.foldl_cons, List.foldl_nil, List.set_cons_succ, List.set_cons_zero, List.cons_append, List.nil_append] at hinv hKL27 ⊢
    have hi := hinv
    have hel3 : (endsA ((arL (pntF F.T (k : Int)) F (obL (pntF F.T (k : Int)) F)).take i)).length = i := by rw [endsA_len, List.length_take]; omega
    refine gc_seq fun K28 hK28 => ?_
    refine gc_seq fun K29 hK29 => ?_
    refine gc_region ?_
    refine g_v (.free rfl) rfl rfl (qt_move rfl rfl) ?_
    refine g_v (.free rfl) rfl rfl (qt_move rfl rfl) ?_
    refine g_v (.free rfl) rfl rfl (qt_len rfl rfl ulE2 (fun w M => lenV_U (n := 13) rfl M)) ?_
    refine g_v (.free rfl) rfl rfl (qt_lss rfl rfl rfl) ?_
    refine g_nil ?_
    refine gk_then (hK29 _ _ ?_)
    refine gc_cond rfl (fun hc1 => ?_) (fun hc1 => ?_)
    · try simp only [decide_eq_true_eq, decide_eq_false_iff_not, Bool.not_eq_true', Bool.not_eq_false', Bool.not_eq_eq_eq_not, Bool.not_true, Bool.not_false, ne_eq, Decidable.not_not, Classical.not_not] at hc1
      refine gc_skip ?_
      refine gk_then (hK28 _ _ ?_)
      refine gc_seq fun K30 hK30 => ?_
      refine gc_block ?_
      have e4 : row2 ((arL (pntF F.T (k : Int)) F (obL (pntF F.T (k : Int)) F)).map row4) (i : Int) = row4 (atE (arL (pntF F.T (k : Int)) F (obL (pntF F.T (k : Int)) F)) (i : Int)) := row2_map (by omega)
      have lk : (row2 ((arL (pntF F.T (k : Int)) F (obL (pntF F.T (k : Int)) F)).map row4) (i : Int)).length = 4 := by rw [e4]; rfl
      try simp only [List.nil_append, List.cons_append, List.append_assoc, List.set_cons_succ, List.set_cons_zero]
      refine ga_start _ (fun w M => mem_erase 14 (M)) ?_
      refine ga_v 0 rfl (by kernel_rfl) (by kernel_rfl) (by kernel_rfl) (.free rfl) rfl rfl (qt_move rfl rfl) (fun _ _ _ h => h) ?_
      refine ga_v 1 rfl (by kernel_rfl) (by kernel_rfl) (by kernel_rfl) (.free rfl) rfl rfl (qt_move rfl rfl) (fun _ _ _ h => h) ?_
      refine ga_v 2 rfl (by kernel_rfl) (by kernel_rfl) (by kernel_rfl) (.free rfl) rfl rfl (qt_move rfl rfl) (fun _ _ _ h => h) ?_
      refine ga_v 3 rfl (by kernel_rfl) (by kernel_rfl) (by kernel_rfl) (.free rfl) rfl rfl (qt_index rfl rfl rfl ulE2 szE2 (fun w M => lenA_U (n := 13) rfl M) (by omega) (by omega)) (fun _ _ _ h => h) ?_
      refine ga_v 4 rfl (by kernel_rfl) (by kernel_rfl) (by kernel_rfl) (.free rfl) rfl rfl (qt_loadU (n := 13) rfl rfl Tryz.underlying22 rfl rfl (by omega) (by omega)) (fun _ _ _ h => h) ?_
      refine ga_v 5 rfl (by kernel_rfl) (by kernel_rfl) (by kernel_rfl) (.free rfl) rfl rfl (qt_index rfl rfl rfl ulE1 szE1 (fun w M => lenA_row (n := 13) rfl (by omega) (by omega) M) (by omega) (by omega)) (fun _ _ _ h => h) ?_
      refine ga_v 6 rfl (by kernel_rfl) (by kernel_rfl) (by kernel_rfl) (.free rfl) rfl rfl (qt_load1 rfl rfl Tryz.underlying2 rfl (fun w M => mem_rowU (n := 13) M rfl (by omega) (by omega)) (by omega) (by omega)) (fun _ _ _ h => h) ?_
      refine ga_v 7 rfl (by kernel_rfl) (by kernel_rfl) (by kernel_rfl) (.free rfl) rfl rfl (qt_move rfl rfl) (fun _ _ _ h => h) ?_
      refine ga_v 8 rfl (by kernel_rfl) (by kernel_rfl) (by kernel_rfl) (.free rfl) rfl rfl (qt_move rfl rfl) (fun _ _ _ h => h) ?_
      refine ga_v 9 rfl (by kernel_rfl) (by kernel_rfl) (by kernel_rfl) (.free rfl) rfl rfl (qt_index rfl rfl rfl ulE2 szE2 (fun w M => lenA_U (n := 13) rfl M) (by omega) (by omega)) (fun _ _ _ h => h) ?_
      refine ga_v 10 rfl (by kernel_rfl) (by kernel_rfl) (by kernel_rfl) (.free rfl) rfl rfl (qt_loadU (n := 13) rfl rfl Tryz.underlying22 rfl rfl (by omega) (by omega)) (fun _ _ _ h => h) ?_
      refine ga_v 11 rfl (by kernel_rfl) (by kernel_rfl) (by kernel_rfl) (.free rfl) rfl rfl (qt_index rfl rfl rfl ulE1 szE1 (fun w M => lenA_row (n := 13) rfl (by omega) (by omega) M) (by omega) (by omega)) (fun _ _ _ h => h) ?_
      refine ga_v 12 rfl (by kernel_rfl) (by kernel_rfl) (by kernel_rfl) (.free rfl) rfl rfl (qt_load1 rfl rfl Tryz.underlying2 rfl (fun w M => mem_rowU (n := 13) M rfl (by omega) (by omega)) (by omega) (by omega)) (fun _ _ _ h => h) ?_
      refine ga_op 13 (by kernel_rfl) rfl (.free rfl) fun K32 hK32 => ?_
      refine go_slice2 rfl rfl rfl rfl rfl Tryz.underlying22 ?_
      intro B31
      refine hK32 _ _ (fun w M => (mem_erase 14 (mem_take 15 M) :)) ?_
      refine ga_op 14 (by kernel_rfl) rfl (.free rfl) fun K34 hK34 => ?_
      refine go_sliceR1 (m := 15) rfl rfl rfl rfl Tryz.underlying23 rfl ?_
      intro B33
      refine hK34 _ _ (fun w M => (mem_erase 14 (mem_take 15 M) :)) ?_
      refine ga_op 15 (by kernel_rfl) rfl (.free rfl) fun K36 hK36 => ?_
      refine go_appendRow (n := 14) (m := 15) (m' := 14) rfl rfl rfl Tryz.underlying23 rfl rfl rfl rfl rfl (by omega) ?_
      intro va35 vc35
      refine hK36 _ _ (fun w M => (mem_erase 14 (mem_take 15 M) :)) ?_
      refine ga_v 16 rfl (by kernel_rfl) (by kernel_rfl) (by kernel_rfl) (.free rfl) rfl rfl (qt_assign rfl rfl) (fun _ _ _ h => h) ?_
      refine ga_done (by kernel_rfl) ?_
      refine gk_block ?_
      refine gk_then (hK30 _ _ ?_)
      refine gc_region ?_
      refine g_v (.free rfl) rfl rfl (qt_move rfl rfl) ?_
      refine g_v (.free rfl) rfl rfl (qt_add rfl rfl rfl (by omega)) ?_
      refine g_v (.free rfl) rfl rfl (qt_assign rfl rfl) ?_
      refine g_nil ?_
      simp only [e4, r40, r41, endsA_take (show i < (arL (pntF F.T (k : Int)) F (obL (pntF F.T (k : Int)) F)).length by omega)]
      refine gk_then (gk_take 15 ?_)
      refine gk_sub ?hs_37 (hKL27 ((i + 1, _, _, _)) ?hi_37 ?hm_37)
      case hs_37 => exact (sub_cons rfl (sub_cons rfl (sub_cons rfl (sub_cons rfl (sub_cons rfl (sub_cons rfl (sub_cons rfl (sub_cons rfl (sub_cons rfl sub_nil)))))))))
      case hi_37 => omega
      case hm_37 => omega
    · try simp only [decide_eq_true_eq, decide_eq_false_iff_not, Bool.not_eq_true', Bool.not_eq_false', Bool.not_eq_eq_eq_not, Bool.not_true, Bool.not_false, ne_eq, Decidable.not_not, Classical.not_not] at hc1
      refine gc_exit ?_
      refine gk_then_exit ?_
      refine gk_then_exit ?_
      refine gk_block_hit ?_
      refine gk_then (hK25 _ _ ?_)
      refine gc_seq fun K38 hK38 => ?_
      obtain rfl : i = (arL (pntF F.T (k : Int)) F (obL (pntF F.T (k : Int)) F)).length := by omega
      simp only [List.take_length] at *
      refine gc_region ?_
      refine g_v (.free rfl) rfl rfl (qt_move rfl rfl) ?_
      refine g_v (.free rfl) rfl rfl (qt_len rfl rfl ulE2 (fun w M => lenV_U (n := 12) rfl M)) ?_
      refine g_v (.free rfl) rfl rfl (qt_move rfl rfl) ?_
      refine g_op (.free rfl) fun K40 hK40 => ?_
      refine go_callL rfl rfl rfl Tryz.func103 rfl (by decide) rfl (fun w M => specJoin_any w ((obL (pntF F.T (k : Int)) F).map row3).length _ (endsA (arL (pntF F.T (k : Int)) F (obL (pntF F.T (k : Int)) F))) (by omega) (mem_rdU (n := 14) M rfl) (by rw [List.length_map]; exact endsA_pair fun e he => he)) ?_
      intro va39 vc39
      refine hK40 _ _ ?_
      refine g_v (.free rfl) rfl rfl (qt_assign rfl rfl) ?_
      refine g_nil ?_
      refine gk_then (hK38 _ _ ?_)
      refine gc_seq fun K41 hK41 => ?_
      refine gc_seq fun K42 hK42 => ?_
      have hcl : (clsOf (specL ((obL (pntF F.T (k : Int)) F).map row3).length (endsA (arL (pntF F.T (k : Int)) F (obL (pntF F.T (k : Int)) F))))).length = (obL (pntF F.T (k : Int)) F).length := by rw [clsOf_len, specL_len, hlm]
      refine gc_region ?_
      refine g_v (.free rfl) rfl rfl (qt_assign rfl rfl) ?_
      refine g_nil ?_
      refine gk_then (hK42 _ _ ?_)
      refine gc_block ?_
      try simp only [List.nil_append, List.cons_append, List.append_assoc, List.set_cons_succ, List.set_cons_zero]
      refine gc_loop ([(0, _), (1, _), (3, _), (4, _), (5, _), (6, _), (7, _), (8, _), (9, _), (15, _), (33, _)] : Env) (fun s : Nat => (fun (j : Nat) => ([(10, .int .i64 (j : Int))] : Env)) s) (fun s : Nat => (fun (j : Nat) => ([] : List (Nat × Itm))) s) (fun s : Nat => (fun (j : Nat) => j ≤ (clsOf (specL ((obL (pntF F.T (k : Int)) F).map row3).length (endsA (arL (pntF F.T (k : Int)) F (obL (pntF F.T (k : Int)) F))))).length ∧ ∀ q : Nat, q < j → at0 (clsOf (specL ((obL (pntF F.T (k : Int)) F).map row3).length (endsA (arL (pntF F.T (k : Int)) F (obL (pntF F.T (k : Int)) F))))) (q : Int) = 0) s) (fun s : Nat => (fun (j : Nat) => (clsOf (specL ((obL (pntF F.T (k : Int)) F).map row3).length (endsA (arL (pntF F.T (k : Int)) F (obL (pntF F.T (k : Int)) F))))).length - j) s) (0) (sub_cons rfl (sub_cons rfl (sub_cons rfl (sub_cons rfl (sub_cons rfl (sub_cons rfl (sub_cons rfl (sub_cons rfl (sub_cons rfl (sub_cons rfl (sub_cons rfl (sub_cons rfl sub_nil)))))))))))) rfl ⟨Nat.zero_le _, fun q hq => absurd hq (by omega)⟩ ?_
      rintro j hinv KL43 hKL43
      simp only [updL, List.foldl_cons, List.foldl_nil, List.set_cons_succ, List.set_cons_zero, List.cons_append, List.nil_append] at hinv hKL43 ⊢
      obtain ⟨hjl, hz⟩ := hinv
      refine gc_seq fun K44 hK44 => ?_
      refine gc_seq fun K45 hK45 => ?_
      refine gc_region ?_
      refine g_v (.free rfl) rfl rfl (qt_move rfl rfl) ?_
      refine g_v (.free rfl) rfl rfl (qt_move rfl rfl) ?_
      refine g_v (.free rfl) rfl rfl (qt_len rfl rfl ulE1 (fun w M => lenV_own1 (n := 15) rfl M)) ?_
      refine g_v (.free rfl) rfl rfl (qt_lss rfl rfl rfl) ?_
      refine g_nil ?_
      refine gk_then (hK45 _ _ ?_)
      refine gc_cond rfl (fun hc2 => ?_) (fun hc2 => ?_)
      · try simp only [decide_eq_true_eq, decide_eq_false_iff_not, Bool.not_eq_true', Bool.not_eq_false', Bool.not_eq_eq_eq_not, Bool.not_true, Bool.not_false, ne_eq, Decidable.not_not, Classical.not_not] at hc2
        refine gc_skip ?_
        refine gk_then (hK44 _ _ ?_)
        refine gc_seq fun K46 hK46 => ?_
        refine gc_block ?_
        refine gc_seq fun K47 hK47 => ?_
        refine gc_region ?_
        refine g_v (.free rfl) rfl rfl (qt_move rfl rfl) ?_
        refine g_v (.free rfl) rfl rfl (qt_move rfl rfl) ?_
        refine g_v (.free rfl) rfl rfl (qt_index rfl rfl rfl ulE1 szE1 (fun w M => lenA_own1 (n := 15) rfl M) (by omega) (by omega)) ?_
        refine g_v (.free rfl) rfl rfl (qt_load1 rfl rfl Tryz.underlying2 rfl (fun w M => (mem_own1 (n := 15) M rfl).rd) (by omega) (by omega)) ?_
        refine g_v (.free rfl) rfl rfl (qt_neq rfl rfl rfl) ?_
        refine g_nil ?_
        refine gk_then (hK47 _ _ ?_)
        refine gc_cond rfl (fun hc3 => ?_) (fun hc3 => ?_)
        · try simp only [decide_eq_true_eq, decide_eq_false_iff_not, Bool.not_eq_true', Bool.not_eq_false', Bool.not_eq_eq_eq_not, Bool.not_true, Bool.not_false, ne_eq, Decidable.not_not, Classical.not_not] at hc3
          refine gc_seq fun K48 hK48 => ?_
          refine gc_region ?_
          refine g_v (.free rfl) rfl rfl (qt_assign rfl rfl) ?_
          refine g_nil ?_
          refine gk_then (hK48 _ _ ?_)
          refine gc_ret ?_
          refine gk_block_ret ?_
          refine gk_then_ret ?_
          refine gk_then_ret ?_
          refine gk_block_ret ?_
          refine gk_then_ret ?_
          refine gk_block_ret ?_
          refine gk_then_ret ?_
          refine gk_then_ret ?_
          refine gk_block_ret ?_
          refine gk_then_ret ?_
          refine ret_1 rfl rfl  (fun w M => ?_)
          rw [bP_f fun hq => hc3 (by have := (hq k (by omega)).2 j (by omega); rw [hlm]; exact this)]; exact ⟨rfl, M.1⟩
        · try simp only [decide_eq_true_eq, decide_eq_false_iff_not, Bool.not_eq_true', Bool.not_eq_false', Bool.not_eq_eq_eq_not, Bool.not_true, Bool.not_false, ne_eq, Decidable.not_not, Classical.not_not] at hc3
          refine gc_skip ?_
          refine gk_block ?_
          refine gk_then (hK46 _ _ ?_)
          refine gc_region ?_
          refine g_v (.free rfl) rfl rfl (qt_move rfl rfl) ?_
          refine g_v (.free rfl) rfl rfl (qt_add rfl rfl rfl (by omega)) ?_
          refine g_v (.free rfl) rfl rfl (qt_assign rfl rfl) ?_
          refine g_nil ?_
          refine gk_then (gk_take 16 ?_)
          refine gk_sub ?hs_49 (hKL43 (j + 1) ?hi_49 ?hm_49)
          case hs_49 => exact (sub_cons rfl (sub_cons rfl (sub_cons rfl (sub_cons rfl (sub_cons rfl (sub_cons rfl (sub_cons rfl (sub_cons rfl (sub_cons rfl (sub_cons rfl (sub_cons rfl (sub_cons rfl sub_nil))))))))))))
          case hi_49 => exact ⟨by omega, all_next0 hz (by omega)⟩
          case hm_49 => omega
      · try simp only [decide_eq_true_eq, decide_eq_false_iff_not, Bool.not_eq_true', Bool.not_eq_false', Bool.not_eq_eq_eq_not, Bool.not_true, Bool.not_false, ne_eq, Decidable.not_not, Classical.not_not] at hc2
        refine gc_exit ?_
        refine gk_then_exit ?_
        refine gk_then_exit ?_
        refine gk_block_hit ?_
        refine gk_then (hK41 _ _ ?_)
        refine gc_seq fun K50 hK50 => ?_
        refine gc_region ?_
        refine g_v (.free rfl) rfl rfl (qt_move rfl rfl) ?_
        refine g_v (.free rfl) rfl rfl (qt_len rfl rfl ulE2 (fun w M => lenV_U (n := 12) rfl M)) ?_
        refine g_v (.free rfl) rfl rfl (qt_eql rfl rfl rfl) ?_
        refine g_nil ?_
        refine gk_then (hK50 _ _ ?_)
        refine gc_cond rfl (fun hc4 => ?_) (fun hc4 => ?_)
        · try simp only [decide_eq_true_eq, decide_eq_false_iff_not, Bool.not_eq_true', Bool.not_eq_false', Bool.not_eq_eq_eq_not, Bool.not_true, Bool.not_false, ne_eq, Decidable.not_not, Classical.not_not] at hc4
          refine gc_seq fun K51 hK51 => ?_
          refine gc_region ?_
          refine g_v (.free rfl) rfl rfl (qt_assign rfl rfl) ?_
          refine g_nil ?_
          refine gk_then (hK51 _ _ ?_)
          refine gc_ret ?_
          refine gk_block_ret ?_
          refine gk_then_ret ?_
          refine gk_then_ret ?_
          refine gk_block_ret ?_
          refine gk_then_ret ?_
          refine ret_1 rfl rfl  (fun w M => ?_)
          rw [bP_f fun hq => absurd (hq k (by omega)).1 (by omega)]; exact ⟨rfl, M.1⟩
        · try simp only [decide_eq_true_eq, decide_eq_false_iff_not, Bool.not_eq_true', Bool.not_eq_false', Bool.not_eq_eq_eq_not, Bool.not_true, Bool.not_false, ne_eq, Decidable.not_not, Classical.not_not] at hc4
          refine gc_skip ?_
          refine gk_block ?_
          refine gk_then (hK9 _ _ ?_)
          refine gc_region ?_
          refine g_v (.free rfl) rfl rfl (qt_move rfl rfl) ?_
          refine g_v (.free rfl) rfl rfl (qt_add rfl rfl rfl (by omega)) ?_
          refine g_v (.free rfl) rfl rfl (qt_assign rfl rfl) ?_
          refine g_nil ?_
          refine gk_then (gk_take 1 ?_)
          refine gk_sub ?hs_52 (hKL6 (k + 1) ?hi_52 ?hm_52)
          case hs_52 => exact (sub_cons rfl (sub_cons rfl (sub_cons rfl sub_nil)))
          case hi_52 => exact ⟨by omega, all_next0 hj ⟨by omega, fun q hq => by have := hz q (by omega); rw [hlm] at this; exact this⟩⟩
          case hm_52 => omega
  · try simp only [decide_eq_true_eq, decide_eq_false_iff_not, Bool.not_eq_true', Bool.not_eq_false', Bool.not_eq_eq_eq_not, Bool.not_true, Bool.not_false, ne_eq, Decidable.not_not, Classical.not_not] at hc0
    refine gc_exit ?_
    refine gk_then_exit ?_
    refine gk_then_exit ?_
    refine gk_block_hit ?_
    refine gk_then (hK4 _ _ ?_)
    refine gc_seq fun K53 hK53 => ?_
    refine gc_region ?_
    refine g_v (.free rfl) rfl rfl (qt_assign rfl rfl) ?_
    refine g_nil ?_
    refine gk_then (hK53 _ _ ?_)
    refine gc_ret ?_
    refine ret_1 rfl rfl  (fun w M => ?_)
    rw [bP_t (p := finP F) fun x hx => hj x (by omega)]; exact ⟨rfl, M.1⟩
end Go.Proofs.YtpcabkdkdnchaaaGreat
