import Derived.Test.YtpcabkdkdnchaaaGreatN16
import Derived.Test.YtpcabkdkdnchaaaGreatN17
import Derived.Test.YtpcabkdkdnchaaaGreatN15
set_option linter.unusedSimpArgs false
set_option linter.unusedVariables false
set_option linter.unusedSectionVars false
namespace Go.Proofs.YtpcabkdkdnchaaaGreat
open Go.RowKit
theorem obU_rowS {F G : Fct} {a b i : Nat} (hi : i < (homTo F.T (at0 F.o (a : Int)) (at0 G.o (b : Int)) F.T.s.length).length) : (obU F G a b i).map row3 ++ [[(a : Int), (b : Int), at0 (homTo F.T (at0 F.o (a : Int)) (at0 G.o (b : Int)) F.T.s.length) (i : Int)]] = (obU F G a b (i + 1)).map row3 := by
  rw [← obU_succ hi, List.map_append]; rfl
noncomputable def arI (F G : Fct) (os : List (Ent Int)) (s t i j : Nat) : List (Ent (Int × Int)) := arU F G os s t (paI F G (atE os (s : Int)) (atE os (t : Int)) i j)
theorem arI_t {F G : Fct} {os : List (Ent Int)} {s t i j : Nat} (hj : j < (homTo G.S (atE os (s : Int)).2.1 (atE os (t : Int)).2.1 G.S.s.length).length) (h : cmB F G (atE os (s : Int)).2.2 (atE os (t : Int)).2.2 (at0 (homTo F.S (atE os (s : Int)).1 (atE os (t : Int)).1 F.S.s.length) (i : Int)) (at0 (homTo G.S (atE os (s : Int)).2.1 (atE os (t : Int)).2.1 G.S.s.length) (j : Int)) = true) :
    (arI F G os s t i j).map row4 ++ [[(s : Int), (t : Int), at0 (homTo F.S (atE os (s : Int)).1 (atE os (t : Int)).1 F.S.s.length) (i : Int), at0 (homTo G.S (atE os (s : Int)).2.1 (atE os (t : Int)).2.1 G.S.s.length) (j : Int)]] = (arI F G os s t i (j + 1)).map row4 := by
  unfold arI; rw [← paI_t hj h, ← arU_snoc, List.map_append]; rfl
theorem arI_f {F G : Fct} {os : List (Ent Int)} {s t i j : Nat} (hj : j < (homTo G.S (atE os (s : Int)).2.1 (atE os (t : Int)).2.1 G.S.s.length).length) (h : cmB F G (atE os (s : Int)).2.2 (atE os (t : Int)).2.2 (at0 (homTo F.S (atE os (s : Int)).1 (atE os (t : Int)).1 F.S.s.length) (i : Int)) (at0 (homTo G.S (atE os (s : Int)).2.1 (atE os (t : Int)).2.1 G.S.s.length) (j : Int)) = false) :
    arI F G os s t i j = arI F G os s t i (j + 1) := by
  unfold arI; rw [← paI_f hj h]
theorem arI_i {F G : Fct} {os : List (Ent Int)} {s t i : Nat} (hi : i < (homTo F.S (atE os (s : Int)).1 (atE os (t : Int)).1 F.S.s.length).length) : arI F G os s t i (homTo G.S (atE os (s : Int)).2.1 (atE os (t : Int)).2.1 G.S.s.length).length = arI F G os s t (i + 1) 0 := by unfold arI; rw [paI_i hi]
theorem arI_0 {F G : Fct} {os : List (Ent Int)} {s t : Nat} : arI F G os s t 0 0 = arU F G os s t [] := by unfold arI; rw [paI_0]
theorem arI_end {F G : Fct} {os : List (Ent Int)} {s t : Nat} : arI F G os s t (homTo F.S (atE os (s : Int)).1 (atE os (t : Int)).1 F.S.s.length).length 0 = arU F G os s (t + 1) [] := by unfold arI; rw [paI_end, arU_t]
theorem arI_len {F G : Fct} {os : List (Ent Int)} {s t i j : Nat} (hs : s < os.length) (ht : t < os.length) (hi : i < (homTo F.S (atE os (s : Int)).1 (atE os (t : Int)).1 F.S.s.length).length) (ho : os.length ≤ 2560) (hf : F.S.s.length ≤ 40) (hg : G.S.s.length ≤ 40) : ((arI F G os s t i j).map row4).length ≤ 10485760000 := by
  rw [List.length_map]
  exact Nat.le_trans (arU_pre hs ht (paI_pre hi)).length_le (Nat.le_trans (arL_len ho hf hg) (by omega))
theorem r30 (e : Ent Int) : at0 (row3 e) 0 = e.1 := rfl
theorem r31 (e : Ent Int) : at0 (row3 e) 1 = e.2.1 := rfl
theorem r32 (e : Ent Int) : at0 (row3 e) 2 = e.2.2 := rfl
set_option maxHeartbeats 2000000 in
set_option maxRecDepth 100000 in
theorem specObs_any (w : World) (v : Value) (F : Fct) (u : Value) (G : Fct) (h : RdF w v F) (e : RdF w u G) (hF : IsFct F) (hG : IsFct G) :
    Calls Tryz.prog 75 #[v, u] w (RetR w ((obL F G).map row3)) := by
  have h0 := h
  obtain ⟨vx1, vx2, vx3, vx4, vx5, vx6, vx7, vx8, vx9, vx10, vk1, vk2, vk3, vk4, vk5, vk6, vk7, vk8, vk9, vk10, rfl, h1, h2, h3, h4, h5, h6, h7, h8, h9, h10⟩ := h.lists
  have e0 := e
  obtain ⟨ux1, ux2, ux3, ux4, ux5, ux6, ux7, ux8, ux9, ux10, uk1, uk2, uk3, uk4, uk5, uk6, uk7, uk8, uk9, uk10, rfl, e1, e2, e3, e4, e5, e6, e7, e8, e9, e10⟩ := e.lists
  have fS := (isCat_of hF.cs).toShapeP; have fT := (isCat_of hF.ct).toShapeP; have gS := (isCat_of hG.cs).toShapeP
  have fo := hF.lo; have fa := hF.la; have go := hG.lo; have ga := hG.la
  have s8 := fS.ob8; have s0 := fS.ob0; have g8 := gS.ob8; have g0 := gS.ob0; have n1 := fS.n40; have n2 := gS.n40; have n3 := fT.n40
  have hoL := obL_len (F := F) (G := G) (by omega) (by omega) n3
  go_enter Tryz.func75, Tryz.ntmps75
  refine gc_enter (N := 55) rfl (look_cons (k := 0) rfl (look_cons (k := 1) rfl (look_nil _))) ?_
  refine gc_seq fun K1 hK1 => ?_
  refine gc_region ?_
  refine g_op (.free rfl) fun K3 hK3 => ?_
  refine go_box rfl rfl rfl rfl rfl ?_
  intro B2
  refine hK3 _ _ ?_
  refine g_op (.free rfl) fun K5 hK5 => ?_
  refine go_box rfl rfl rfl rfl rfl ?_
  intro B4
  refine hK5 _ _ ?_
  refine g_v (.free rfl) rfl rfl (qt_assign rfl rfl) ?_
  refine g_nil ?_
  refine gk_then (hK1 _ _ ?_)
  refine gc_seq fun K6 hK6 => ?_
  refine gc_region ?_
  refine g_op (.free rfl) fun K8 hK8 => ?_
  refine go_sliceR0 rfl rfl rfl Tryz.underlying23 ?_
  intro B7
  refine hK8 _ _ ?_
  refine g_v (.free rfl) rfl rfl (qt_assign rfl rfl) ?_
  refine g_nil ?_
  refine gk_then (hK6 _ _ ?_)
  refine gc_seq fun K9 hK9 => ?_
  refine gc_seq fun K10 hK10 => ?_
  refine gc_region ?_
  refine g_v (.free rfl) rfl rfl (qt_assign rfl rfl) ?_
  refine g_nil ?_
  refine gk_then (hK10 _ _ ?_)
  refine gc_block ?_
  rw [show ([] : List (List Int)) = (obU F G 0 0 0).map row3 by rw [obU_0]; rfl]
  try simp only [List.nil_append, List.cons_append, List.append_assoc, List.set_cons_succ, List.set_cons_zero]
  refine gc_loop ([(0, _), (1, _), (2, _), (3, _), (4, _)] : Env) (fun s : Nat × (Option Addr) × Nat × (List Value) => (fun (k : Nat) (a : Option Addr) (q : Nat) (us : List Value) => ([(5, .slice a ((obU F G k 0 0).map row3).length q), (6, .int .i64 (k : Int))] : Env)) s.1 s.2.1 s.2.2.1 s.2.2.2) (fun s : Nat × (Option Addr) × Nat × (List Value) => (fun (k : Nat) (a : Option Addr) (q : Nat) (us : List Value) => ([(2, own2U (.slice a ((obU F G k 0 0).map row3).length q) us ((obU F G k 0 0).map row3))] : List (Nat × Itm))) s.1 s.2.1 s.2.2.1 s.2.2.2) (fun s : Nat × (Option Addr) × Nat × (List Value) => (fun (k : Nat) (a : Option Addr) (q : Nat) (us : List Value) => k ≤ F.o.length) s.1 s.2.1 s.2.2.1 s.2.2.2) (fun s : Nat × (Option Addr) × Nat × (List Value) => (fun (k : Nat) (a : Option Addr) (q : Nat) (us : List Value) => F.o.length - k) s.1 s.2.1 s.2.2.1 s.2.2.2) ((0, _, _, _)) (sub_cons rfl (sub_cons rfl (sub_cons rfl (sub_cons rfl (sub_cons rfl (sub_cons rfl (sub_cons rfl sub_nil))))))) rfl (Nat.zero_le _) ?_
  rintro ⟨k, a, q, us⟩ hinv KL11 hKL11
  simp only [updL, List.foldl_cons, List.foldl_nil, List.set_cons_succ, List.set_cons_zero, List.cons_append, List.nil_append] at hinv hKL11 ⊢
  have hk := hinv
  refine gc_seq fun K12 hK12 => ?_
  refine gc_seq fun K13 hK13 => ?_
  refine gc_region ?_
  refine g_v (.free rfl) rfl rfl (qt_move rfl rfl) ?_
  refine g_v (.free rfl) rfl rfl (qt_field (z := 4) (off := 0) rfl rfl Tryz.underlying31 rfl (by kernel_rfl) rfl) ?_
  refine g_v (.free rfl) rfl rfl (qt_field (z := 0) (off := 0) rfl rfl Tryz.underlying29 rfl (by kernel_rfl) rfl) ?_
  refine g_v (.free rfl) rfl rfl (qt_loadB (n := 0) rfl rfl Tryz.underlying2 rfl rfl rfl) ?_
  refine g_v (.free rfl) rfl rfl (qt_lss rfl rfl rfl) ?_
  refine g_nil ?_
  refine gk_then (hK13 _ _ ?_)
  refine gc_cond rfl (fun hc0 => ?_) (fun hc0 => ?_)
  · try simp only [decide_eq_true_eq, decide_eq_false_iff_not, Bool.not_eq_true', Bool.not_eq_false', Bool.not_eq_eq_eq_not, Bool.not_true, Bool.not_false, ne_eq, Decidable.not_not, Classical.not_not] at hc0
    refine gc_skip ?_
    refine gk_then (hK12 _ _ ?_)
    refine gc_seq fun K14 hK14 => ?_
    refine gc_block ?_
    refine gc_seq fun K15 hK15 => ?_
    refine gc_region ?_
    refine g_v (.free rfl) rfl rfl (qt_assign rfl rfl) ?_
    refine g_nil ?_
    refine gk_then (hK15 _ _ ?_)
    refine gc_block ?_
    try simp only [List.nil_append, List.cons_append, List.append_assoc, List.set_cons_succ, List.set_cons_zero]
    refine gc_loop ([(0, _), (1, _), (2, _), (3, _), (4, _), (6, _), (15, _)] : Env) (fun s : Nat × (Option Addr) × Nat × (List Value) => (fun (j : Nat) (a : Option Addr) (q : Nat) (us : List Value) => ([(5, .slice a ((obU F G k j 0).map row3).length q), (7, .int .i64 (j : Int))] : Env)) s.1 s.2.1 s.2.2.1 s.2.2.2) (fun s : Nat × (Option Addr) × Nat × (List Value) => (fun (j : Nat) (a : Option Addr) (q : Nat) (us : List Value) => ([(2, own2U (.slice a ((obU F G k j 0).map row3).length q) us ((obU F G k j 0).map row3))] : List (Nat × Itm))) s.1 s.2.1 s.2.2.1 s.2.2.2) (fun s : Nat × (Option Addr) × Nat × (List Value) => (fun (j : Nat) (a : Option Addr) (q : Nat) (us : List Value) => j ≤ G.o.length) s.1 s.2.1 s.2.2.1 s.2.2.2) (fun s : Nat × (Option Addr) × Nat × (List Value) => (fun (j : Nat) (a : Option Addr) (q : Nat) (us : List Value) => G.o.length - j) s.1 s.2.1 s.2.2.1 s.2.2.2) ((0, _, _, _)) (sub_cons rfl (sub_cons rfl (sub_cons rfl (sub_cons rfl (sub_cons rfl (sub_cons rfl (sub_cons rfl (sub_cons rfl (sub_cons rfl sub_nil))))))))) rfl (Nat.zero_le _) ?_
    rintro ⟨j, a, q, us⟩ hinv KL16 hKL16
    simp only [updL, List.foldl_cons, List.foldl_nil, List.set_cons_succ, List.set_cons_zero, List.cons_append, List.nil_append] at hinv hKL16 ⊢
    have hj := hinv
    refine gc_seq fun K17 hK17 => ?_
    refine gc_seq fun K18 hK18 => ?_
    refine gc_region ?_
    refine g_v (.free rfl) rfl rfl (qt_move rfl rfl) ?_
    refine g_v (.free rfl) rfl rfl (qt_field (z := 4) (off := 0) rfl rfl Tryz.underlying31 rfl (by kernel_rfl) rfl) ?_
    refine g_v (.free rfl) rfl rfl (qt_field (z := 0) (off := 0) rfl rfl Tryz.underlying29 rfl (by kernel_rfl) rfl) ?_
    refine g_v (.free rfl) rfl rfl (qt_loadB (n := 1) rfl rfl Tryz.underlying2 rfl rfl rfl) ?_
    refine g_v (.free rfl) rfl rfl (qt_lss rfl rfl rfl) ?_
    refine g_nil ?_
    refine gk_then (hK18 _ _ ?_)
    refine gc_cond rfl (fun hc1 => ?_) (fun hc1 => ?_)
    · try simp only [decide_eq_true_eq, decide_eq_false_iff_not, Bool.not_eq_true', Bool.not_eq_false', Bool.not_eq_eq_eq_not, Bool.not_true, Bool.not_false, ne_eq, Decidable.not_not, Classical.not_not] at hc1
      refine gc_skip ?_
      refine gk_then (hK17 _ _ ?_)
      refine gc_seq fun K19 hK19 => ?_
      refine gc_block ?_
      refine gc_seq fun K20 hK20 => ?_
      try simp only [List.nil_append, List.cons_append, List.append_assoc, List.set_cons_succ, List.set_cons_zero]
      refine ga_start _ (fun w M => M) ?_
      refine ga_v 0 rfl (by kernel_rfl) (by kernel_rfl) (by kernel_rfl) (.free rfl) rfl rfl (qt_field (z := 4) (off := 5) rfl rfl Tryz.underlying31 rfl (by kernel_rfl) rfl) (fun _ _ _ h => h) ?_
      refine ga_v 1 rfl (by kernel_rfl) (by kernel_rfl) (by kernel_rfl) (.free rfl) rfl rfl (qt_loadP (n := 0) (z := 5) rfl rfl Tryz.underlying29 rfl (by kernel_rfl) rfl (by first | decide | exact Nat.le_refl _ | simp)) (fun _ _ _ h => h) ?_
      refine ga_v 2 rfl (by kernel_rfl) (by kernel_rfl) (by kernel_rfl) (.free rfl) rfl rfl (qt_field (z := 0) (off := 10) rfl rfl Tryz.underlying31 rfl (by kernel_rfl) rfl) (fun _ _ _ h => h) ?_
      refine ga_v 3 rfl (by kernel_rfl) (by kernel_rfl) (by kernel_rfl) (.free rfl) rfl rfl (qt_loadB (n := 0) rfl rfl Tryz.underlying22 rfl rfl rfl) (fun _ _ _ h => h) ?_
      refine ga_v 4 rfl (by kernel_rfl) (by kernel_rfl) (by kernel_rfl) (.free rfl) rfl rfl (qt_move rfl rfl) (fun _ _ _ h => h) ?_
      refine ga_v 5 rfl (by kernel_rfl) (by kernel_rfl) (by kernel_rfl) (.free rfl) rfl rfl (qt_index rfl rfl rfl ulE1 szE1 (fun w M => lenA_rd h9) (by omega) (by omega)) (fun _ _ _ h => h) ?_
      refine ga_v 6 rfl (by kernel_rfl) (by kernel_rfl) (by kernel_rfl) (.free rfl) rfl rfl (qt_load1 rfl rfl Tryz.underlying2 rfl (fun w M => mem_rd M h9) (by omega) (by omega)) (fun _ _ _ h => h) ?_
      refine ga_v 7 rfl (by kernel_rfl) (by kernel_rfl) (by kernel_rfl) (.free rfl) rfl rfl (qt_field (z := 0) (off := 10) rfl rfl Tryz.underlying31 rfl (by kernel_rfl) rfl) (fun _ _ _ h => h) ?_
      refine ga_v 8 rfl (by kernel_rfl) (by kernel_rfl) (by kernel_rfl) (.free rfl) rfl rfl (qt_loadB (n := 1) rfl rfl Tryz.underlying22 rfl rfl rfl) (fun _ _ _ h => h) ?_
      refine ga_v 9 rfl (by kernel_rfl) (by kernel_rfl) (by kernel_rfl) (.free rfl) rfl rfl (qt_move rfl rfl) (fun _ _ _ h => h) ?_
      refine ga_v 10 rfl (by kernel_rfl) (by kernel_rfl) (by kernel_rfl) (.free rfl) rfl rfl (qt_index rfl rfl rfl ulE1 szE1 (fun w M => lenA_rd e9) (by omega) (by omega)) (fun _ _ _ h => h) ?_
      refine ga_v 11 rfl (by kernel_rfl) (by kernel_rfl) (by kernel_rfl) (.free rfl) rfl rfl (qt_load1 rfl rfl Tryz.underlying2 rfl (fun w M => mem_rd M e9) (by omega) (by omega)) (fun _ _ _ h => h) ?_
      refine ga_op 12 (by kernel_rfl) rfl (.free rfl) fun K22 hK22 => ?_
      refine go_callL rfl rfl rfl Tryz.func110 rfl (by decide) rfl (fun w M => specHom_any w _ _ _ _ (rdC_mk (mem_rd M h5) (mem_rd M h6) (mem_rd M h7) (mem_rd2 M h8)) (fT)) ?_
      intro va21 vc21
      refine hK22 _ _ (fun w M => (mem_take 3 M :)) ?_
      refine ga_v 13 rfl (by kernel_rfl) (by kernel_rfl) (by kernel_rfl) (.free rfl) rfl rfl (qt_assign rfl rfl) (fun _ _ _ h => h) ?_
      refine ga_done (by kernel_rfl) ?_
      refine gk_then (hK20 _ _ ?_)
      refine gc_seq fun K23 hK23 => ?_
      refine gc_region ?_
      refine g_v (.free rfl) rfl rfl (qt_assign rfl rfl) ?_
      refine g_nil ?_
      refine gk_then (hK23 _ _ ?_)
      refine gc_block ?_
      try simp only [List.nil_append, List.cons_append, List.append_assoc, List.set_cons_succ, List.set_cons_zero]
      refine gc_loop ([(0, _), (1, _), (2, _), (3, _), (4, _), (6, _), (7, _), (8, _), (15, _), (22, _)] : Env) (fun s : Nat × (Option Addr) × Nat × (List Value) => (fun (i : Nat) (a : Option Addr) (q : Nat) (us : List Value) => ([(5, .slice a ((obU F G k j i).map row3).length q), (9, .int .i64 (i : Int))] : Env)) s.1 s.2.1 s.2.2.1 s.2.2.2) (fun s : Nat × (Option Addr) × Nat × (List Value) => (fun (i : Nat) (a : Option Addr) (q : Nat) (us : List Value) => ([(2, own2U (.slice a ((obU F G k j i).map row3).length q) us ((obU F G k j i).map row3))] : List (Nat × Itm))) s.1 s.2.1 s.2.2.1 s.2.2.2) (fun s : Nat × (Option Addr) × Nat × (List Value) => (fun (i : Nat) (a : Option Addr) (q : Nat) (us : List Value) => i ≤ (homTo F.T (at0 F.o (k : Int)) (at0 G.o (j : Int)) F.T.s.length).length) s.1 s.2.1 s.2.2.1 s.2.2.2) (fun s : Nat × (Option Addr) × Nat × (List Value) => (fun (i : Nat) (a : Option Addr) (q : Nat) (us : List Value) => (homTo F.T (at0 F.o (k : Int)) (at0 G.o (j : Int)) F.T.s.length).length - i) s.1 s.2.1 s.2.2.1 s.2.2.2) ((0, _, _, _)) (sub_cons rfl (sub_cons rfl (sub_cons rfl (sub_cons rfl (sub_cons rfl (sub_cons rfl (sub_cons rfl (sub_cons rfl (sub_cons rfl (sub_cons rfl (sub_cons rfl (sub_cons rfl sub_nil)))))))))))) rfl (Nat.zero_le _) ?_
      rintro ⟨i, a, q, us⟩ hinv KL24 hKL24
      simp only [updL, List.foldl_cons, List.foldl_nil, List.set_cons_succ, List.set_cons_zero, List.cons_append, List.nil_append] at hinv hKL24 ⊢
      have hi := hinv
      have hhl := homTo_len F.T (at0 F.o (k : Int)) (at0 G.o (j : Int)) F.T.s.length
      refine gc_seq fun K25 hK25 => ?_
      refine gc_seq fun K26 hK26 => ?_
      refine gc_region ?_
      refine g_v (.free rfl) rfl rfl (qt_move rfl rfl) ?_
      refine g_v (.free rfl) rfl rfl (qt_move rfl rfl) ?_
      refine g_v (.free rfl) rfl rfl (qt_len rfl rfl ulE1 (fun w M => lenV_own1 (n := 3) rfl M)) ?_
      refine g_v (.free rfl) rfl rfl (qt_lss rfl rfl rfl) ?_
      refine g_nil ?_
      refine gk_then (hK26 _ _ ?_)
      refine gc_cond rfl (fun hc2 => ?_) (fun hc2 => ?_)
      · try simp only [decide_eq_true_eq, decide_eq_false_iff_not, Bool.not_eq_true', Bool.not_eq_false', Bool.not_eq_eq_eq_not, Bool.not_true, Bool.not_false, ne_eq, Decidable.not_not, Classical.not_not] at hc2
        refine gc_skip ?_
        refine gk_then (hK25 _ _ ?_)
        refine gc_seq fun K27 hK27 => ?_
        refine gc_block ?_
        refine gc_region ?_
        refine g_v (.free rfl) rfl rfl (qt_move rfl rfl) ?_
        refine g_v (.free rfl) rfl rfl (qt_move rfl rfl) ?_
        refine g_v (.free rfl) rfl rfl (qt_move rfl rfl) ?_
        refine g_v (.free rfl) rfl rfl (qt_move rfl rfl) ?_
        refine g_v (.free rfl) rfl rfl (qt_move rfl rfl) ?_
        refine g_v (.free rfl) rfl rfl (qt_index rfl rfl rfl ulE1 szE1 (fun w M => lenA_own1 (n := 3) rfl M) (by omega) (by omega)) ?_
        refine g_v (.free rfl) rfl rfl (qt_load1 rfl rfl Tryz.underlying2 rfl (fun w M => (mem_own1 (n := 3) M rfl).rd) (by omega) (by omega)) ?_
        refine g_op (.free rfl) fun K29 hK29 => ?_
        refine go_slice3I rfl rfl rfl rfl rfl rfl Tryz.underlying22 ?_
        intro B28
        refine hK29 _ _ ?_
        refine g_op (.free rfl) fun K31 hK31 => ?_
        refine go_sliceR1 (m := 4) rfl rfl rfl rfl Tryz.underlying23 rfl ?_
        intro B30
        refine hK31 _ _ ?_
        refine g_op (.free rfl) fun K33 hK33 => ?_
        refine go_appendRow (n := 2) (m := 4) (m' := 3) rfl rfl rfl Tryz.underlying23 rfl rfl rfl rfl rfl (by rw [List.length_map]; have := (obU_pre (F := F) (G := G) (a := k) (b := j) (i := i) (by omega) (by omega) (by omega)).length_le; simp at this; omega) ?_
        intro va32 vc32
        refine hK33 _ _ ?_
        refine g_v (.free rfl) rfl rfl (qt_assign rfl rfl) ?_
        refine g_nil ?_
        refine gk_block ?_
        refine gk_then (hK27 _ _ ?_)
        refine gc_region ?_
        refine g_v (.free rfl) rfl rfl (qt_move rfl rfl) ?_
        refine g_v (.free rfl) rfl rfl (qt_add rfl rfl rfl (by omega)) ?_
        refine g_v (.free rfl) rfl rfl (qt_assign rfl rfl) ?_
        refine g_nil ?_
        simp only [obU_rowS (show i < (homTo F.T (at0 F.o (k : Int)) (at0 G.o (j : Int)) F.T.s.length).length by omega)]
        refine gk_then (gk_take 4 ?_)
        refine gk_sub ?hs_34 (hKL24 ((i + 1, _, _, _)) ?hi_34 ?hm_34)
        case hs_34 => exact (sub_cons rfl (sub_cons rfl (sub_cons rfl (sub_cons rfl (sub_cons rfl (sub_cons rfl (sub_cons rfl (sub_cons rfl (sub_cons rfl (sub_cons rfl (sub_cons rfl (sub_cons rfl sub_nil))))))))))))
        case hi_34 => omega
        case hm_34 => omega
      · try simp only [decide_eq_true_eq, decide_eq_false_iff_not, Bool.not_eq_true', Bool.not_eq_false', Bool.not_eq_eq_eq_not, Bool.not_true, Bool.not_false, ne_eq, Decidable.not_not, Classical.not_not] at hc2
        refine gc_exit ?_
        refine gk_then_exit ?_
        refine gk_then_exit ?_
        refine gk_block_hit ?_
        refine gk_block ?_
        refine gk_then (hK19 _ _ ?_)
        refine gc_region ?_
        refine g_v (.free rfl) rfl rfl (qt_move rfl rfl) ?_
        refine g_v (.free rfl) rfl rfl (qt_add rfl rfl rfl (by omega)) ?_
        refine g_v (.free rfl) rfl rfl (qt_assign rfl rfl) ?_
        refine g_nil ?_
        obtain rfl : i = (homTo F.T (at0 F.o (k : Int)) (at0 G.o (j : Int)) F.T.s.length).length := by omega
        simp only [obU_b]
        refine gk_then (gk_take 3 ?_)
        refine gk_sub ?hs_35 (hKL16 ((j + 1, _, _, _)) ?hi_35 ?hm_35)
        case hs_35 => exact (sub_cons rfl (sub_cons rfl (sub_cons rfl (sub_cons rfl (sub_cons rfl (sub_cons rfl (sub_cons rfl (sub_cons rfl (sub_cons rfl sub_nil)))))))))
        case hi_35 => omega
        case hm_35 => omega
    · try simp only [decide_eq_true_eq, decide_eq_false_iff_not, Bool.not_eq_true', Bool.not_eq_false', Bool.not_eq_eq_eq_not, Bool.not_true, Bool.not_false, ne_eq, Decidable.not_not, Classical.not_not] at hc1
      refine gc_exit ?_
      refine gk_then_exit ?_
      refine gk_then_exit ?_
      refine gk_block_hit ?_
      refine gk_block ?_
      refine gk_then (hK14 _ _ ?_)
      refine gc_region ?_
      refine g_v (.free rfl) rfl rfl (qt_move rfl rfl) ?_
      refine g_v (.free rfl) rfl rfl (qt_add rfl rfl rfl (by omega)) ?_
      refine g_v (.free rfl) rfl rfl (qt_assign rfl rfl) ?_
      refine g_nil ?_
      obtain rfl : j = G.o.length := by omega
      simp only [obU_a]
      refine gk_then (gk_take 3 ?_)
      refine gk_sub ?hs_36 (hKL11 ((k + 1, _, _, _)) ?hi_36 ?hm_36)
      case hs_36 => exact (sub_cons rfl (sub_cons rfl (sub_cons rfl (sub_cons rfl (sub_cons rfl (sub_cons rfl (sub_cons rfl sub_nil)))))))
      case hi_36 => omega
      case hm_36 => omega
  · try simp only [decide_eq_true_eq, decide_eq_false_iff_not, Bool.not_eq_true', Bool.not_eq_false', Bool.not_eq_eq_eq_not, Bool.not_true, Bool.not_false, ne_eq, Decidable.not_not, Classical.not_not] at hc0
    refine gc_exit ?_
    refine gk_then_exit ?_
    refine gk_then_exit ?_
    refine gk_block_hit ?_
    refine gk_then (hK9 _ _ ?_)
    refine gc_seq fun K37 hK37 => ?_
    refine gc_region ?_
    refine g_v (.free rfl) rfl rfl (qt_move rfl rfl) ?_
    refine g_v (.free rfl) rfl rfl (qt_assign rfl rfl) ?_
    refine g_nil ?_
    refine gk_then (hK37 _ _ ?_)
    refine gc_ret ?_
    refine ret_1 rfl rfl  (fun w M => ?_)
    obtain rfl : k = F.o.length := by omega
    simp only [obU_end] at M ⊢
    exact ⟨_, rfl, cm_sl2U (n := 2) M rfl, M.1⟩
set_option maxHeartbeats 8000000 in
set_option maxRecDepth 100000 in
theorem specArr_any (w : World) (v : Value) (F : Fct) (u : Value) (G : Fct) (h : RdF w v F) (e : RdF w u G) (hF : IsFct F) (hG : IsFct G) (hT : F.T = G.T) (p : Value) (os : List (Ent Int)) (ho : Rd2 w p (os.map row3)) (hol : os.length ≤ 2560) (hos : ∀ k : Nat, k < os.length → 0 ≤ (atE os (k : Int)).2.2 ∧ (atE os (k : Int)).2.2 < F.T.s.length) :
    Calls Tryz.prog 102 #[v, u, p] w (RetR w ((arL F G os).map row4)) := by
  have h0 := h
  obtain ⟨vx1, vx2, vx3, vx4, vx5, vx6, vx7, vx8, vx9, vx10, vk1, vk2, vk3, vk4, vk5, vk6, vk7, vk8, vk9, vk10, rfl, h1, h2, h3, h4, h5, h6, h7, h8, h9, h10⟩ := h.lists
  have e0 := e
  obtain ⟨ux1, ux2, ux3, ux4, ux5, ux6, ux7, ux8, ux9, ux10, uk1, uk2, uk3, uk4, uk5, uk6, uk7, uk8, uk9, uk10, rfl, e1, e2, e3, e4, e5, e6, e7, e8, e9, e10⟩ := e.lists
  obtain ⟨pa, pc, rfl⟩ := rd2_form ho
  have fS := (isCat_of hF.cs).toShapeP; have fT := (isCat_of hF.ct).toShapeP; have gS := (isCat_of hG.cs).toShapeP
  have fo := hF.lo; have fa := hF.la; have go := hG.lo; have ga := hG.la
  have s8 := fS.ob8; have s0 := fS.ob0; have g8 := gS.ob8; have g0 := gS.ob0; have n1 := fS.n40; have n2 := gS.n40; have n3 := fT.n40
  have hlm : (os.map row3).length = os.length := List.length_map ..
  go_enter Tryz.func102, Tryz.ntmps102
  refine gc_enter (N := 111) rfl (look_cons (k := 0) rfl (look_cons (k := 1) rfl (look_cons (k := 2) rfl (look_nil _)))) ?_
  refine gc_seq fun K1 hK1 => ?_
  refine gc_region ?_
  refine g_op (.free rfl) fun K3 hK3 => ?_
  refine go_box rfl rfl rfl rfl rfl ?_
  intro B2
  refine hK3 _ _ ?_
  refine g_op (.free rfl) fun K5 hK5 => ?_
  refine go_box rfl rfl rfl rfl rfl ?_
  intro B4
  refine hK5 _ _ ?_
  refine g_v (.free rfl) rfl rfl (qt_assign rfl rfl) ?_
  refine g_nil ?_
  refine gk_then (hK1 _ _ ?_)
  refine gc_seq fun K6 hK6 => ?_
  refine gc_region ?_
  refine g_op (.free rfl) fun K8 hK8 => ?_
  refine go_sliceR0 rfl rfl rfl Tryz.underlying23 ?_
  intro B7
  refine hK8 _ _ ?_
  refine g_v (.free rfl) rfl rfl (qt_assign rfl rfl) ?_
  refine g_nil ?_
  refine gk_then (hK6 _ _ ?_)
  refine gc_seq fun K9 hK9 => ?_
  refine gc_seq fun K10 hK10 => ?_
  refine gc_region ?_
  refine g_v (.free rfl) rfl rfl (qt_assign rfl rfl) ?_
  refine g_nil ?_
  refine gk_then (hK10 _ _ ?_)
  refine gc_block ?_
  rw [show ([] : List (List Int)) = (arU F G os 0 0 []).map row4 by rw [arU_0]; rfl]
  try simp only [List.nil_append, List.cons_append, List.append_assoc, List.set_cons_succ, List.set_cons_zero]
  refine gc_loop ([(0, _), (1, _), (2, _), (3, _), (4, _), (6, _)] : Env) (fun s : Nat × (Option Addr) × Nat × (List Value) => (fun (k : Nat) (a : Option Addr) (q : Nat) (us : List Value) => ([(7, .slice a ((arU F G os k 0 []).map row4).length q), (8, .int .i64 (k : Int))] : Env)) s.1 s.2.1 s.2.2.1 s.2.2.2) (fun s : Nat × (Option Addr) × Nat × (List Value) => (fun (k : Nat) (a : Option Addr) (q : Nat) (us : List Value) => ([(2, own2U (.slice a ((arU F G os k 0 []).map row4).length q) us ((arU F G os k 0 []).map row4))] : List (Nat × Itm))) s.1 s.2.1 s.2.2.1 s.2.2.2) (fun s : Nat × (Option Addr) × Nat × (List Value) => (fun (k : Nat) (a : Option Addr) (q : Nat) (us : List Value) => k ≤ os.length) s.1 s.2.1 s.2.2.1 s.2.2.2) (fun s : Nat × (Option Addr) × Nat × (List Value) => (fun (k : Nat) (a : Option Addr) (q : Nat) (us : List Value) => os.length - k) s.1 s.2.1 s.2.2.1 s.2.2.2) ((0, _, _, _)) (sub_cons rfl (sub_cons rfl (sub_cons rfl (sub_cons rfl (sub_cons rfl (sub_cons rfl (sub_cons rfl (sub_cons rfl sub_nil)))))))) rfl (Nat.zero_le _) ?_
  rintro ⟨k, a, q, us⟩ hinv KL11 hKL11
  simp only [updL, List.foldl_cons, List.foldl_nil, List.set_cons_succ, List.set_cons_zero, List.cons_append, List.nil_append] at hinv hKL11 ⊢
  have hk := hinv
  refine gc_seq fun K12 hK12 => ?_
  refine gc_seq fun K13 hK13 => ?_
  refine gc_region ?_
  refine g_v (.free rfl) rfl rfl (qt_move rfl rfl) ?_
  refine g_v (.free rfl) rfl rfl (qt_move rfl rfl) ?_
  refine g_v (.free rfl) rfl rfl (qt_len rfl rfl ulE2 (fun w M => lenV_rd2 ho)) ?_
  refine g_v (.free rfl) rfl rfl (qt_lss rfl rfl rfl) ?_
  refine g_nil ?_
  refine gk_then (hK13 _ _ ?_)
  refine gc_cond rfl (fun hc0 => ?_) (fun hc0 => ?_)
  · try simp only [decide_eq_true_eq, decide_eq_false_iff_not, Bool.not_eq_true', Bool.not_eq_false', Bool.not_eq_eq_eq_not, Bool.not_true, Bool.not_false, ne_eq, Decidable.not_not, Classical.not_not] at hc0
    refine gc_skip ?_
    refine gk_then (hK12 _ _ ?_)
    refine gc_seq fun K14 hK14 => ?_
    refine gc_block ?_
    refine gc_seq fun K15 hK15 => ?_
    refine gc_region ?_
    refine g_v (.free rfl) rfl rfl (qt_assign rfl rfl) ?_
    refine g_nil ?_
    refine gk_then (hK15 _ _ ?_)
    refine gc_block ?_
    try simp only [List.nil_append, List.cons_append, List.append_assoc, List.set_cons_succ, List.set_cons_zero]
    refine gc_loop ([(0, _), (1, _), (2, _), (3, _), (4, _), (6, _), (8, _), (20, _)] : Env) (fun s : Nat × (Option Addr) × Nat × (List Value) => (fun (j : Nat) (a : Option Addr) (q : Nat) (us : List Value) => ([(7, .slice a ((arU F G os k j []).map row4).length q), (9, .int .i64 (j : Int))] : Env)) s.1 s.2.1 s.2.2.1 s.2.2.2) (fun s : Nat × (Option Addr) × Nat × (List Value) => (fun (j : Nat) (a : Option Addr) (q : Nat) (us : List Value) => ([(2, own2U (.slice a ((arU F G os k j []).map row4).length q) us ((arU F G os k j []).map row4))] : List (Nat × Itm))) s.1 s.2.1 s.2.2.1 s.2.2.2) (fun s : Nat × (Option Addr) × Nat × (List Value) => (fun (j : Nat) (a : Option Addr) (q : Nat) (us : List Value) => j ≤ os.length) s.1 s.2.1 s.2.2.1 s.2.2.2) (fun s : Nat × (Option Addr) × Nat × (List Value) => (fun (j : Nat) (a : Option Addr) (q : Nat) (us : List Value) => os.length - j) s.1 s.2.1 s.2.2.1 s.2.2.2) ((0, _, _, _)) (sub_cons rfl (sub_cons rfl (sub_cons rfl (sub_cons rfl (sub_cons rfl (sub_cons rfl (sub_cons rfl (sub_cons rfl (sub_cons rfl (sub_cons rfl sub_nil)))))))))) rfl (Nat.zero_le _) ?_
    rintro ⟨j, a, q, us⟩ hinv KL16 hKL16
    simp only [updL, List.foldl_cons, List.foldl_nil, List.set_cons_succ, List.set_cons_zero, List.cons_append, List.nil_append] at hinv hKL16 ⊢
    have hj := hinv
    refine gc_seq fun K17 hK17 => ?_
    refine gc_seq fun K18 hK18 => ?_
    refine gc_region ?_
    refine g_v (.free rfl) rfl rfl (qt_move rfl rfl) ?_
    refine g_v (.free rfl) rfl rfl (qt_move rfl rfl) ?_
    refine g_v (.free rfl) rfl rfl (qt_len rfl rfl ulE2 (fun w M => lenV_rd2 ho)) ?_
    refine g_v (.free rfl) rfl rfl (qt_lss rfl rfl rfl) ?_
    refine g_nil ?_
    refine gk_then (hK18 _ _ ?_)
    refine gc_cond rfl (fun hc1 => ?_) (fun hc1 => ?_)
    · try simp only [decide_eq_true_eq, decide_eq_false_iff_not, Bool.not_eq_true', Bool.not_eq_false', Bool.not_eq_eq_eq_not, Bool.not_true, Bool.not_false, ne_eq, Decidable.not_not, Classical.not_not] at hc1
      refine gc_skip ?_
      refine gk_then (hK17 _ _ ?_)
      refine gc_seq fun K19 hK19 => ?_
      refine gc_block ?_
      refine gc_seq fun K20 hK20 => ?_
      refine gc_draw (by kernel_rfl) ?_
      refine gd_v (.free rfl) rfl rfl (qt_move rfl rfl) ?_
      refine gd_v (.free rfl) rfl rfl (qt_move rfl rfl) ?_
      refine gd_v (.free rfl) rfl rfl (qt_index rfl rfl rfl ulE2 szE2 (fun w M => lenA_rd2 ho) (by omega) (by omega)) ?_
      refine gd_load2 (.free rfl) rfl rfl rfl rfl Tryz.underlying22 rfl ho (by omega) (by omega) ?_
      intro ra21 rc21 hr21
      refine gd_v (.free rfl) rfl rfl (qt_move rfl rfl) ?_
      refine gd_v (.free rfl) rfl rfl (qt_move rfl rfl) ?_
      refine gd_v (.free rfl) rfl rfl (qt_index rfl rfl rfl ulE2 szE2 (fun w M => lenA_rd2 ho) (by omega) (by omega)) ?_
      refine gd_load2 (.free rfl) rfl rfl rfl rfl Tryz.underlying22 rfl ho (by omega) (by omega) ?_
      intro ra22 rc22 hr22
      refine gd_v (.free rfl) rfl rfl (qt_assign rfl rfl) ?_
      refine gd_v (.free rfl) rfl rfl (qt_assign rfl rfl) ?_
      refine gd_nil ?_
      refine gk_then (hK20 _ _ ?_)
      refine gc_seq fun K23 hK23 => ?_
      simp only [row2_map (show k < os.length by omega), row2_map (show j < os.length by omega)] at *
      have lk : (row3 (atE os (k : Int))).length = 3 := rfl
      have lj : (row3 (atE os (j : Int))).length = 3 := rfl
      have z0 := r30 (atE os (k : Int)); have z1 := r30 (atE os (j : Int)); have z2 := r31 (atE os (k : Int)); have z3 := r31 (atE os (j : Int))
      try simp only [List.nil_append, List.cons_append, List.append_assoc, List.set_cons_succ, List.set_cons_zero]
      refine gc_cut ([(0, _), (1, _), (2, _), (3, _), (4, _), (6, _), (7, _), (8, _), (9, _), (10, _), (11, _), (20, _), (26, _)] : Env) (fun s : (Option Addr) × Nat × (Option Addr) × Nat => (fun (a1 : Option Addr) (q1 : Nat) (a2 : Option Addr) (q2 : Nat) => ([(12, .slice a1 (homTo F.S (atE os (k : Int)).1 (atE os (j : Int)).1 F.S.s.length).length q1), (13, .slice a2 (homTo G.S (atE os (k : Int)).2.1 (atE os (j : Int)).2.1 G.S.s.length).length q2)] : Env)) s.1 s.2.1 s.2.2.1 s.2.2.2) (fun s : (Option Addr) × Nat × (Option Addr) × Nat => (fun (a1 : Option Addr) (q1 : Nat) (a2 : Option Addr) (q2 : Nat) => ([] : List (Nat × Itm))) s.1 s.2.1 s.2.2.1 s.2.2.2) (fun s : (Option Addr) × Nat × (Option Addr) × Nat => (fun (a1 : Option Addr) (q1 : Nat) (a2 : Option Addr) (q2 : Nat) => ([own1I (.slice a1 (homTo F.S (atE os (k : Int)).1 (atE os (j : Int)).1 F.S.s.length).length q1) (homTo F.S (atE os (k : Int)).1 (atE os (j : Int)).1 F.S.s.length), own1I (.slice a2 (homTo G.S (atE os (k : Int)).2.1 (atE os (j : Int)).2.1 G.S.s.length).length q2) (homTo G.S (atE os (k : Int)).2.1 (atE os (j : Int)).2.1 G.S.s.length)] : List Itm)) s.1 s.2.1 s.2.2.1 s.2.2.2) (sub_cons rfl (sub_cons rfl (sub_cons rfl (sub_cons rfl (sub_cons rfl (sub_cons rfl (sub_cons rfl (sub_cons rfl (sub_cons rfl (sub_cons rfl (sub_cons rfl (sub_cons rfl (sub_cons rfl sub_nil))))))))))))) ?_ (fun HJ24 => ?_)
      · rintro ⟨a1, q1, a2, q2⟩
        simp only [updL, List.foldl_cons, List.foldl_nil, List.set_cons_succ, List.set_cons_zero, List.cons_append, List.nil_append]
        refine gk_then (hK23 _ _ ?_)
        refine gc_seq fun K25 hK25 => ?_
        refine gc_region ?_
        refine g_v (.free rfl) rfl rfl (qt_assign rfl rfl) ?_
        refine g_nil ?_
        refine gk_then (hK25 _ _ ?_)
        refine gc_block ?_
        simp only [← arI_0]
        try simp only [List.nil_append, List.cons_append, List.append_assoc, List.set_cons_succ, List.set_cons_zero]
        refine gc_loop ([(0, _), (1, _), (2, _), (3, _), (4, _), (6, _), (8, _), (9, _), (10, _), (11, _), (12, _), (13, _), (20, _), (26, _)] : Env) (fun s : Nat × (Option Addr) × Nat × (List Value) => (fun (i : Nat) (a : Option Addr) (q : Nat) (us : List Value) => ([(7, .slice a ((arI F G os k j i 0).map row4).length q), (14, .int .i64 (i : Int))] : Env)) s.1 s.2.1 s.2.2.1 s.2.2.2) (fun s : Nat × (Option Addr) × Nat × (List Value) => (fun (i : Nat) (a : Option Addr) (q : Nat) (us : List Value) => ([(2, own2U (.slice a ((arI F G os k j i 0).map row4).length q) us ((arI F G os k j i 0).map row4))] : List (Nat × Itm))) s.1 s.2.1 s.2.2.1 s.2.2.2) (fun s : Nat × (Option Addr) × Nat × (List Value) => (fun (i : Nat) (a : Option Addr) (q : Nat) (us : List Value) => i ≤ (homTo F.S (atE os (k : Int)).1 (atE os (j : Int)).1 F.S.s.length).length) s.1 s.2.1 s.2.2.1 s.2.2.2) (fun s : Nat × (Option Addr) × Nat × (List Value) => (fun (i : Nat) (a : Option Addr) (q : Nat) (us : List Value) => (homTo F.S (atE os (k : Int)).1 (atE os (j : Int)).1 F.S.s.length).length - i) s.1 s.2.1 s.2.2.1 s.2.2.2) ((0, _, _, _)) (sub_cons rfl (sub_cons rfl (sub_cons rfl (sub_cons rfl (sub_cons rfl (sub_cons rfl (sub_cons rfl (sub_cons rfl (sub_cons rfl (sub_cons rfl (sub_cons rfl (sub_cons rfl (sub_cons rfl (sub_cons rfl (sub_cons rfl (sub_cons rfl sub_nil)))))))))))))))) rfl (Nat.zero_le _) ?_
        rintro ⟨i, a, q, us⟩ hinv KL26 hKL26
        simp only [updL, List.foldl_cons, List.foldl_nil, List.set_cons_succ, List.set_cons_zero, List.cons_append, List.nil_append] at hinv hKL26 ⊢
        have hi := hinv
        have hul := homTo_len F.S (atE os (k : Int)).1 (atE os (j : Int)).1 F.S.s.length
        refine gc_seq fun K27 hK27 => ?_
        refine gc_seq fun K28 hK28 => ?_
        refine gc_region ?_
        refine g_v (.free rfl) rfl rfl (qt_move rfl rfl) ?_
        refine g_v (.free rfl) rfl rfl (qt_move rfl rfl) ?_
        refine g_v (.free rfl) rfl rfl (qt_len rfl rfl ulE1 (fun w M => lenV_own1 (n := 3) rfl M)) ?_
        refine g_v (.free rfl) rfl rfl (qt_lss rfl rfl rfl) ?_
        refine g_nil ?_
        refine gk_then (hK28 _ _ ?_)
        refine gc_cond rfl (fun hc2 => ?_) (fun hc2 => ?_)
        · try simp only [decide_eq_true_eq, decide_eq_false_iff_not, Bool.not_eq_true', Bool.not_eq_false', Bool.not_eq_eq_eq_not, Bool.not_true, Bool.not_false, ne_eq, Decidable.not_not, Classical.not_not] at hc2
          refine gc_skip ?_
          refine gk_then (hK27 _ _ ?_)
          refine gc_seq fun K29 hK29 => ?_
          refine gc_block ?_
          refine gc_seq fun K30 hK30 => ?_
          refine gc_region ?_
          refine g_v (.free rfl) rfl rfl (qt_assign rfl rfl) ?_
          refine g_nil ?_
          refine gk_then (hK30 _ _ ?_)
          refine gc_block ?_
          try simp only [List.nil_append, List.cons_append, List.append_assoc, List.set_cons_succ, List.set_cons_zero]
          refine gc_loop ([(0, _), (1, _), (2, _), (3, _), (4, _), (6, _), (8, _), (9, _), (10, _), (11, _), (12, _), (13, _), (14, _), (20, _), (26, _), (58, _)] : Env) (fun s : Nat × (Option Addr) × Nat × (List Value) => (fun (l : Nat) (a : Option Addr) (q : Nat) (us : List Value) => ([(7, .slice a ((arI F G os k j i l).map row4).length q), (15, .int .i64 (l : Int))] : Env)) s.1 s.2.1 s.2.2.1 s.2.2.2) (fun s : Nat × (Option Addr) × Nat × (List Value) => (fun (l : Nat) (a : Option Addr) (q : Nat) (us : List Value) => ([(2, own2U (.slice a ((arI F G os k j i l).map row4).length q) us ((arI F G os k j i l).map row4))] : List (Nat × Itm))) s.1 s.2.1 s.2.2.1 s.2.2.2) (fun s : Nat × (Option Addr) × Nat × (List Value) => (fun (l : Nat) (a : Option Addr) (q : Nat) (us : List Value) => l ≤ (homTo G.S (atE os (k : Int)).2.1 (atE os (j : Int)).2.1 G.S.s.length).length) s.1 s.2.1 s.2.2.1 s.2.2.2) (fun s : Nat × (Option Addr) × Nat × (List Value) => (fun (l : Nat) (a : Option Addr) (q : Nat) (us : List Value) => (homTo G.S (atE os (k : Int)).2.1 (atE os (j : Int)).2.1 G.S.s.length).length - l) s.1 s.2.1 s.2.2.1 s.2.2.2) ((0, _, _, _)) (sub_cons rfl (sub_cons rfl (sub_cons rfl (sub_cons rfl (sub_cons rfl (sub_cons rfl (sub_cons rfl (sub_cons rfl (sub_cons rfl (sub_cons rfl (sub_cons rfl (sub_cons rfl (sub_cons rfl (sub_cons rfl (sub_cons rfl (sub_cons rfl (sub_cons rfl (sub_cons rfl sub_nil)))))))))))))))))) rfl (Nat.zero_le _) ?_
          rintro ⟨l, a, q, us⟩ hinv KL31 hKL31
          simp only [updL, List.foldl_cons, List.foldl_nil, List.set_cons_succ, List.set_cons_zero, List.cons_append, List.nil_append] at hinv hKL31 ⊢
          have hl := hinv
          have hvl := homTo_len G.S (atE os (k : Int)).2.1 (atE os (j : Int)).2.1 G.S.s.length
          refine gc_seq fun K32 hK32 => ?_
          refine gc_seq fun K33 hK33 => ?_
          refine gc_region ?_
          refine g_v (.free rfl) rfl rfl (qt_move rfl rfl) ?_
          refine g_v (.free rfl) rfl rfl (qt_move rfl rfl) ?_
          refine g_v (.free rfl) rfl rfl (qt_len rfl rfl ulE1 (fun w M => lenV_own1 (n := 4) rfl M)) ?_
          refine g_v (.free rfl) rfl rfl (qt_lss rfl rfl rfl) ?_
          refine g_nil ?_
          refine gk_then (hK33 _ _ ?_)
          refine gc_cond rfl (fun hc3 => ?_) (fun hc3 => ?_)
          · try simp only [decide_eq_true_eq, decide_eq_false_iff_not, Bool.not_eq_true', Bool.not_eq_false', Bool.not_eq_eq_eq_not, Bool.not_true, Bool.not_false, ne_eq, Decidable.not_not, Classical.not_not] at hc3
            refine gc_skip ?_
            refine gk_then (hK32 _ _ ?_)
            refine gc_seq fun K34 hK34 => ?_
            refine gc_block ?_
            refine gc_seq fun K35 hK35 => ?_
            have hUu := homTo_at (c := F.S) (x := (atE os (k : Int)).1) (y := (atE os (j : Int)).1) (n := F.S.s.length) (k := i) (by omega)
            have hVv := homTo_at (c := G.S) (x := (atE os (k : Int)).2.1) (y := (atE os (j : Int)).2.1) (n := G.S.s.length) (k := l) (by omega)
            have hok := hos k (by omega); have hoj := hos j (by omega)
            have hUa := (fct_en hF hUu.1 hUu.2.1).1; have hVa := (fct_en hG hVv.1 hVv.2.1).1
            rw [← hT] at hVa
            have x0 := hUu.1; have x1 := hUu.2.1; have x2 := hVv.1; have x3 := hVv.2.1; have x4 := hok.1; have x5 := hok.2; have x6 := hoj.1; have x7 := hoj.2
            have y0 := hUa.1; have y1 := hUa.2; have y2 := hVa.1; have y3 := hVa.2
            have z4 := r32 (atE os (k : Int)); have z5 := r32 (atE os (j : Int))
            have A1 := arrP fT y0 y1; have A2 := arrP fT x4 x5
            have r1 := A1.row; have r2 := A2.row; have f1 := A1.fm; have f2 := A2.fm
            have r3 : (row2 F.T.m (at0 (row3 (atE os (k : Int))) 2)).length = (row2 F.T.m (atE os (k : Int)).2.2).length := rfl
            refine gc_draw (by kernel_rfl) ?_
            refine gd_v (.free rfl) rfl rfl (qt_field (z := 4) (off := 5) rfl rfl Tryz.underlying31 rfl (by kernel_rfl) rfl) ?_
            refine gd_v (.free rfl) rfl rfl (qt_loadP (n := 0) (z := 5) rfl rfl Tryz.underlying29 rfl (by kernel_rfl) rfl (by first | decide | exact Nat.le_refl _ | simp)) ?_
            refine gd_v (.free rfl) rfl rfl (qt_field (z := 0) (off := 11) rfl rfl Tryz.underlying31 rfl (by kernel_rfl) rfl) ?_
            refine gd_v (.free rfl) rfl rfl (qt_loadB (n := 0) rfl rfl Tryz.underlying22 rfl rfl rfl) ?_
            refine gd_v (.free rfl) rfl rfl (qt_move rfl rfl) ?_
            refine gd_v (.free rfl) rfl rfl (qt_move rfl rfl) ?_
            refine gd_v (.free rfl) rfl rfl (qt_index rfl rfl rfl ulE1 szE1 (fun w M => lenA_own1 (n := 3) rfl M) (by omega) (by omega)) ?_
            refine gd_v (.free rfl) rfl rfl (qt_load1 rfl rfl Tryz.underlying2 rfl (fun w M => (mem_own1 (n := 3) M rfl).rd) (by omega) (by omega)) ?_
            refine gd_v (.free rfl) rfl rfl (qt_index rfl rfl rfl ulE1 szE1 (fun w M => lenA_rd h10) (by omega) (by omega)) ?_
            refine gd_v (.free rfl) rfl rfl (qt_load1 rfl rfl Tryz.underlying2 rfl (fun w M => mem_rd M h10) (by omega) (by omega)) ?_
            refine gd_v (.free rfl) rfl rfl (qt_move rfl rfl) ?_
            refine gd_v (.free rfl) rfl rfl (qt_index rfl rfl rfl ulE1 szE1 (fun w M => lenA_rd hr22) (by omega) (by omega)) ?_
            refine gd_v (.free rfl) rfl rfl (qt_load1 rfl rfl Tryz.underlying2 rfl (fun w M => mem_rd M hr22) (by omega) (by omega)) ?_
            refine gd_q (.free rfl) rfl rfl (qt_call rfl Tryz.func129 rfl (by decide) rfl (fun w M => specThen_any w _ _ _ _ (rdC_mk (mem_rd M h5) (mem_rd M h6) (mem_rd M h7) (mem_rd2 M h8)) (by first | assumption | omega) (by first | assumption | omega) (by first | assumption | omega) (by first | assumption | omega))) ?_
            refine gd_v (.free rfl) rfl rfl (qt_field (z := 4) (off := 5) rfl rfl Tryz.underlying31 rfl (by kernel_rfl) rfl) ?_
            refine gd_v (.free rfl) rfl rfl (qt_loadP (n := 0) (z := 5) rfl rfl Tryz.underlying29 rfl (by kernel_rfl) rfl (by first | decide | exact Nat.le_refl _ | simp)) ?_
            refine gd_v (.free rfl) rfl rfl (qt_move rfl rfl) ?_
            refine gd_v (.free rfl) rfl rfl (qt_index rfl rfl rfl ulE1 szE1 (fun w M => lenA_rd hr21) (by omega) (by omega)) ?_
            refine gd_v (.free rfl) rfl rfl (qt_load1 rfl rfl Tryz.underlying2 rfl (fun w M => mem_rd M hr21) (by omega) (by omega)) ?_
            refine gd_v (.free rfl) rfl rfl (qt_field (z := 0) (off := 11) rfl rfl Tryz.underlying31 rfl (by kernel_rfl) rfl) ?_
            refine gd_v (.free rfl) rfl rfl (qt_loadB (n := 1) rfl rfl Tryz.underlying22 rfl rfl rfl) ?_
            refine gd_v (.free rfl) rfl rfl (qt_move rfl rfl) ?_
            refine gd_v (.free rfl) rfl rfl (qt_move rfl rfl) ?_
            refine gd_v (.free rfl) rfl rfl (qt_index rfl rfl rfl ulE1 szE1 (fun w M => lenA_own1 (n := 4) rfl M) (by omega) (by omega)) ?_
            refine gd_v (.free rfl) rfl rfl (qt_load1 rfl rfl Tryz.underlying2 rfl (fun w M => (mem_own1 (n := 4) M rfl).rd) (by omega) (by omega)) ?_
            refine gd_v (.free rfl) rfl rfl (qt_index rfl rfl rfl ulE1 szE1 (fun w M => lenA_rd e10) (by omega) (by omega)) ?_
            refine gd_v (.free rfl) rfl rfl (qt_load1 rfl rfl Tryz.underlying2 rfl (fun w M => mem_rd M e10) (by omega) (by omega)) ?_
            refine gd_q (.free rfl) rfl rfl (qt_call rfl Tryz.func129 rfl (by decide) rfl (fun w M => specThen_any w _ _ _ _ (rdC_mk (mem_rd M h5) (mem_rd M h6) (mem_rd M h7) (mem_rd2 M h8)) (by first | assumption | omega) (by first | assumption | omega) (by first | assumption | omega) (by first | assumption | omega))) ?_
            refine gd_v (.free rfl) rfl rfl (qt_eql rfl rfl rfl) ?_
            refine gd_nil ?_
            refine gk_then (hK35 _ _ ?_)
            refine gc_cond rfl (fun hc4 => ?_) (fun hc4 => ?_)
            · try simp only [decide_eq_true_eq, decide_eq_false_iff_not, Bool.not_eq_true', Bool.not_eq_false', Bool.not_eq_eq_eq_not, Bool.not_true, Bool.not_false, ne_eq, Decidable.not_not, Classical.not_not] at hc4
              try simp only [List.nil_append, List.cons_append, List.append_assoc, List.set_cons_succ, List.set_cons_zero]
              refine ga_start _ (fun w M => mem_erase 2 (M)) ?_
              refine ga_v 0 rfl (by kernel_rfl) (by kernel_rfl) (by kernel_rfl) (.free rfl) rfl rfl (qt_move rfl rfl) (fun _ _ _ h => h) ?_
              refine ga_v 1 rfl (by kernel_rfl) (by kernel_rfl) (by kernel_rfl) (.free rfl) rfl rfl (qt_move rfl rfl) (fun _ _ _ h => h) ?_
              refine ga_v 2 rfl (by kernel_rfl) (by kernel_rfl) (by kernel_rfl) (.free rfl) rfl rfl (qt_move rfl rfl) (fun _ _ _ h => h) ?_
              refine ga_v 3 rfl (by kernel_rfl) (by kernel_rfl) (by kernel_rfl) (.free rfl) rfl rfl (qt_move rfl rfl) (fun _ _ _ h => h) ?_
              refine ga_v 4 rfl (by kernel_rfl) (by kernel_rfl) (by kernel_rfl) (.free rfl) rfl rfl (qt_move rfl rfl) (fun _ _ _ h => h) ?_
              refine ga_v 5 rfl (by kernel_rfl) (by kernel_rfl) (by kernel_rfl) (.free rfl) rfl rfl (qt_index rfl rfl rfl ulE1 szE1 (fun w M => lenA_own1 (n := 2) rfl M) (by omega) (by omega)) (fun _ _ _ h => h) ?_
              refine ga_v 6 rfl (by kernel_rfl) (by kernel_rfl) (by kernel_rfl) (.free rfl) rfl rfl (qt_load1 rfl rfl Tryz.underlying2 rfl (fun w M => (mem_own1 (n := 2) M rfl).rd) (by omega) (by omega)) (fun _ _ _ h => h) ?_
              refine ga_v 7 rfl (by kernel_rfl) (by kernel_rfl) (by kernel_rfl) (.free rfl) rfl rfl (qt_move rfl rfl) (fun _ _ _ h => h) ?_
              refine ga_v 8 rfl (by kernel_rfl) (by kernel_rfl) (by kernel_rfl) (.free rfl) rfl rfl (qt_move rfl rfl) (fun _ _ _ h => h) ?_
              refine ga_v 9 rfl (by kernel_rfl) (by kernel_rfl) (by kernel_rfl) (.free rfl) rfl rfl (qt_index rfl rfl rfl ulE1 szE1 (fun w M => lenA_own1 (n := 3) rfl M) (by omega) (by omega)) (fun _ _ _ h => h) ?_
              refine ga_v 10 rfl (by kernel_rfl) (by kernel_rfl) (by kernel_rfl) (.free rfl) rfl rfl (qt_load1 rfl rfl Tryz.underlying2 rfl (fun w M => (mem_own1 (n := 3) M rfl).rd) (by omega) (by omega)) (fun _ _ _ h => h) ?_
              refine ga_op 11 (by kernel_rfl) rfl (.free rfl) fun K37 hK37 => ?_
              refine go_slice4I rfl rfl rfl rfl rfl rfl rfl Tryz.underlying22 ?_
              intro B36
              refine hK37 _ _ (fun w M => (mem_erase 2 (mem_take 5 M) :)) ?_
              refine ga_op 12 (by kernel_rfl) rfl (.free rfl) fun K39 hK39 => ?_
              refine go_sliceR1 (m := 5) rfl rfl rfl rfl Tryz.underlying23 rfl ?_
              intro B38
              refine hK39 _ _ (fun w M => (mem_erase 2 (mem_take 5 M) :)) ?_
              refine ga_op 13 (by kernel_rfl) rfl (.free rfl) fun K41 hK41 => ?_
              refine go_appendRow (n := 2) (m := 5) (m' := 4) rfl rfl rfl Tryz.underlying23 rfl rfl rfl rfl rfl (by have := arI_len (F := F) (G := G) (os := os) (s := k) (t := j) (i := i) (j := l) (by omega) (by omega) (by omega) hol n1 n2; omega) ?_
              intro va40 vc40
              refine hK41 _ _ (fun w M => (mem_erase 2 (mem_take 5 M) :)) ?_
              refine ga_v 14 rfl (by kernel_rfl) (by kernel_rfl) (by kernel_rfl) (.free rfl) rfl rfl (qt_assign rfl rfl) (fun _ _ _ h => h) ?_
              refine ga_done (by kernel_rfl) ?_
              refine gk_block ?_
              refine gk_then (hK34 _ _ ?_)
              refine gc_region ?_
              refine g_v (.free rfl) rfl rfl (qt_move rfl rfl) ?_
              refine g_v (.free rfl) rfl rfl (qt_add rfl rfl rfl (by omega)) ?_
              refine g_v (.free rfl) rfl rfl (qt_assign rfl rfl) ?_
              refine g_nil ?_
              simp only [arI_t (show l < (homTo G.S (atE os (k : Int)).2.1 (atE os (j : Int)).2.1 G.S.s.length).length by omega) (bP_t hc4)]
              refine gk_then (gk_take 5 ?_)
              refine gk_sub ?hs_42 (hKL31 ((l + 1, _, _, _)) ?hi_42 ?hm_42)
              case hs_42 => exact (sub_cons rfl (sub_cons rfl (sub_cons rfl (sub_cons rfl (sub_cons rfl (sub_cons rfl (sub_cons rfl (sub_cons rfl (sub_cons rfl (sub_cons rfl (sub_cons rfl (sub_cons rfl (sub_cons rfl (sub_cons rfl (sub_cons rfl (sub_cons rfl (sub_cons rfl (sub_cons rfl sub_nil))))))))))))))))))
              case hi_42 => omega
              case hm_42 => omega
            · try simp only [decide_eq_true_eq, decide_eq_false_iff_not, Bool.not_eq_true', Bool.not_eq_false', Bool.not_eq_eq_eq_not, Bool.not_true, Bool.not_false, ne_eq, Decidable.not_not, Classical.not_not] at hc4
              refine gc_skip ?_
              refine gk_block ?_
              refine gk_then (hK34 _ _ ?_)
              refine gc_region ?_
              refine g_v (.free rfl) rfl rfl (qt_move rfl rfl) ?_
              refine g_v (.free rfl) rfl rfl (qt_add rfl rfl rfl (by omega)) ?_
              refine g_v (.free rfl) rfl rfl (qt_assign rfl rfl) ?_
              refine g_nil ?_
              simp only [arI_f (show l < (homTo G.S (atE os (k : Int)).2.1 (atE os (j : Int)).2.1 G.S.s.length).length by omega) (bP_f hc4)]
              refine gk_then (gk_take 5 ?_)
              refine gk_sub ?hs_43 (hKL31 ((l + 1, _, _, _)) ?hi_43 ?hm_43)
              case hs_43 => exact (sub_cons rfl (sub_cons rfl (sub_cons rfl (sub_cons rfl (sub_cons rfl (sub_cons rfl (sub_cons rfl (sub_cons rfl (sub_cons rfl (sub_cons rfl (sub_cons rfl (sub_cons rfl (sub_cons rfl (sub_cons rfl (sub_cons rfl (sub_cons rfl (sub_cons rfl (sub_cons rfl sub_nil))))))))))))))))))
              case hi_43 => omega
              case hm_43 => omega
          · try simp only [decide_eq_true_eq, decide_eq_false_iff_not, Bool.not_eq_true', Bool.not_eq_false', Bool.not_eq_eq_eq_not, Bool.not_true, Bool.not_false, ne_eq, Decidable.not_not, Classical.not_not] at hc3
            refine gc_exit ?_
            refine gk_then_exit ?_
            refine gk_then_exit ?_
            refine gk_block_hit ?_
            refine gk_block ?_
            refine gk_then (hK29 _ _ ?_)
            refine gc_region ?_
            refine g_v (.free rfl) rfl rfl (qt_move rfl rfl) ?_
            refine g_v (.free rfl) rfl rfl (qt_add rfl rfl rfl (by omega)) ?_
            refine g_v (.free rfl) rfl rfl (qt_assign rfl rfl) ?_
            refine g_nil ?_
            obtain rfl : l = (homTo G.S (atE os (k : Int)).2.1 (atE os (j : Int)).2.1 G.S.s.length).length := by omega
            simp only [arI_i (show i < (homTo F.S (atE os (k : Int)).1 (atE os (j : Int)).1 F.S.s.length).length by omega)]
            refine gk_then (gk_take 5 ?_)
            refine gk_sub ?hs_44 (hKL26 ((i + 1, _, _, _)) ?hi_44 ?hm_44)
            case hs_44 => exact (sub_cons rfl (sub_cons rfl (sub_cons rfl (sub_cons rfl (sub_cons rfl (sub_cons rfl (sub_cons rfl (sub_cons rfl (sub_cons rfl (sub_cons rfl (sub_cons rfl (sub_cons rfl (sub_cons rfl (sub_cons rfl (sub_cons rfl (sub_cons rfl sub_nil))))))))))))))))
            case hi_44 => omega
            case hm_44 => omega
        · try simp only [decide_eq_true_eq, decide_eq_false_iff_not, Bool.not_eq_true', Bool.not_eq_false', Bool.not_eq_eq_eq_not, Bool.not_true, Bool.not_false, ne_eq, Decidable.not_not, Classical.not_not] at hc2
          refine gc_exit ?_
          refine gk_then_exit ?_
          refine gk_then_exit ?_
          refine gk_block_hit ?_
          refine gk_block ?_
          refine gk_then (hK19 _ _ ?_)
          refine gc_region ?_
          refine g_v (.free rfl) rfl rfl (qt_move rfl rfl) ?_
          refine g_v (.free rfl) rfl rfl (qt_add rfl rfl rfl (by omega)) ?_
          refine g_v (.free rfl) rfl rfl (qt_assign rfl rfl) ?_
          refine g_nil ?_
          obtain rfl : i = (homTo F.S (atE os (k : Int)).1 (atE os (j : Int)).1 F.S.s.length).length := by omega
          simp only [arI_end]
          refine gk_then (gk_take 3 ?_)
          refine gk_sub ?hs_45 (hKL16 ((j + 1, _, _, _)) ?hi_45 ?hm_45)
          case hs_45 => exact (sub_cons rfl (sub_cons rfl (sub_cons rfl (sub_cons rfl (sub_cons rfl (sub_cons rfl (sub_cons rfl (sub_cons rfl (sub_cons rfl (sub_cons rfl sub_nil))))))))))
          case hi_45 => omega
          case hm_45 => omega
      simp only [updL, List.foldl_cons, List.foldl_nil, List.set_cons_succ, List.set_cons_zero, List.cons_append, List.nil_append] at HJ24
      refine ga_start _ (fun w M => M) ?_
      refine ga_v 0 rfl (by kernel_rfl) (by kernel_rfl) (by kernel_rfl) (.free rfl) rfl rfl (qt_field (z := 4) (off := 0) rfl rfl Tryz.underlying31 rfl (by kernel_rfl) rfl) (fun _ _ _ h => h) ?_
      refine ga_v 1 rfl (by kernel_rfl) (by kernel_rfl) (by kernel_rfl) (.free rfl) rfl rfl (qt_loadP (n := 0) (z := 5) rfl rfl Tryz.underlying29 rfl (by kernel_rfl) rfl (by first | decide | exact Nat.le_refl _ | simp)) (fun _ _ _ h => h) ?_
      refine ga_v 2 rfl (by kernel_rfl) (by kernel_rfl) (by kernel_rfl) (.free rfl) rfl rfl (qt_move rfl rfl) (fun _ _ _ h => h) ?_
      refine ga_v 3 rfl (by kernel_rfl) (by kernel_rfl) (by kernel_rfl) (.free rfl) rfl rfl (qt_index rfl rfl rfl ulE1 szE1 (fun w M => lenA_rd hr21) (by omega) (by omega)) (fun _ _ _ h => h) ?_
      refine ga_v 4 rfl (by kernel_rfl) (by kernel_rfl) (by kernel_rfl) (.free rfl) rfl rfl (qt_load1 rfl rfl Tryz.underlying2 rfl (fun w M => mem_rd M hr21) (by omega) (by omega)) (fun _ _ _ h => h) ?_
      refine ga_v 5 rfl (by kernel_rfl) (by kernel_rfl) (by kernel_rfl) (.free rfl) rfl rfl (qt_move rfl rfl) (fun _ _ _ h => h) ?_
      refine ga_v 6 rfl (by kernel_rfl) (by kernel_rfl) (by kernel_rfl) (.free rfl) rfl rfl (qt_index rfl rfl rfl ulE1 szE1 (fun w M => lenA_rd hr22) (by omega) (by omega)) (fun _ _ _ h => h) ?_
      refine ga_v 7 rfl (by kernel_rfl) (by kernel_rfl) (by kernel_rfl) (.free rfl) rfl rfl (qt_load1 rfl rfl Tryz.underlying2 rfl (fun w M => mem_rd M hr22) (by omega) (by omega)) (fun _ _ _ h => h) ?_
      refine ga_v 9 rfl (by kernel_rfl) (by kernel_rfl) (by kernel_rfl) (.free rfl) rfl rfl (qt_field (z := 4) (off := 0) rfl rfl Tryz.underlying31 rfl (by kernel_rfl) rfl) (fun _ _ _ h => h) ?_
      refine ga_v 10 rfl (by kernel_rfl) (by kernel_rfl) (by kernel_rfl) (.free rfl) rfl rfl (qt_loadP (n := 1) (z := 5) rfl rfl Tryz.underlying29 rfl (by kernel_rfl) rfl (by first | decide | exact Nat.le_refl _ | simp)) (fun _ _ _ h => h) ?_
      refine ga_v 11 rfl (by kernel_rfl) (by kernel_rfl) (by kernel_rfl) (.free rfl) rfl rfl (qt_move rfl rfl) (fun _ _ _ h => h) ?_
      refine ga_v 12 rfl (by kernel_rfl) (by kernel_rfl) (by kernel_rfl) (.free rfl) rfl rfl (qt_index rfl rfl rfl ulE1 szE1 (fun w M => lenA_rd hr21) (by omega) (by omega)) (fun _ _ _ h => h) ?_
      refine ga_v 13 rfl (by kernel_rfl) (by kernel_rfl) (by kernel_rfl) (.free rfl) rfl rfl (qt_load1 rfl rfl Tryz.underlying2 rfl (fun w M => mem_rd M hr21) (by omega) (by omega)) (fun _ _ _ h => h) ?_
      refine ga_v 14 rfl (by kernel_rfl) (by kernel_rfl) (by kernel_rfl) (.free rfl) rfl rfl (qt_move rfl rfl) (fun _ _ _ h => h) ?_
      refine ga_v 15 rfl (by kernel_rfl) (by kernel_rfl) (by kernel_rfl) (.free rfl) rfl rfl (qt_index rfl rfl rfl ulE1 szE1 (fun w M => lenA_rd hr22) (by omega) (by omega)) (fun _ _ _ h => h) ?_
      refine ga_v 16 rfl (by kernel_rfl) (by kernel_rfl) (by kernel_rfl) (.free rfl) rfl rfl (qt_load1 rfl rfl Tryz.underlying2 rfl (fun w M => mem_rd M hr22) (by omega) (by omega)) (fun _ _ _ h => h) ?_
      refine ga_op 8 (by kernel_rfl) rfl (.free rfl) fun K47 hK47 => ?_
      refine go_callL rfl rfl rfl Tryz.func110 rfl (by decide) rfl (fun w M => specHom_any w _ _ _ _ (rdC_mk (mem_rd M h1) (mem_rd M h2) (mem_rd M h3) (mem_rd2 M h4)) (by first | assumption | omega)) ?_
      intro va46 vc46
      refine hK47 _ _ (fun w M => (mem_take 3 M :)) ?_
      refine ga_op 17 (by kernel_rfl) rfl (.free rfl) fun K49 hK49 => ?_
      refine go_callL rfl rfl rfl Tryz.func110 rfl (by decide) rfl (fun w M => specHom_any w _ _ _ _ (rdC_mk (mem_rd M e1) (mem_rd M e2) (mem_rd M e3) (mem_rd2 M e4)) (by first | assumption | omega)) ?_
      intro va48 vc48
      refine hK49 _ _ (fun w M => (mem_take 3 M :)) ?_
      refine ga_v 18 rfl (by kernel_rfl) (by kernel_rfl) (by kernel_rfl) (.free rfl) rfl rfl (qt_assign rfl rfl) (fun _ _ _ h => h) ?_
      refine ga_v 19 rfl (by kernel_rfl) (by kernel_rfl) (by kernel_rfl) (.free rfl) rfl rfl (qt_assign rfl rfl) (fun _ _ _ h => h) ?_
      refine ga_done (by kernel_rfl) ?_
      try simp only [List.nil_append, List.cons_append, List.append_assoc, List.set_cons_succ, List.set_cons_zero]
      refine gk_pickL [0, 0, 0, 0, 0] ?_
      refine gk_sub ?hs_50 (HJ24 (_, _, _, _))
      case hs_50 => exact (sub_cons rfl (sub_cons rfl (sub_cons rfl (sub_cons rfl (sub_cons rfl (sub_cons rfl (sub_cons rfl (sub_cons rfl (sub_cons rfl (sub_cons rfl (sub_cons rfl (sub_cons rfl (sub_cons rfl (sub_cons rfl (sub_cons rfl sub_nil)))))))))))))))
    · try simp only [decide_eq_true_eq, decide_eq_false_iff_not, Bool.not_eq_true', Bool.not_eq_false', Bool.not_eq_eq_eq_not, Bool.not_true, Bool.not_false, ne_eq, Decidable.not_not, Classical.not_not] at hc1
      refine gc_exit ?_
      refine gk_then_exit ?_
      refine gk_then_exit ?_
      refine gk_block_hit ?_
      refine gk_block ?_
      refine gk_then (hK14 _ _ ?_)
      refine gc_region ?_
      refine g_v (.free rfl) rfl rfl (qt_move rfl rfl) ?_
      refine g_v (.free rfl) rfl rfl (qt_add rfl rfl rfl (by omega)) ?_
      refine g_v (.free rfl) rfl rfl (qt_assign rfl rfl) ?_
      refine g_nil ?_
      obtain rfl : j = os.length := by omega
      simp only [arU_s]
      refine gk_then (gk_take 3 ?_)
      refine gk_sub ?hs_51 (hKL11 ((k + 1, _, _, _)) ?hi_51 ?hm_51)
      case hs_51 => exact (sub_cons rfl (sub_cons rfl (sub_cons rfl (sub_cons rfl (sub_cons rfl (sub_cons rfl (sub_cons rfl (sub_cons rfl sub_nil))))))))
      case hi_51 => omega
      case hm_51 => omega
  · try simp only [decide_eq_true_eq, decide_eq_false_iff_not, Bool.not_eq_true', Bool.not_eq_false', Bool.not_eq_eq_eq_not, Bool.not_true, Bool.not_false, ne_eq, Decidable.not_not, Classical.not_not] at hc0
    refine gc_exit ?_
    refine gk_then_exit ?_
    refine gk_then_exit ?_
    refine gk_block_hit ?_
    refine gk_then (hK9 _ _ ?_)
    refine gc_seq fun K52 hK52 => ?_
    refine gc_region ?_
    refine g_v (.free rfl) rfl rfl (qt_move rfl rfl) ?_
    refine g_v (.free rfl) rfl rfl (qt_assign rfl rfl) ?_
    refine g_nil ?_
    refine gk_then (hK52 _ _ ?_)
    refine gc_ret ?_
    refine ret_1 rfl rfl  (fun w M => ?_)
    obtain rfl : k = os.length := by omega
    simp only [arU_end] at M ⊢
    exact ⟨_, rfl, cm_sl2U (n := 2) M rfl, M.1⟩
end Go.Proofs.YtpcabkdkdnchaaaGreat
set_option linter.unusedSimpArgs false
set_option linter.unusedVariables false
set_option linter.unusedSectionVars false
namespace Go.Proofs.YtpcabkdkdnchaaaGreat
open Go.RowKit
end Go.Proofs.YtpcabkdkdnchaaaGreat
set_option linter.unusedSimpArgs false
set_option linter.unusedVariables false
set_option linter.unusedSectionVars false
namespace Go.Proofs.YtpcabkdkdnchaaaGreat
open Go.RowKit
end Go.Proofs.YtpcabkdkdnchaaaGreat
set_option linter.unusedSimpArgs false
set_option linter.unusedVariables false
set_option linter.unusedSectionVars false
namespace Go.Proofs.YtpcabkdkdnchaaaGreat
open Go.RowKit
end Go.Proofs.YtpcabkdkdnchaaaGreat
set_option linter.unusedSimpArgs false
set_option linter.unusedVariables false
set_option linter.unusedSectionVars false
namespace Go.Proofs.YtpcabkdkdnchaaaGreat
open Go.RowKit
end Go.Proofs.YtpcabkdkdnchaaaGreat
set_option linter.unusedSimpArgs false
set_option linter.unusedVariables false
set_option linter.unusedSectionVars false
namespace Go.Proofs.YtpcabkdkdnchaaaGreat
open Go.RowKit
end Go.Proofs.YtpcabkdkdnchaaaGreat
