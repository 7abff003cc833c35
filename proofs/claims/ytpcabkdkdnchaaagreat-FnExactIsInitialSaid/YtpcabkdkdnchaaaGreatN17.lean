import Derived.Test.YtpcabkdkdnchaaaGreatN16
import Derived.Test.YtpcabkdkdnchaaaGreatN6
import Derived.Test.YtpcabkdkdnchaaaGreatN11
import Derived.Test.YtpcabkdkdnchaaaGreatN14
import Derived.Test.YtpcabkdkdnchaaaGreatN15
import Derived.Test.YtpcabkdkdnchaaaGreatN13
set_option linter.unusedSimpArgs false
set_option linter.unusedVariables false
set_option linter.unusedSectionVars false
namespace Go.Proofs.YtpcabkdkdnchaaaGreat
open Go.RowKit
set_option maxHeartbeats 4000000 in
set_option maxRecDepth 100000 in
theorem arrows_run (w0 w : World) (C Cx : List (Ent (Int × Int)) → Itm) (l B D : Nat) {x1 x2 x3 x4 x5 x6 x7 x8 x9 x10 y1 y2 y3 y4 y5 y6 y7 y8 y9 y10 : Option Addr} {k1 k2 k3 k4 k5 k6 k7 k8 k9 k10 l1 l2 l3 l4 l5 l6 l7 l8 l9 l10 : Nat} (F G : Fct) (H : Itm) (hH : HoldC w0 H F G x1 x2 x3 x4 x5 x6 x7 x8 x9 x10 y1 y2 y3 y4 y5 y6 y7 y8 y9 y10 k1 k2 k3 k4 k5 k6 k7 k8 k9 k10 l1 l2 l3 l4 l5 l6 l7 l8 l9 l10) (hP : CspP F G) (oa : Option Addr) (oq : Nat) (os : List (Ent Int)) (hol : os.length ≤ 2560) (hos : ∀ k : Nat, k < os.length → 0 ≤ (atE os (k : Int)).2.2 ∧ (atE os (k : Int)).2.2 < F.T.s.length) (Y : YieldC w0 C Cx l (fun e : Ent (Int × Int) => Value.agg #[.int .i64 e.1, .int .i64 e.2.1, .int .i64 e.2.2.1, .int .i64 e.2.2.2]) (fun _ : Ent (Int × Int) => ([] : List Itm)) (fun x : Ent (Int × Int) => x) (arL F G os)) (M : Mem w0 w [C [], bxI D 59 [.slice oa os.length oq], bxI B 58 [.int .i64 F.S.ob, .slice x1 F.S.s.length k1, .slice x2 F.S.t.length k2, .slice x3 F.S.e.length k3, .slice x4 F.S.m.length k4, .int .i64 F.T.ob, .slice x5 F.T.s.length k5, .slice x6 F.T.t.length k6, .slice x7 F.T.e.length k7, .slice x8 F.T.m.length k8, .slice x9 F.o.length k9, .slice x10 F.a.length k10, .int .i64 G.S.ob, .slice y1 G.S.s.length l1, .slice y2 G.S.t.length l2, .slice y3 G.S.e.length l3, .slice y4 G.S.m.length l4, .int .i64 G.T.ob, .slice y5 G.T.s.length l5, .slice y6 G.T.t.length l6, .slice y7 G.T.e.length l7, .slice y8 G.T.m.length l8, .slice y9 G.o.length l9, .slice y10 G.a.length l10], H, ownEI0 lab_co (.slice oa os.length oq) os]) :
    Calls Tryz.prog 117 #[.func (.yield l) #[] #[], .pointer (some ⟨D, 0, none⟩), .pointer (some ⟨B, 0, none⟩)] w (fun e W' => (∃ v, e = .returned v) ∧ ((∃ xs, xs.map (fun x : Ent (Int × Int) => x) = (arL F G os) ∧ Mem w0 W' (C xs :: [bxI D 59 [.slice oa os.length oq], bxI B 58 [.int .i64 F.S.ob, .slice x1 F.S.s.length k1, .slice x2 F.S.t.length k2, .slice x3 F.S.e.length k3, .slice x4 F.S.m.length k4, .int .i64 F.T.ob, .slice x5 F.T.s.length k5, .slice x6 F.T.t.length k6, .slice x7 F.T.e.length k7, .slice x8 F.T.m.length k8, .slice x9 F.o.length k9, .slice x10 F.a.length k10, .int .i64 G.S.ob, .slice y1 G.S.s.length l1, .slice y2 G.S.t.length l2, .slice y3 G.S.e.length l3, .slice y4 G.S.m.length l4, .int .i64 G.T.ob, .slice y5 G.T.s.length l5, .slice y6 G.T.t.length l6, .slice y7 G.T.e.length l7, .slice y8 G.T.m.length l8, .slice y9 G.o.length l9, .slice y10 G.a.length l10], H, ownEI0 lab_co (.slice oa os.length oq) os])) ∨ (∃ pre, (pre.map (fun x : Ent (Int × Int) => x)) <+: (arL F G os) ∧ Mem w0 W' (Cx pre :: [bxI D 59 [.slice oa os.length oq], bxI B 58 [.int .i64 F.S.ob, .slice x1 F.S.s.length k1, .slice x2 F.S.t.length k2, .slice x3 F.S.e.length k3, .slice x4 F.S.m.length k4, .int .i64 F.T.ob, .slice x5 F.T.s.length k5, .slice x6 F.T.t.length k6, .slice x7 F.T.e.length k7, .slice x8 F.T.m.length k8, .slice x9 F.o.length k9, .slice x10 F.a.length k10, .int .i64 G.S.ob, .slice y1 G.S.s.length l1, .slice y2 G.S.t.length l2, .slice y3 G.S.e.length l3, .slice y4 G.S.m.length l4, .int .i64 G.T.ob, .slice y5 G.T.s.length l5, .slice y6 G.T.t.length l6, .slice y7 G.T.e.length l7, .slice y8 G.T.m.length l8, .slice y9 G.o.length l9, .slice y10 G.a.length l10], H, ownEI0 lab_co (.slice oa os.length oq) os])))) := by
  have fS := (isCat_of hP.f.cs).toShapeP; have fT := (isCat_of hP.f.ct).toShapeP; have gS := (isCat_of hP.g.cs).toShapeP
  have fo := hP.f.lo; have fa := hP.f.la; have go := hP.g.lo; have ga := hP.g.la
  have s8 := fS.ob8; have s0 := fS.ob0; have g8 := gS.ob8; have g0 := gS.ob0; have n1 := fS.n40; have n2 := gS.n40; have n3 := fT.n40
  refine gc_enterK (nf := 41) (args := [_, _, _]) M Tryz.func117 rfl rfl (Nat.le_of_ble_eq_true rfl) (look_cons (k := 0) rfl (look_cons (k := 1) rfl (look_cons (k := 2) rfl (look_nil _)))) ?_
  clear M
  refine gc_seqD fun K1 hK1 => ?_
  refine gc_region ?_
  refine g_op (.free rfl) fun K3 hK3 => ?_
  refine go_box rfl rfl rfl rfl rfl ?_
  intro B2
  refine hK3 _ _ ?_
  refine g_nil ?_
  refine gk_then (hK1 _ _ ?_)
  refine gc_seqD fun K4 hK4 => ?_
  refine gc_region ?_
  refine g_v (.free rfl) rfl rfl (qt_loadB (n := 2) rfl rfl Tryz.underlying59 rfl rfl rfl) ?_
  refine g_v (.free rfl) rfl rfl (qt_len rfl rfl (lab_ul0 lab_co) (fun w M => lenV_E0 (mem_ownE0 (n := 5) M rfl))) ?_
  refine g_v (.free rfl) rfl rfl (qt_move rfl rfl) ?_
  refine g_nil ?_
  refine gk_then (hK4 _ _ ?_)
  refine gc_block ?_
  rw [show C [] = C (arU F G os 0 0 []) by rw [arU_0]]
  try simp only [List.nil_append, List.cons_append, List.append_assoc, List.set_cons_succ, List.set_cons_zero]
  refine gc_loopD ([(0, _), (1, _), (2, _), (3, _), (9, _), (10, _)] : Env) (fun s : Nat × (List Nat) => (fun (k : Nat) (Ds : List Nat) => ([(11, .int .i64 (k : Int))] : Env)) s.1 s.2) (fun s : Nat × (List Nat) => (fun (k : Nat) (Ds : List Nat) => ([(0, dfsI Ds), (1, C (arU F G os k 0 []))] : List (Nat × Itm))) s.1 s.2) (fun s : Nat × (List Nat) => (fun (k : Nat) (Ds : List Nat) => Ds) s.1 s.2) (fun s : Nat × (List Nat) => (fun (k : Nat) (Ds : List Nat) => k ≤ os.length) s.1 s.2) (fun s : Nat × (List Nat) => (fun (k : Nat) (Ds : List Nat) => os.length - k) s.1 s.2) ((0, [])) (sub_cons rfl (sub_cons rfl (sub_cons rfl (sub_cons rfl (sub_cons rfl (sub_cons rfl (sub_cons rfl sub_nil))))))) rfl rfl (Nat.zero_le _) ?_
  rintro ⟨k, Ds⟩ hinv KL5 hKL5
  simp only [updL, List.foldl_cons, List.foldl_nil, List.set_cons_succ, List.set_cons_zero, List.cons_append, List.nil_append] at hinv hKL5 ⊢
  have hk := hinv
  refine gc_seqD fun K6 hK6 => ?_
  refine gc_region ?_
  refine g_v (.free rfl) rfl rfl (qt_lss rfl rfl rfl) ?_
  refine g_nil ?_
  refine gk_then (hK6 _ _ ?_)
  refine gc_seqD fun K7 hK7 => ?_
  refine gc_cond rfl (fun hc0 => ?_) (fun hc0 => ?_)
  · try simp only [decide_eq_true_eq, decide_eq_false_iff_not, Bool.not_eq_true', Bool.not_eq_false', Bool.not_eq_eq_eq_not, Bool.not_true, Bool.not_false, ne_eq, Decidable.not_not, Classical.not_not] at hc0
    refine gc_skip ?_
    refine gk_then (hK7 _ _ ?_)
    refine gc_seqD fun K8 hK8 => ?_
    refine gc_block ?_
    refine gc_seqD fun K9 hK9 => ?_
    refine gc_region ?_
    refine g_v (.free rfl) rfl rfl (qt_move rfl rfl) ?_
    refine g_v (.free rfl) rfl rfl (qt_indexE0 lab_co rfl rfl rfl rfl (fun w M => lenA_E0 (mem_ownE0 (n := 5) M rfl)) (by omega) (by omega)) ?_
    refine g_v (.free rfl) rfl rfl (qt_load_co rfl rfl rfl (fun w M => mem_ownE0 (n := 5) M rfl) (by omega) (by omega)) ?_
    refine g_op (.free rfl) fun K11 hK11 => ?_
    refine go_alloc (z := (.int .i64 0)) (cs := [.int .i64 0]) rfl rfl rfl (fun w => by kernel_rfl) rfl ?_
    intro B10
    refine hK11 _ _ ?_
    refine g_op (.free rfl) fun K13 hK13 => ?_
    refine go_alloc (z := (.agg #[.int .i64 0, .int .i64 0, .int .i64 0])) (cs := [.int .i64 0, .int .i64 0, .int .i64 0]) rfl rfl rfl (fun w => by kernel_rfl) rfl ?_
    intro B12
    refine hK13 _ _ ?_
    refine g_op (.free rfl) fun K14 hK14 => ?_
    refine go_storeB (n := 7) rfl rfl rfl rfl (by kernel_rfl) rfl rfl rfl (by first | decide | simp) ?_
    refine hK14 _ _ ?_
    refine g_op (.free rfl) fun K15 hK15 => ?_
    refine go_storeS (n := 8) rfl rfl rfl rfl (by kernel_rfl) rfl rfl rfl ?_
    refine hK15 _ _ ?_
    refine g_nil ?_
    refine gk_then (hK9 _ _ ?_)
    refine gc_seqD fun K16 hK16 => ?_
    refine gc_region ?_
    refine g_v (.free rfl) rfl rfl (qt_loadB (n := 2) rfl rfl Tryz.underlying59 rfl rfl rfl) ?_
    refine g_v (.free rfl) rfl rfl (qt_len rfl rfl (lab_ul0 lab_co) (fun w M => lenV_E0 (mem_ownE0 (n := 5) M rfl))) ?_
    refine g_v (.free rfl) rfl rfl (qt_move rfl rfl) ?_
    refine g_nil ?_
    refine gk_then (hK16 _ _ ?_)
    refine gc_block ?_
    try simp only [List.nil_append, List.cons_append, List.append_assoc, List.set_cons_succ, List.set_cons_zero]
    refine gc_loopD ([(0, _), (1, _), (2, _), (3, _), (4, _), (5, _), (9, _), (10, _), (11, _), (12, _), (16, _), (17, _)] : Env) (fun s : Nat × (List Nat) => (fun (j : Nat) (Ds : List Nat) => ([(18, .int .i64 (j : Int))] : Env)) s.1 s.2) (fun s : Nat × (List Nat) => (fun (j : Nat) (Ds : List Nat) => ([(0, dfsI Ds), (1, C (arU F G os k j []))] : List (Nat × Itm))) s.1 s.2) (fun s : Nat × (List Nat) => (fun (j : Nat) (Ds : List Nat) => Ds) s.1 s.2) (fun s : Nat × (List Nat) => (fun (j : Nat) (Ds : List Nat) => j ≤ os.length) s.1 s.2) (fun s : Nat × (List Nat) => (fun (j : Nat) (Ds : List Nat) => os.length - j) s.1 s.2) ((0, Ds)) (sub_cons rfl (sub_cons rfl (sub_cons rfl (sub_cons rfl (sub_cons rfl (sub_cons rfl (sub_cons rfl (sub_cons rfl (sub_cons rfl (sub_cons rfl (sub_cons rfl (sub_cons rfl (sub_cons rfl sub_nil))))))))))))) rfl rfl (Nat.zero_le _) ?_
    rintro ⟨j, Ds⟩ hinv KL17 hKL17
    simp only [updL, List.foldl_cons, List.foldl_nil, List.set_cons_succ, List.set_cons_zero, List.cons_append, List.nil_append] at hinv hKL17 ⊢
    have hj := hinv
    have hok := fun h => hos k h; have hoj := fun h => hos j h
    refine gc_seqD fun K18 hK18 => ?_
    refine gc_region ?_
    refine g_v (.free rfl) rfl rfl (qt_lss rfl rfl rfl) ?_
    refine g_nil ?_
    refine gk_then (hK18 _ _ ?_)
    refine gc_seqD fun K19 hK19 => ?_
    refine gc_cond rfl (fun hc1 => ?_) (fun hc1 => ?_)
    · try simp only [decide_eq_true_eq, decide_eq_false_iff_not, Bool.not_eq_true', Bool.not_eq_false', Bool.not_eq_eq_eq_not, Bool.not_true, Bool.not_false, ne_eq, Decidable.not_not, Classical.not_not] at hc1
      refine gc_skip ?_
      refine gk_then (hK19 _ _ ?_)
      refine gc_seqD fun K20 hK20 => ?_
      refine gc_block ?_
      refine gc_seqD fun K21 hK21 => ?_
      refine gc_region ?_
      refine g_v (.free rfl) rfl rfl (qt_move rfl rfl) ?_
      refine g_v (.free rfl) rfl rfl (qt_indexE0 lab_co rfl rfl rfl rfl (fun w M => lenA_E0 (mem_ownE0 (n := 5) M rfl)) (by omega) (by omega)) ?_
      refine g_v (.free rfl) rfl rfl (qt_load_co rfl rfl rfl (fun w M => mem_ownE0 (n := 5) M rfl) (by omega) (by omega)) ?_
      refine g_op (.free rfl) fun K23 hK23 => ?_
      refine go_alloc (z := (.int .i64 0)) (cs := [.int .i64 0]) rfl rfl rfl (fun w => by kernel_rfl) rfl ?_
      intro B22
      refine hK23 _ _ ?_
      refine g_op (.free rfl) fun K25 hK25 => ?_
      refine go_alloc (z := (.agg #[.int .i64 0, .int .i64 0, .int .i64 0])) (cs := [.int .i64 0, .int .i64 0, .int .i64 0]) rfl rfl rfl (fun w => by kernel_rfl) rfl ?_
      intro B24
      refine hK25 _ _ ?_
      refine g_op (.free rfl) fun K26 hK26 => ?_
      refine go_storeB (n := 9) rfl rfl rfl rfl (by kernel_rfl) rfl rfl rfl (by first | decide | simp) ?_
      refine hK26 _ _ ?_
      refine g_op (.free rfl) fun K27 hK27 => ?_
      refine go_storeS (n := 10) rfl rfl rfl rfl (by kernel_rfl) rfl rfl rfl ?_
      refine hK27 _ _ ?_
      refine g_nil ?_
      refine gk_then (hK21 _ _ ?_)
      refine gc_seqD fun K28 hK28 => ?_
      refine gc_region ?_
      refine g_v (.free rfl) rfl rfl (qt_loadS (n := 3) rfl rfl Tryz.underlying58 rfl (by kernel_rfl) rfl) ?_
      refine g_v (.free rfl) rfl rfl (qt_loadS (n := 8) rfl rfl Tryz.underlying67 rfl (by kernel_rfl) rfl) ?_
      refine g_v (.free rfl) rfl rfl (qt_loadS (n := 10) rfl rfl Tryz.underlying67 rfl (by kernel_rfl) rfl) ?_
      refine g_op (.free rfl) fun K30 hK30 => ?_
      refine go_callCl3 rfl rfl rfl Tryz.func118 rfl (by decide) rfl (fun w M => partsB_any w F G (hH _ 4 _ M rfl) (atE os (k : Int)) (atE os (j : Int))) ?_
      intro B29 D29 E29
      refine hK30 _ _ ?_
      refine g_nil ?_
      refine gk_then (hK28 _ _ ?_)
      refine gc_block ?_
      try simp only [List.nil_append, List.cons_append, List.append_assoc, List.set_cons_succ, List.set_cons_zero]
      refine gc_toEnd 4 rfl ?_
      simp only [List.eraseIdx_cons_succ, List.eraseIdx_cons_zero, List.cons_append, List.nil_append]
      rw [show C (arU F G os k j []) = CCg C Cx true (arU F G os k j []) from rfl]
      try simp only [List.nil_append, List.cons_append, List.append_assoc, List.set_cons_succ, List.set_cons_zero]
      refine gc_rangeF (α := (Int × Int)) (σ := (List (Int × Int)) × Bool) 9 rfl rfl Tryz.func147 rfl (by decide) rfl (parts_seq hH hP (hok (by omega)).1 (hok (by omega)).2 (hoj (by omega)).1 (hoj (by omega)).2) (fun s : (List (Int × Int)) × Bool => (fun (ps : List (Int × Int)) (b : Bool) => ([(0, CCg C Cx b (arU F G os k j ps))] : List (Nat × Itm))) s.1 s.2) (fun (pre : List (Int × Int)) => (fun s : (List (Int × Int)) × Bool => (fun (ps : List (Int × Int)) (b : Bool) => b = true ∧ ps = pre) s.1 s.2)) (fun (c : Code) (pre : List (Int × Int)) => (fun s : (List (Int × Int)) × Bool => (fun (ps : List (Int × Int)) (b : Bool) => c = .ret ∧ b = false ∧ ps = pre) s.1 s.2)) ([], true) ⟨rfl, rfl⟩ rfl rfl rfl ?_ ?_ ?_ ?_
      · rintro l31 r31 js31 pre ⟨pu, pv⟩ ⟨ps, b⟩ hinv hpre Ka31 Kb31 hKp31 hKa31 hKn31 hKr31 hKe31
        simp only [updL, List.foldl_cons, List.foldl_nil, List.take_succ_cons, List.take_zero, List.drop_succ_cons, List.drop_zero, List.set_cons_succ, List.set_cons_zero, List.cons_append, List.nil_append] at hinv hKn31 hKr31 hKe31 ⊢
        obtain ⟨rfl, rfl⟩ := hinv
        rw [cm_mapid] at hpre
        refine gc_region ?_
        refine g_op (.free rfl) fun K33 hK33 => ?_
        refine go_alloc (z := (.agg #[.int .i64 0, .int .i64 0])) (cs := [.int .i64 0, .int .i64 0]) rfl rfl rfl (fun w => by kernel_rfl) rfl ?_
        intro B32
        refine hK33 _ _ ?_
        refine g_op (.free rfl) fun K34 hK34 => ?_
        refine go_storeS (n := 11) rfl rfl rfl rfl (by kernel_rfl) rfl rfl rfl ?_
        refine hK34 _ _ ?_
        refine g_nil ?_
        try simp only [List.nil_append, List.cons_append, List.append_assoc, List.set_cons_succ, List.set_cons_zero]
        refine gk_then (hKa31 _ _ ?_)
        refine gc_block ?_
        refine gc_seqD fun K35 hK35 => ?_
        refine gc_region ?_
        refine g_v (.free rfl) rfl rfl (qt_loadB (n := 5) rfl rfl Tryz.underlying137 rfl rfl rfl) ?_
        refine g_v (.free rfl) rfl rfl (qt_loadB (n := 6) rfl rfl Tryz.underlying3 rfl rfl rfl) ?_
        refine g_v (.free rfl) rfl rfl (qt_loadB (n := 8) rfl rfl Tryz.underlying3 rfl rfl rfl) ?_
        refine g_v (.free rfl) rfl rfl (qt_build rfl rfl bt_arrowEnds) ?_
        refine g_v (.free rfl) rfl rfl (qt_field (z := 0) (off := 0) rfl rfl Tryz.underlying110 rfl (by kernel_rfl) rfl) ?_
        refine g_v (.free rfl) rfl rfl (qt_loadB (n := 11) rfl rfl Tryz.underlying2 rfl rfl rfl) ?_
        refine g_v (.free rfl) rfl rfl (qt_field (z := 0) (off := 1) rfl rfl Tryz.underlying110 rfl (by kernel_rfl) rfl) ?_
        refine g_v (.free rfl) rfl rfl (qt_loadB (n := 11) rfl rfl Tryz.underlying2 rfl rfl rfl) ?_
        refine g_v (.free rfl) rfl rfl (qt_build rfl rfl bt_commaArrow) ?_
        refine g_yield (((k : Int), (j : Int), (pu, pv)) : Ent (Int × Int)) (.free rfl) rfl rfl rfl rfl rfl Y (by rw [cm_mapid, arU_snoc]; exact arU_pre (by omega) (by omega) hpre) (cm_pick1 (n := 1) rfl) ?_ ?_
        · skip
          refine g_v (.free rfl) rfl rfl (qt_not rfl rfl) ?_
          refine g_nil ?_
          refine gk_then (hK35 _ _ ?_)
          refine gc_cond_f rfl ?_
          refine gc_skip ?_
          refine gk_block ?_
          refine gk_pickL [1, 0, 0, 0, 0, 0, 0, 0, 0, 0, 0, 0] ?_
          rw [arU_snoc]
          try simp only [List.nil_append, List.cons_append, List.append_assoc, List.set_cons_succ, List.set_cons_zero]
          refine gk_take 11 ?_
          refine hKn31 ((ps ++ [(pu, pv)], true)) _ ?hi_36
          case hi_36 => exact ⟨rfl, rfl⟩
        · skip
          refine g_v (.free rfl) rfl rfl (qt_not rfl rfl) ?_
          refine g_nil ?_
          refine gk_then (hK35 _ _ ?_)
          refine gc_cond_t rfl ?_
          refine gc_ret ?_
          refine gk_block_ret ?_
          refine gk_pickL [1, 0, 0, 0, 0, 0, 0, 0, 0, 0, 0, 0] ?_
          rw [arU_snoc]
          try simp only [List.nil_append, List.cons_append, List.append_assoc, List.set_cons_succ, List.set_cons_zero]
          refine gk_take 11 ?_
          refine hKr31 ((ps ++ [(pu, pv)], false)) _ ?hi_37
          case hi_37 => exact ⟨by trivial, by trivial, rfl⟩
      · rintro D31 xs ⟨ps, b⟩ hL hinv
        simp only [updL, List.foldl_cons, List.foldl_nil, List.take_succ_cons, List.take_zero, List.drop_succ_cons, List.drop_zero, List.set_cons_succ, List.set_cons_zero, List.cons_append, List.nil_append] at *
        obtain ⟨rfl, rfl⟩ := hinv
        rw [cm_mapid] at hL
        subst hL
        refine gk_block ?_
        refine gk_block ?_
        refine gk_then (hK20 _ _ ?_)
        refine gc_region ?_
        refine g_v (.free rfl) rfl rfl (qt_add rfl rfl rfl (by omega)) ?_
        refine g_v (.free rfl) rfl rfl (qt_move rfl rfl) ?_
        refine g_nil ?_
        refine gk_pickL [0, 0, 0, 0, 9, 0, 0, 0, 0] ?_
        rw [arU_t]
        refine gk_then (gk_take 9 ?_)
        refine gk_sub ?hs_38 (hKL17 ((j + 1, D31 :: Ds)) ?hi_38 ?hm_38)
        case hs_38 => exact (sub_cons rfl (sub_cons rfl (sub_cons rfl (sub_cons rfl (sub_cons rfl (sub_cons rfl (sub_cons rfl (sub_cons rfl (sub_cons rfl (sub_cons rfl (sub_cons rfl (sub_cons rfl (sub_cons rfl sub_nil)))))))))))))
        case hi_38 => omega
        case hm_38 => omega
      · rintro D31 pre ⟨ps, b⟩ hL hinv
        simp only [updL, List.foldl_cons, List.foldl_nil, List.take_succ_cons, List.take_zero, List.drop_succ_cons, List.drop_zero, List.set_cons_succ, List.set_cons_zero, List.cons_append, List.nil_append] at *
        obtain ⟨_, rfl, rfl⟩ := hinv
        rw [cm_mapid] at hL
        refine gk_block_ret ?_
        refine gk_block_ret ?_
        refine gk_then_ret ?_
        refine gk_then_ret ?_
        refine gk_block_ret ?_
        refine gk_block_ret ?_
        refine gk_then_ret ?_
        refine gk_then_ret ?_
        refine gk_block_ret ?_
        try simp only [List.nil_append, List.cons_append, List.append_assoc, List.set_cons_succ, List.set_cons_zero]
        refine gk_marks (n := 0) rfl rfl ?_
        simp only [List.set_cons_zero, List.set_cons_succ]
        refine ret_0 rfl (fun w M => ?_)
        exact ⟨⟨_, rfl⟩, .inr ⟨_, by rw [cm_mapid]; exact arU_pre (by omega) (by omega) hL, mem_take 5 (mem_pick (n := 5) (mem_pick (n := 5) (mem_pick (n := 5) (mem_pick (n := 13) (mem_pick (n := 4) (M) rfl) rfl) rfl) rfl) rfl)⟩⟩
      · rintro D31 id pre ⟨ps, b⟩ hL hinv; exact absurd hinv (by simp)
    · try simp only [decide_eq_true_eq, decide_eq_false_iff_not, Bool.not_eq_true', Bool.not_eq_false', Bool.not_eq_eq_eq_not, Bool.not_true, Bool.not_false, ne_eq, Decidable.not_not, Classical.not_not] at hc1
      refine gc_exit ?_
      refine gk_then_exit ?_
      refine gk_then_exit ?_
      refine gk_block_hit ?_
      refine gk_block ?_
      refine gk_then (hK8 _ _ ?_)
      refine gc_region ?_
      refine g_v (.free rfl) rfl rfl (qt_add rfl rfl rfl (by omega)) ?_
      refine g_v (.free rfl) rfl rfl (qt_move rfl rfl) ?_
      refine g_nil ?_
      obtain rfl : j = os.length := by omega
      rw [arU_s]
      refine gk_then (gk_take 7 ?_)
      refine gk_sub ?hs_39 (hKL5 ((k + 1, Ds)) ?hi_39 ?hm_39)
      case hs_39 => exact (sub_cons rfl (sub_cons rfl (sub_cons rfl (sub_cons rfl (sub_cons rfl (sub_cons rfl (sub_cons rfl sub_nil)))))))
      case hi_39 => omega
      case hm_39 => omega
  · try simp only [decide_eq_true_eq, decide_eq_false_iff_not, Bool.not_eq_true', Bool.not_eq_false', Bool.not_eq_eq_eq_not, Bool.not_true, Bool.not_false, ne_eq, Decidable.not_not, Classical.not_not] at hc0
    refine gc_exit ?_
    refine gk_then_exit ?_
    refine gk_then_exit ?_
    refine gk_block_hit ?_
    try simp only [List.nil_append, List.cons_append, List.append_assoc, List.set_cons_succ, List.set_cons_zero]
    refine gk_marksn (n := 0) rfl rfl ?_
    simp only [List.set_cons_zero, List.set_cons_succ]
    refine ret_0n rfl (fun w M => ?_)
    obtain rfl : k = os.length := by omega
    rw [arU_end] at M
    exact ⟨⟨_, rfl⟩, .inl ⟨arL F G os, cm_mapid _, mem_take 5 (mem_pick (n := 5) (mem_pick (n := 5) (mem_pick (n := 5) (mem_pick (n := 5) (mem_pick (n := 5) (M) rfl) rfl) rfl) rfl) rfl)⟩⟩
theorem arrows_seq {w0 : World} {B D : Nat} {x1 x2 x3 x4 x5 x6 x7 x8 x9 x10 y1 y2 y3 y4 y5 y6 y7 y8 y9 y10 : Option Addr} {k1 k2 k3 k4 k5 k6 k7 k8 k9 k10 l1 l2 l3 l4 l5 l6 l7 l8 l9 l10 : Nat} {F G : Fct} {H : Itm} (hH : HoldC w0 H F G x1 x2 x3 x4 x5 x6 x7 x8 x9 x10 y1 y2 y3 y4 y5 y6 y7 y8 y9 y10 k1 k2 k3 k4 k5 k6 k7 k8 k9 k10 l1 l2 l3 l4 l5 l6 l7 l8 l9 l10) (hP : CspP F G) {oa : Option Addr} {oq : Nat} {os : List (Ent Int)} (hol : os.length ≤ 2560) (hos : ∀ k : Nat, k < os.length → 0 ≤ (atE os (k : Int)).2.2 ∧ (atE os (k : Int)).2.2 < F.T.s.length) : SeqC w0 [bxI D 59 [.slice oa os.length oq], bxI B 58 [.int .i64 F.S.ob, .slice x1 F.S.s.length k1, .slice x2 F.S.t.length k2, .slice x3 F.S.e.length k3, .slice x4 F.S.m.length k4, .int .i64 F.T.ob, .slice x5 F.T.s.length k5, .slice x6 F.T.t.length k6, .slice x7 F.T.e.length k7, .slice x8 F.T.m.length k8, .slice x9 F.o.length k9, .slice x10 F.a.length k10, .int .i64 G.S.ob, .slice y1 G.S.s.length l1, .slice y2 G.S.t.length l2, .slice y3 G.S.e.length l3, .slice y4 G.S.m.length l4, .int .i64 G.T.ob, .slice y5 G.T.s.length l5, .slice y6 G.T.t.length l6, .slice y7 G.T.e.length l7, .slice y8 G.T.m.length l8, .slice y9 G.o.length l9, .slice y10 G.a.length l10], H, ownEI0 lab_co (.slice oa os.length oq) os] 117 [.pointer (some ⟨D, 0, none⟩), .pointer (some ⟨B, 0, none⟩)] (fun e : Ent (Int × Int) => Value.agg #[.int .i64 e.1, .int .i64 e.2.1, .int .i64 e.2.2.1, .int .i64 e.2.2.2]) (fun _ : Ent (Int × Int) => ([] : List Itm)) (fun x : Ent (Int × Int) => x) (arL F G os) := fun C Cx l Y W M => arrows_run w0 W C Cx l B D F G H hH hP oa oq os hol hos Y M
set_option maxHeartbeats 1000000 in
set_option maxRecDepth 100000 in
theorem arrAm_any (w : World) {x1 x2 x3 x4 x5 x6 x7 x8 x9 x10 y1 y2 y3 y4 y5 y6 y7 y8 y9 y10 : Option Addr} {k1 k2 k3 k4 k5 k6 k7 k8 k9 k10 l1 l2 l3 l4 l5 l6 l7 l8 l9 l10 : Nat} (F G : Fct) (hC : CspR w F G x1 x2 x3 x4 x5 x6 x7 x8 x9 x10 y1 y2 y3 y4 y5 y6 y7 y8 y9 y10 k1 k2 k3 k4 k5 k6 k7 k8 k9 k10 l1 l2 l3 l4 l5 l6 l7 l8 l9 l10) (oa : Option Addr) (n oq : Nat) :
    Calls Tryz.prog 84 #[.agg #[.int .i64 F.S.ob, .slice x1 F.S.s.length k1, .slice x2 F.S.t.length k2, .slice x3 F.S.e.length k3, .slice x4 F.S.m.length k4, .int .i64 F.T.ob, .slice x5 F.T.s.length k5, .slice x6 F.T.t.length k6, .slice x7 F.T.e.length k7, .slice x8 F.T.m.length k8, .slice x9 F.o.length k9, .slice x10 F.a.length k10, .int .i64 G.S.ob, .slice y1 G.S.s.length l1, .slice y2 G.S.t.length l2, .slice y3 G.S.e.length l3, .slice y4 G.S.m.length l4, .int .i64 G.T.ob, .slice y5 G.T.s.length l5, .slice y6 G.T.t.length l6, .slice y7 G.T.e.length l7, .slice y8 G.T.m.length l8, .slice y9 G.o.length l9, .slice y10 G.a.length l10], .slice oa n oq] w (RetCl2 w 117 59 [.slice oa n oq] 58 [.int .i64 F.S.ob, .slice x1 F.S.s.length k1, .slice x2 F.S.t.length k2, .slice x3 F.S.e.length k3, .slice x4 F.S.m.length k4, .int .i64 F.T.ob, .slice x5 F.T.s.length k5, .slice x6 F.T.t.length k6, .slice x7 F.T.e.length k7, .slice x8 F.T.m.length k8, .slice x9 F.o.length k9, .slice x10 F.a.length k10, .int .i64 G.S.ob, .slice y1 G.S.s.length l1, .slice y2 G.S.t.length l2, .slice y3 G.S.e.length l3, .slice y4 G.S.m.length l4, .int .i64 G.T.ob, .slice y5 G.T.s.length l5, .slice y6 G.T.t.length l6, .slice y7 G.T.e.length l7, .slice y8 G.T.m.length l8, .slice y9 G.o.length l9, .slice y10 G.a.length l10]) := by
  go_enter Tryz.func84, Tryz.ntmps84
  refine gc_enter (N := 6) rfl (look_cons (k := 0) rfl (look_cons (k := 1) rfl (look_nil _))) ?_
  refine gc_seq fun K1 hK1 => ?_
  refine gc_region ?_
  refine g_op (.free rfl) fun K3 hK3 => ?_
  refine go_box rfl rfl rfl rfl rfl ?_
  intro B2
  refine hK3 _ _ ?_
  refine g_op (.free rfl) fun K5 hK5 => ?_
  refine go_box rfl rfl rfl rfl rfl ?_
  intro B4
  refine hK5 _ _ ?_
  refine g_v (.free rfl) rfl rfl (qt_assign rfl rfl) ?_
  refine g_nil ?_
  refine gk_then (hK1 _ _ ?_)
  refine gc_seq fun K6 hK6 => ?_
  refine gc_region ?_
  refine g_v (.free rfl) rfl rfl (qt_makeF rfl rfl) ?_
  refine g_v (.free rfl) rfl rfl (qt_assign rfl rfl) ?_
  refine g_nil ?_
  refine gk_then (hK6 _ _ ?_)
  refine gc_ret ?_
  refine ret_1 rfl rfl  (fun w M => ?_)
  exact ⟨_, _, rfl, (mem_take 2 (mem_pick (n := 1) (mem_pick (n := 0) (M) rfl) rfl)).2, M.1⟩
section
variable {w0 : World} {is : List Itm} {o : Oper} {e : Env} {r : Value}
end
end Go.Proofs.YtpcabkdkdnchaaaGreat
set_option linter.unusedSimpArgs false
set_option linter.unusedVariables false
set_option linter.unusedSectionVars false
namespace Go.Proofs.YtpcabkdkdnchaaaGreat
open Go.RowKit
end Go.Proofs.YtpcabkdkdnchaaaGreat
set_option linter.unusedSimpArgs false
set_option linter.unusedVariables false
set_option linter.unusedSectionVars false
namespace Go.Proofs.YtpcabkdkdnchaaaGreat
open Go.RowKit
end Go.Proofs.YtpcabkdkdnchaaaGreat
set_option linter.unusedSimpArgs false
set_option linter.unusedVariables false
set_option linter.unusedSectionVars false
namespace Go.Proofs.YtpcabkdkdnchaaaGreat
open Go.RowKit
end Go.Proofs.YtpcabkdkdnchaaaGreat
set_option linter.unusedSimpArgs false
set_option linter.unusedVariables false
set_option linter.unusedSectionVars false
namespace Go.Proofs.YtpcabkdkdnchaaaGreat
open Go.RowKit
noncomputable def fctErr (F : Fct) : Int := if fIsFunctor F = true then 0 else 1
noncomputable def fctF (F : Fct) : Fct := if fIsFunctor F = true then F else fct0
theorem fctErr_t {F : Fct} (h : fIsFunctor F = true) : fctErr F = 0 ∧ fctF F = F := ⟨if_pos h, if_pos h⟩
theorem fctErr_f {F : Fct} (h : fIsFunctor F = false) : fctErr F = 1 ∧ fctF F = fct0 := ⟨if_neg (by rw [h]; decide), if_neg (by rw [h]; decide)⟩
theorem fctErr_0 {F : Fct} (h : fctErr F = 0) : fIsFunctor F = true := by
  cases hh : fIsFunctor F with
  | true => rfl
  | false => rw [(fctErr_f hh).1] at h; omega
theorem fctErr_n {F : Fct} (h : ¬ fctErr F = 0) : fIsFunctor F = false ∧ fctErr F = 1 ∧ fctF F = fct0 := by
  cases hh : fIsFunctor F with
  | true => exact absurd (fctErr_t hh).1 h
  | false => exact ⟨rfl, fctErr_f hh⟩
set_option maxHeartbeats 1000000 in
set_option maxRecDepth 100000 in
theorem specMakeF_any (w : World) (v : Value) (c : Cat) (h : RdC w v c) (u : Value) (d : Cat) (e : RdC w u d) (p : Value) (xs : List Int) (q : Value) (ys : List Int) (hp : Rd w p xs) (hq : Rd w q ys) :
    Calls Tryz.prog 39 #[v, u, p, q] w (RetFn w ⟨c, d, xs, ys⟩) := by
  have h0 := h
  obtain ⟨va, vb, vc, vd, ve, vf, vg, vh, rfl, h1, h2, h3, h4, _⟩ := h.lists
  have e0 := e
  obtain ⟨ua, ub, uc, ud, ue, uf, ug, uh, rfl, e1, e2, e3, e4, _⟩ := e.lists
  obtain ⟨pa, pc, rfl⟩ := rd_form hp
  obtain ⟨qa, qc, rfl⟩ := rd_form hq
  go_enter Tryz.func39, Tryz.ntmps39
  refine gc_enter (N := 18) rfl (look_cons (k := 0) rfl (look_cons (k := 1) rfl (look_cons (k := 2) rfl (look_cons (k := 3) rfl (look_nil _))))) ?_
  refine gc_seq fun K1 hK1 => ?_
  refine gc_region ?_
  refine g_op (.free rfl) fun K3 hK3 => ?_
  refine go_box rfl rfl rfl rfl rfl ?_
  intro B2
  refine hK3 _ _ ?_
  refine g_op (.free rfl) fun K5 hK5 => ?_
  refine go_box rfl rfl rfl rfl rfl ?_
  intro B4
  refine hK5 _ _ ?_
  refine g_op (.free rfl) fun K7 hK7 => ?_
  refine go_alloc (z := (.agg #[.int .i64 0, .slice none 0 0, .slice none 0 0, .slice none 0 0, .slice none 0 0, .int .i64 0, .slice none 0 0, .slice none 0 0, .slice none 0 0, .slice none 0 0, .slice none 0 0, .slice none 0 0])) (cs := [.int .i64 0, .slice none 0 0, .slice none 0 0, .slice none 0 0, .slice none 0 0, .int .i64 0, .slice none 0 0, .slice none 0 0, .slice none 0 0, .slice none 0 0, .slice none 0 0, .slice none 0 0]) rfl rfl rfl (fun w => by kernel_rfl) rfl ?_
  intro B6
  refine hK7 _ _ ?_
  refine g_nil ?_
  refine gk_then (hK1 _ _ ?_)
  refine gc_seq fun K8 hK8 => ?_
  try simp only [List.nil_append, List.cons_append, List.append_assoc, List.set_cons_succ, List.set_cons_zero]
  refine ga_start _ (fun w M => mem_erase 2 (M)) ?_
  refine ga_v 0 rfl (by kernel_rfl) (by kernel_rfl) (by kernel_rfl) (.free rfl) rfl rfl (qt_loadS (n := 0) rfl rfl Tryz.underlying29 rfl (by kernel_rfl) rfl) (fun _ _ _ h => h) ?_
  refine ga_v 2 rfl (by kernel_rfl) (by kernel_rfl) (by kernel_rfl) (.free rfl) rfl rfl (qt_loadS (n := 1) rfl rfl Tryz.underlying29 rfl (by kernel_rfl) rfl) (fun _ _ _ h => h) ?_
  refine ga_v 4 rfl (by kernel_rfl) (by kernel_rfl) (by kernel_rfl) (.free rfl) rfl rfl (qt_move rfl rfl) (fun _ _ _ h => h) ?_
  refine ga_v 6 rfl (by kernel_rfl) (by kernel_rfl) (by kernel_rfl) (.free rfl) rfl rfl (qt_move rfl rfl) (fun _ _ _ h => h) ?_
  refine ga_op 1 (by kernel_rfl) rfl (.free rfl) fun K10 hK10 => ?_
  refine go_callC rfl rfl rfl Tryz.func78 rfl (by decide) rfl (fun w M => specOwnC_any w _ _ (mem_rdC M h0)) ?_
  intro ca9 cb9 cc9 cd9 ce9 cf9 cg9 ch9 cu9
  refine hK10 _ _ (fun w M => (mem_erase 2 (mem_take 3 M) :)) ?_
  refine ga_op 3 (by kernel_rfl) rfl (.free rfl) fun K12 hK12 => ?_
  refine go_callC rfl rfl rfl Tryz.func78 rfl (by decide) rfl (fun w M => specOwnC_any w _ _ (mem_rdC M e0)) ?_
  intro ca11 cb11 cc11 cd11 ce11 cf11 cg11 ch11 cu11
  refine hK12 _ _ (fun w M => (mem_erase 2 (mem_take 3 M) :)) ?_
  refine ga_op 5 (by kernel_rfl) rfl (.free rfl) fun K14 hK14 => ?_
  refine go_callL rfl rfl rfl Tryz.func79 rfl (by decide) rfl (fun w M => specOwn_any w _ _ (mem_rd M hp)) ?_
  intro va13 vc13
  refine hK14 _ _ (fun w M => (mem_erase 2 (mem_take 3 M) :)) ?_
  refine ga_op 7 (by kernel_rfl) rfl (.free rfl) fun K16 hK16 => ?_
  refine go_callL rfl rfl rfl Tryz.func79 rfl (by decide) rfl (fun w M => specOwn_any w _ _ (mem_rd M hq)) ?_
  intro va15 vc15
  refine hK16 _ _ (fun w M => (mem_erase 2 (mem_take 3 M) :)) ?_
  refine ga_v 8 rfl (by kernel_rfl) (by kernel_rfl) (by kernel_rfl) (.free rfl) rfl rfl (qt_build rfl rfl bt_Functor) (fun _ _ _ h => h) ?_
  refine ga_op 9 (by kernel_rfl) rfl (.free rfl) fun K17 hK17 => ?_
  refine go_storeS (n := 2) rfl rfl rfl rfl (by kernel_rfl) rfl rfl rfl ?_
  refine hK17 _ _ (fun w M => (mem_erase 2 (mem_take 3 M) :)) ?_
  refine ga_done (by kernel_rfl) ?_
  refine gk_then (hK8 _ _ ?_)
  refine gc_ret ?_
  refine ret_S (n := 2) rfl rfl Tryz.underlying31 rfl (by kernel_rfl) rfl (fun w M => ?_)
  exact retFn_star (F := ⟨c, d, xs, ys⟩) (mem_block 3 10 (M))
set_option maxHeartbeats 1000000 in
set_option maxRecDepth 100000 in
theorem copiedF_any (w : World) (v : Value) (F : Fct) (h : RdF w v F) :
    Calls Tryz.prog 132 #[v] w (RetFn w F) := by
  have h0 := h
  obtain ⟨vx1, vx2, vx3, vx4, vx5, vx6, vx7, vx8, vx9, vx10, vk1, vk2, vk3, vk4, vk5, vk6, vk7, vk8, vk9, vk10, rfl, h1, h2, h3, h4, h5, h6, h7, h8, h9, h10⟩ := h.lists
  go_enter Tryz.func132, Tryz.ntmps132
  refine gc_enter (N := 16) rfl (look_cons (k := 0) rfl (look_nil _)) ?_
  refine gc_seq fun K1 hK1 => ?_
  refine gc_region ?_
  refine g_op (.free rfl) fun K3 hK3 => ?_
  refine go_box rfl rfl rfl rfl rfl ?_
  intro B2
  refine hK3 _ _ ?_
  refine g_op (.free rfl) fun K5 hK5 => ?_
  refine go_alloc (z := (.agg #[.int .i64 0, .slice none 0 0, .slice none 0 0, .slice none 0 0, .slice none 0 0, .int .i64 0, .slice none 0 0, .slice none 0 0, .slice none 0 0, .slice none 0 0, .slice none 0 0, .slice none 0 0])) (cs := [.int .i64 0, .slice none 0 0, .slice none 0 0, .slice none 0 0, .slice none 0 0, .int .i64 0, .slice none 0 0, .slice none 0 0, .slice none 0 0, .slice none 0 0, .slice none 0 0, .slice none 0 0]) rfl rfl rfl (fun w => by kernel_rfl) rfl ?_
  intro B4
  refine hK5 _ _ ?_
  refine g_nil ?_
  refine gk_then (hK1 _ _ ?_)
  refine gc_seq fun K6 hK6 => ?_
  try simp only [List.nil_append, List.cons_append, List.append_assoc, List.set_cons_succ, List.set_cons_zero]
  refine ga_start _ (fun w M => mem_erase 1 (M)) ?_
  refine ga_v 0 rfl (by kernel_rfl) (by kernel_rfl) (by kernel_rfl) (.free rfl) rfl rfl (qt_field (z := 4) (off := 0) rfl rfl Tryz.underlying31 rfl (by kernel_rfl) rfl) (fun _ _ _ h => h) ?_
  refine ga_v 1 rfl (by kernel_rfl) (by kernel_rfl) (by kernel_rfl) (.free rfl) rfl rfl (qt_loadP (n := 0) (z := 5) rfl rfl Tryz.underlying29 rfl (by kernel_rfl) rfl (by first | decide | exact Nat.le_refl _ | simp)) (fun _ _ _ h => h) ?_
  refine ga_v 3 rfl (by kernel_rfl) (by kernel_rfl) (by kernel_rfl) (.free rfl) rfl rfl (qt_field (z := 4) (off := 5) rfl rfl Tryz.underlying31 rfl (by kernel_rfl) rfl) (fun _ _ _ h => h) ?_
  refine ga_v 4 rfl (by kernel_rfl) (by kernel_rfl) (by kernel_rfl) (.free rfl) rfl rfl (qt_loadP (n := 0) (z := 5) rfl rfl Tryz.underlying29 rfl (by kernel_rfl) rfl (by first | decide | exact Nat.le_refl _ | simp)) (fun _ _ _ h => h) ?_
  refine ga_v 6 rfl (by kernel_rfl) (by kernel_rfl) (by kernel_rfl) (.free rfl) rfl rfl (qt_field (z := 0) (off := 10) rfl rfl Tryz.underlying31 rfl (by kernel_rfl) rfl) (fun _ _ _ h => h) ?_
  refine ga_v 7 rfl (by kernel_rfl) (by kernel_rfl) (by kernel_rfl) (.free rfl) rfl rfl (qt_loadB (n := 0) rfl rfl Tryz.underlying22 rfl rfl rfl) (fun _ _ _ h => h) ?_
  refine ga_v 9 rfl (by kernel_rfl) (by kernel_rfl) (by kernel_rfl) (.free rfl) rfl rfl (qt_field (z := 0) (off := 11) rfl rfl Tryz.underlying31 rfl (by kernel_rfl) rfl) (fun _ _ _ h => h) ?_
  refine ga_v 10 rfl (by kernel_rfl) (by kernel_rfl) (by kernel_rfl) (.free rfl) rfl rfl (qt_loadB (n := 0) rfl rfl Tryz.underlying22 rfl rfl rfl) (fun _ _ _ h => h) ?_
  refine ga_op 2 (by kernel_rfl) rfl (.free rfl) fun K8 hK8 => ?_
  refine go_callC rfl rfl rfl Tryz.func150 rfl (by decide) rfl (fun w M => copied_any w _ _ (rdC_mk (mem_rd M h1) (mem_rd M h2) (mem_rd M h3) (mem_rd2 M h4))) ?_
  intro ca7 cb7 cc7 cd7 ce7 cf7 cg7 ch7 cu7
  refine hK8 _ _ (fun w M => (mem_erase 1 (mem_take 2 M) :)) ?_
  refine ga_op 5 (by kernel_rfl) rfl (.free rfl) fun K10 hK10 => ?_
  refine go_callC rfl rfl rfl Tryz.func150 rfl (by decide) rfl (fun w M => copied_any w _ _ (rdC_mk (mem_rd M h5) (mem_rd M h6) (mem_rd M h7) (mem_rd2 M h8))) ?_
  intro ca9 cb9 cc9 cd9 ce9 cf9 cg9 ch9 cu9
  refine hK10 _ _ (fun w M => (mem_erase 1 (mem_take 2 M) :)) ?_
  refine ga_op 8 (by kernel_rfl) rfl (.free rfl) fun K12 hK12 => ?_
  refine go_callL rfl rfl rfl Tryz.func158 rfl (by decide) rfl (fun w M => clone_any w _ _ (mem_rd M h9)) ?_
  intro va11 vc11
  refine hK12 _ _ (fun w M => (mem_erase 1 (mem_take 2 M) :)) ?_
  refine ga_op 11 (by kernel_rfl) rfl (.free rfl) fun K14 hK14 => ?_
  refine go_callL rfl rfl rfl Tryz.func158 rfl (by decide) rfl (fun w M => clone_any w _ _ (mem_rd M h10)) ?_
  intro va13 vc13
  refine hK14 _ _ (fun w M => (mem_erase 1 (mem_take 2 M) :)) ?_
  refine ga_v 12 rfl (by kernel_rfl) (by kernel_rfl) (by kernel_rfl) (.free rfl) rfl rfl (qt_build rfl rfl bt_Functor) (fun _ _ _ h => h) ?_
  refine ga_op 13 (by kernel_rfl) rfl (.free rfl) fun K15 hK15 => ?_
  refine go_storeS (n := 1) rfl rfl rfl rfl (by kernel_rfl) rfl rfl rfl ?_
  refine hK15 _ _ (fun w M => (mem_erase 1 (mem_take 2 M) :)) ?_
  refine ga_done (by kernel_rfl) ?_
  refine gk_then (hK6 _ _ ?_)
  refine gc_ret ?_
  refine ret_S (n := 1) rfl rfl Tryz.underlying31 rfl (by kernel_rfl) rfl (fun w M => ?_)
  exact retFn_star (F := F) (mem_block 2 10 (M))
set_option maxHeartbeats 1000000 in
set_option maxRecDepth 100000 in
theorem readFunctor_f (w : World) (v : Value) (F : Fct) (h : RdF w v F) (hF : fIsFunctor F = false) :
    Calls Tryz.prog 105 #[v] w (ZeroF w 1) := by
  have h0 := h
  obtain ⟨vx1, vx2, vx3, vx4, vx5, vx6, vx7, vx8, vx9, vx10, vk1, vk2, vk3, vk4, vk5, vk6, vk7, vk8, vk9, vk10, rfl, h1, h2, h3, h4, h5, h6, h7, h8, h9, h10⟩ := h.lists
  go_enter Tryz.func105, Tryz.ntmps105
  refine gc_enter (N := 10) rfl (look_cons (k := 0) rfl (look_nil _)) ?_
  refine gc_seq fun K1 hK1 => ?_
  refine gc_region ?_
  refine g_op (.free rfl) fun K3 hK3 => ?_
  refine go_box rfl rfl rfl rfl rfl ?_
  intro B2
  refine hK3 _ _ ?_
  refine g_op (.free rfl) fun K5 hK5 => ?_
  refine go_alloc (z := (.agg #[.int .i64 0, .slice none 0 0, .slice none 0 0, .slice none 0 0, .slice none 0 0, .int .i64 0, .slice none 0 0, .slice none 0 0, .slice none 0 0, .slice none 0 0, .slice none 0 0, .slice none 0 0])) (cs := [.int .i64 0, .slice none 0 0, .slice none 0 0, .slice none 0 0, .slice none 0 0, .int .i64 0, .slice none 0 0, .slice none 0 0, .slice none 0 0, .slice none 0 0, .slice none 0 0, .slice none 0 0]) rfl rfl rfl (fun w => by kernel_rfl) rfl ?_
  intro B4
  refine hK5 _ _ ?_
  refine g_v (.free rfl) rfl rfl (qt_assign rfl rfl) ?_
  refine g_nil ?_
  refine gk_then (hK1 _ _ ?_)
  refine gc_seq fun K6 hK6 => ?_
  refine gc_seq fun K7 hK7 => ?_
  refine gc_region ?_
  refine g_v (.free rfl) rfl rfl (qt_loadS (n := 0) rfl rfl Tryz.underlying31 rfl (by kernel_rfl) rfl) ?_
  refine g_q (.free rfl) rfl rfl (qt_call rfl Tryz.func131 rfl (by decide) rfl (fun w M => impl_IsFunctor w _ _ (mem_rdF M h0))) ?_
  refine g_v (.free rfl) rfl rfl (qt_not rfl rfl) ?_
  refine g_nil ?_
  refine gk_then (hK7 _ _ ?_)
  refine gc_cond rfl (fun hc0 => ?_) (fun hc0 => ?_)
  · try simp only [decide_eq_true_eq, decide_eq_false_iff_not, Bool.not_eq_true', Bool.not_eq_false', Bool.not_eq_eq_eq_not, Bool.not_true, Bool.not_false, ne_eq, Decidable.not_not, Classical.not_not] at hc0
    refine gc_seq fun K8 hK8 => ?_
    refine gc_region ?_
    refine g_v (.free rfl) rfl rfl (qt_build rfl rfl bt0_Functor) ?_
    refine g_op (.free rfl) fun K9 hK9 => ?_
    refine go_storeS (n := 1) rfl rfl rfl rfl (by kernel_rfl) rfl rfl rfl ?_
    refine hK9 _ _ ?_
    refine g_v (.free rfl) rfl rfl (qt_assign rfl rfl) ?_
    refine g_nil ?_
    refine gk_then (hK8 _ _ ?_)
    refine gc_ret ?_
    refine gk_then_ret ?_
    refine ret_SI (n := 1) rfl rfl rfl Tryz.underlying31 rfl (by kernel_rfl) rfl (fun w M => ?_)
    exact ⟨rfl, M.1⟩
  · try simp only [decide_eq_true_eq, decide_eq_false_iff_not, Bool.not_eq_true', Bool.not_eq_false', Bool.not_eq_eq_eq_not, Bool.not_true, Bool.not_false, ne_eq, Decidable.not_not, Classical.not_not] at hc0
    rw [hF] at hc0; cases hc0
set_option maxHeartbeats 1000000 in
set_option maxRecDepth 100000 in
theorem readFunctor_t (w : World) (v : Value) (F : Fct) (h : RdF w v F) (hF : fIsFunctor F = true) :
    Calls Tryz.prog 105 #[v] w (RetFI w F 0) := by
  have h0 := h
  obtain ⟨vx1, vx2, vx3, vx4, vx5, vx6, vx7, vx8, vx9, vx10, vk1, vk2, vk3, vk4, vk5, vk6, vk7, vk8, vk9, vk10, rfl, h1, h2, h3, h4, h5, h6, h7, h8, h9, h10⟩ := h.lists
  go_enter Tryz.func105, Tryz.ntmps105
  refine gc_enter (N := 10) rfl (look_cons (k := 0) rfl (look_nil _)) ?_
  refine gc_seq fun K1 hK1 => ?_
  refine gc_region ?_
  refine g_op (.free rfl) fun K3 hK3 => ?_
  refine go_box rfl rfl rfl rfl rfl ?_
  intro B2
  refine hK3 _ _ ?_
  refine g_op (.free rfl) fun K5 hK5 => ?_
  refine go_alloc (z := (.agg #[.int .i64 0, .slice none 0 0, .slice none 0 0, .slice none 0 0, .slice none 0 0, .int .i64 0, .slice none 0 0, .slice none 0 0, .slice none 0 0, .slice none 0 0, .slice none 0 0, .slice none 0 0])) (cs := [.int .i64 0, .slice none 0 0, .slice none 0 0, .slice none 0 0, .slice none 0 0, .int .i64 0, .slice none 0 0, .slice none 0 0, .slice none 0 0, .slice none 0 0, .slice none 0 0, .slice none 0 0]) rfl rfl rfl (fun w => by kernel_rfl) rfl ?_
  intro B4
  refine hK5 _ _ ?_
  refine g_v (.free rfl) rfl rfl (qt_assign rfl rfl) ?_
  refine g_nil ?_
  refine gk_then (hK1 _ _ ?_)
  refine gc_seq fun K6 hK6 => ?_
  refine gc_seq fun K7 hK7 => ?_
  refine gc_region ?_
  refine g_v (.free rfl) rfl rfl (qt_loadS (n := 0) rfl rfl Tryz.underlying31 rfl (by kernel_rfl) rfl) ?_
  refine g_q (.free rfl) rfl rfl (qt_call rfl Tryz.func131 rfl (by decide) rfl (fun w M => impl_IsFunctor w _ _ (mem_rdF M h0))) ?_
  refine g_v (.free rfl) rfl rfl (qt_not rfl rfl) ?_
  refine g_nil ?_
  refine gk_then (hK7 _ _ ?_)
  refine gc_cond rfl (fun hc0 => ?_) (fun hc0 => ?_)
  · try simp only [decide_eq_true_eq, decide_eq_false_iff_not, Bool.not_eq_true', Bool.not_eq_false', Bool.not_eq_eq_eq_not, Bool.not_true, Bool.not_false, ne_eq, Decidable.not_not, Classical.not_not] at hc0
    rw [hF] at hc0; cases hc0
  · try simp only [decide_eq_true_eq, decide_eq_false_iff_not, Bool.not_eq_true', Bool.not_eq_false', Bool.not_eq_eq_eq_not, Bool.not_true, Bool.not_false, ne_eq, Decidable.not_not, Classical.not_not] at hc0
    refine gc_skip ?_
    refine gk_then (hK6 _ _ ?_)
    refine gc_seq fun K8 hK8 => ?_
    refine gc_region ?_
    refine g_v (.free rfl) rfl rfl (qt_loadS (n := 0) rfl rfl Tryz.underlying31 rfl (by kernel_rfl) rfl) ?_
    refine g_op (.free rfl) fun K10 hK10 => ?_
    refine go_callFn rfl rfl rfl Tryz.func132 rfl (by decide) rfl (fun w M => copiedF_any w _ _ (mem_rdF M h0)) ?_
    intro fx1_9 fk1_9 fx2_9 fk2_9 fx3_9 fk3_9 fx4_9 fk4_9 fx5_9 fk5_9 fx6_9 fk6_9 fx7_9 fk7_9 fx8_9 fk8_9 fx9_9 fk9_9 fx10_9 fk10_9 us9 ut9
    refine hK10 _ _ ?_
    refine g_op (.free rfl) fun K11 hK11 => ?_
    refine go_storeS (n := 1) rfl rfl rfl rfl (by kernel_rfl) rfl rfl rfl ?_
    refine hK11 _ _ ?_
    refine g_v (.free rfl) rfl rfl (qt_assign rfl rfl) ?_
    refine g_nil ?_
    refine gk_then (hK8 _ _ ?_)
    refine gc_ret ?_
    refine ret_SI (n := 1) rfl rfl rfl Tryz.underlying31 rfl (by kernel_rfl) rfl (fun w M => ?_)
    exact retFI_star (F := F) (mem_block 2 10 (M))
theorem readFct_any (w : World) (v : Value) (F : Fct) (h : RdF w v F) : Calls Tryz.prog 105 #[v] w (RetFI w (fctF F) (fctErr F)) := by
  cases hI : fIsFunctor F with
  | false => rw [(fctErr_f hI).1, (fctErr_f hI).2]; exact (readFunctor_f w v F h hI).mono fun e w' h => retFI_of0 h
  | true => rw [(fctErr_t hI).1, (fctErr_t hI).2]; exact readFunctor_t w v F h hI
end Go.Proofs.YtpcabkdkdnchaaaGreat
set_option linter.unusedSimpArgs false
set_option linter.unusedVariables false
set_option linter.unusedSectionVars false
namespace Go.Proofs.YtpcabkdkdnchaaaGreat
open Go.RowKit
end Go.Proofs.YtpcabkdkdnchaaaGreat
set_option linter.unusedSimpArgs false
set_option linter.unusedVariables false
set_option linter.unusedSectionVars false
namespace Go.Proofs.YtpcabkdkdnchaaaGreat
open Go.RowKit
section
variable {w0 : World} {is : List Itm} {ops : Array Oper} {Q : Exit → Act → World → Prop} {o : Oper} {rest : List Oper} {N : Frm} {e : Env} {v : Value} {d : Nat} {K : Act → World → Prop}
theorem go_slice3I {t : TypeId} {x0 x1 x2 : Operand} {y0 y1 y2 : Int} (hd : o.dst = some d) (hN : Nat.blt d N = true) (hop : o.op = .buildSlice t 3 #[(0, x0), (1, x1), (2, x2)]) (h0 : evo e x0 = some (.int .i64 y0)) (h1 : evo e x1 = some (.int .i64 y1)) (h2 : evo e x2 = some (.int .i64 y2)) (ht : Tryz.prog.underlying t = some (.slice 2))
    (hk : ∀ B : Nat, GK w0 (is ++ [own1I (.slice (some ⟨B, 0, none⟩) 3 3) [y0, y1, y2]]) N K ((d, .slice (some ⟨B, 0, none⟩) 3 3) :: e)) : GO w0 is N o e Q K := by
  intro w ac M F
  refine go_val (v := .slice (some ⟨w.heap.size, 0, none⟩) 3 3) (w' := w.alloc (.cells #[.int .i64 y0, .int .i64 y1, .int .i64 y2] 2)) hd hN F ?_ fun ac F => hk _ _ ac (mem_row (xs := [y0, y1, y2]) M (by simp)) F
  intro ρ F
  have h0 := F _ _ h0; have h1 := F _ _ h1; have h2 := F _ _ h2
  obtain ⟨i, hi, hz, hs, hb⟩ := info_parts info64
  have hr : Array.range 3 = #[0, 1, 2] := by apply Array.toList_inj.1; simp [List.range_succ]
  simp [execOp, hop, h0, h1, h2, Instr.buildSlice, run_underlying ht, sizeOf, typeInfo, hi, hs, Instr.fill, newRow, zeroValue, hz, Value.cells, Sem.run_bind, hr]
theorem go_slice4I {t : TypeId} {x0 x1 x2 x3 : Operand} {y0 y1 y2 y3 : Int} (hd : o.dst = some d) (hN : Nat.blt d N = true) (hop : o.op = .buildSlice t 4 #[(0, x0), (1, x1), (2, x2), (3, x3)]) (h0 : evo e x0 = some (.int .i64 y0)) (h1 : evo e x1 = some (.int .i64 y1)) (h2 : evo e x2 = some (.int .i64 y2)) (h3 : evo e x3 = some (.int .i64 y3)) (ht : Tryz.prog.underlying t = some (.slice 2))
    (hk : ∀ B : Nat, GK w0 (is ++ [own1I (.slice (some ⟨B, 0, none⟩) 4 4) [y0, y1, y2, y3]]) N K ((d, .slice (some ⟨B, 0, none⟩) 4 4) :: e)) : GO w0 is N o e Q K := by
  intro w ac M F
  refine go_val (v := .slice (some ⟨w.heap.size, 0, none⟩) 4 4) (w' := w.alloc (.cells #[.int .i64 y0, .int .i64 y1, .int .i64 y2, .int .i64 y3] 2)) hd hN F ?_ fun ac F => hk _ _ ac (mem_row (xs := [y0, y1, y2, y3]) M (by simp)) F
  intro ρ F
  have h0 := F _ _ h0; have h1 := F _ _ h1; have h2 := F _ _ h2; have h3 := F _ _ h3
  obtain ⟨i, hi, hz, hs, hb⟩ := info_parts info64
  have hr : Array.range 4 = #[0, 1, 2, 3] := by apply Array.toList_inj.1; simp [List.range_succ]
  simp [execOp, hop, h0, h1, h2, h3, Instr.buildSlice, run_underlying ht, sizeOf, typeInfo, hi, hs, Instr.fill, newRow, zeroValue, hz, Value.cells, Sem.run_bind, hr]
end
end Go.Proofs.YtpcabkdkdnchaaaGreat
set_option linter.unusedSimpArgs false
set_option linter.unusedVariables false
set_option linter.unusedSectionVars false
namespace Go.Proofs.YtpcabkdkdnchaaaGreat
open Go.RowKit
end Go.Proofs.YtpcabkdkdnchaaaGreat
