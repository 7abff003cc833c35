import Derived.Test.YtpcabkdkdnchaaaGreatZ19
import Derived.Test.YtpcabkdkdnchaaaGreatZ6
import Derived.Test.YtpcabkdkdnchaaaGreatZ11
set_option linter.unusedSimpArgs false
set_option linter.unusedVariables false
set_option linter.unusedSectionVars false
namespace Go.Proofs.YtpcabkdkdnchaaaGreat
open Go.RowKit
set_option maxHeartbeats 4000000 in
set_option maxRecDepth 100000 in
theorem arrows_run (w0 w : World) (C Cx : List (Ent (Int × Int)) → Itm) (l B D : Nat) {x1 x2 x3 x4 x5 x6 x7 x8 x9 x10 y1 y2 y3 y4 y5 y6 y7 y8 y9 y10 : Option Addr} {k1 k2 k3 k4 k5 k6 k7 k8 k9 k10 l1 l2 l3 l4 l5 l6 l7 l8 l9 l10 : Nat} (F G : Fct) (H : Itm) (hH : ∀ w S, H.p w S → CspR w F G x1 x2 x3 x4 x5 x6 x7 x8 x9 x10 y1 y2 y3 y4 y5 y6 y7 y8 y9 y10 k1 k2 k3 k4 k5 k6 k7 k8 k9 k10 l1 l2 l3 l4 l5 l6 l7 l8 l9 l10) (hP : CspP F G) (oa : Option Addr) (oq : Nat) (os : List (Ent Int)) (hol : os.length ≤ 2560) (hos : ∀ k : Nat, k < os.length → 0 ≤ (atE os (k : Int)).2.2 ∧ (atE os (k : Int)).2.2 < F.T.s.length) (Y : YieldC w0 C Cx l (fun e : Ent (Int × Int) => Value.agg #[.int .i64 e.1, .int .i64 e.2.1, .int .i64 e.2.2.1, .int .i64 e.2.2.2]) (fun _ : Ent (Int × Int) => ([] : List Itm)) (fun x : Ent (Int × Int) => x) (arL F G os)) (M : Mem w0 w [C [], bxI D 59 [.slice oa os.length oq], bxI B 58 [.int .i64 F.S.ob, .slice x1 F.S.s.length k1, .slice x2 F.S.t.length k2, .slice x3 F.S.e.length k3, .slice x4 F.S.m.length k4, .int .i64 F.T.ob, .slice x5 F.T.s.length k5, .slice x6 F.T.t.length k6, .slice x7 F.T.e.length k7, .slice x8 F.T.m.length k8, .slice x9 F.o.length k9, .slice x10 F.a.length k10, .int .i64 G.S.ob, .slice y1 G.S.s.length l1, .slice y2 G.S.t.length l2, .slice y3 G.S.e.length l3, .slice y4 G.S.m.length l4, .int .i64 G.T.ob, .slice y5 G.T.s.length l5, .slice y6 G.T.t.length l6, .slice y7 G.T.e.length l7, .slice y8 G.T.m.length l8, .slice y9 G.o.length l9, .slice y10 G.a.length l10], H, ownEI0 lab_co (.slice oa os.length oq) os]) :
  Calls Tryz.prog 117 #[.func (.yield l) #[] #[], .pointer (some ⟨D, 0, none⟩), .pointer (some ⟨B, 0, none⟩)] w (fun e W' => (∃ v, e = .returned v) ∧ ((∃ xs, xs.map (fun x : Ent (Int × Int) => x) = (arL F G os) ∧ Mem w0 W' (C xs :: [bxI D 59 [.slice oa os.length oq], bxI B 58 [.int .i64 F.S.ob, .slice x1 F.S.s.length k1, .slice x2 F.S.t.length k2, .slice x3 F.S.e.length k3, .slice x4 F.S.m.length k4, .int .i64 F.T.ob, .slice x5 F.T.s.length k5, .slice x6 F.T.t.length k6, .slice x7 F.T.e.length k7, .slice x8 F.T.m.length k8, .slice x9 F.o.length k9, .slice x10 F.a.length k10, .int .i64 G.S.ob, .slice y1 G.S.s.length l1, .slice y2 G.S.t.length l2, .slice y3 G.S.e.length l3, .slice y4 G.S.m.length l4, .int .i64 G.T.ob, .slice y5 G.T.s.length l5, .slice y6 G.T.t.length l6, .slice y7 G.T.e.length l7, .slice y8 G.T.m.length l8, .slice y9 G.o.length l9, .slice y10 G.a.length l10], H, ownEI0 lab_co (.slice oa os.length oq) os])) ∨ (∃ pre, (pre.map (fun x : Ent (Int × Int) => x)) <+: (arL F G os) ∧ Mem w0 W' (Cx pre :: [bxI D 59 [.slice oa os.length oq], bxI B 58 [.int .i64 F.S.ob, .slice x1 F.S.s.length k1, .slice x2 F.S.t.length k2, .slice x3 F.S.e.length k3, .slice x4 F.S.m.length k4, .int .i64 F.T.ob, .slice x5 F.T.s.length k5, .slice x6 F.T.t.length k6, .slice x7 F.T.e.length k7, .slice x8 F.T.m.length k8, .slice x9 F.o.length k9, .slice x10 F.a.length k10, .int .i64 G.S.ob, .slice y1 G.S.s.length l1, .slice y2 G.S.t.length l2, .slice y3 G.S.e.length l3, .slice y4 G.S.m.length l4, .int .i64 G.T.ob, .slice y5 G.T.s.length l5, .slice y6 G.T.t.length l6, .slice y7 G.T.e.length l7, .slice y8 G.T.m.length l8, .slice y9 G.o.length l9, .slice y10 G.a.length l10], H, ownEI0 lab_co (.slice oa os.length oq) os])))) := by
 have fS := (isCat_of hP.f.cs).toShapeP; have fT := (isCat_of hP.f.ct).toShapeP; have gS := (isCat_of hP.g.cs).toShapeP
 have fo := hP.f.lo; have fa := hP.f.la; have go := hP.g.lo; have ga := hP.g.la
 have s8 := fS.ob8; have s0 := fS.ob0; have g8 := gS.ob8; have g0 := gS.ob0; have n1 := fS.n40; have n2 := gS.n40; have n3 := fT.n40
 refine gc_enterK (nf := 41) (args := [_, _, _]) M Tryz.func117 rfl rfl (Nat.le_of_ble_eq_true rfl) (look_cons (k := 0) rfl (look_cons (k := 1) rfl (look_cons (k := 2) rfl (look_nil _)))) ?_
 clear M
 refine gc_seqD fun K1 hK1 => ?_
 refine gc_region ?_
 refine gop fun K3 hK3 => ?_
 refine go_box rfl rfl rfl rfl rfl ?_
 intro B2
 refine hK3 _ _ ?_
 refine gnt (hK1 _ _ ?_)
 refine gc_seqD fun K4 hK4 => ?_
 refine gc_region ?_
 refine gv (qtl Tryz.underlying59 (n := 2)) ?_
 refine gv (qt_len rfl rfl (lab_ul0 lab_co) (fun w M => lenV_E0 (mem_ownE0 (n := 5) M rfl))) ?_
 refine gm ?_
 refine gnt (hK4 _ _ ?_)
 refine gc_block ?_
 rw [show C [] = C (arU F G os 0 0 []) by rw [arU_0]]
 try simp only [sL]
 refine gc_loopD ([(0, _), (1, _), (2, _), (3, _), (9, _), (10, _)] : Env) (fun s : Nat × (List Nat) => (fun (k : Nat) (Ds : List Nat) => ([(11, .int .i64 (k : Int))] : Env)) s.1 s.2) (fun s : Nat × (List Nat) => (fun (k : Nat) (Ds : List Nat) => ([(0, dfsI Ds), (1, C (arU F G os k 0 []))] : List (Nat × Itm))) s.1 s.2) (fun s : Nat × (List Nat) => (fun (k : Nat) (Ds : List Nat) => Ds) s.1 s.2) (fun s : Nat × (List Nat) => (fun (k : Nat) (Ds : List Nat) => k ≤ os.length) s.1 s.2) (fun s : Nat × (List Nat) => (fun (k : Nat) (Ds : List Nat) => os.length - k) s.1 s.2) ((0, [])) (by repeat first | exact sub_nil | refine sub_cons rfl ?_) rfl rfl (Nat.zero_le _) ?_
 rintro ⟨k, Ds⟩ hinv KL5 hKL5
 simp only [sU, sL] at hinv hKL5 ⊢
 have hk := hinv
 refine gc_seqD fun K6 hK6 => ?_
 refine gc_region ?_
 refine gv (qt_lss rfl rfl rfl) ?_
 refine gnt (hK6 _ _ ?_)
 refine gc_seqD fun K7 hK7 => ?_
 refine gc_cond rfl (fun hc0 => ?_) (fun hc0 => ?_)
 ·try simp only [sA] at hc0
  refine gc_skip ?_
  refine gk_then (hK7 _ _ ?_)
  refine gc_seqD fun K8 hK8 => ?_
  refine gc_block ?_
  refine gc_seqD fun K9 hK9 => ?_
  refine gc_region ?_
  refine gm ?_
  refine gv (qt_indexE0 lab_co rfl rfl rfl rfl (fun w M => lenA_E0 (mem_ownE0 (n := 5) M rfl)) (by omega) (by omega)) ?_
  refine gv (qt_load_co rfl rfl rfl (fun w M => mem_ownE0 (n := 5) M rfl) (by omega) (by omega)) ?_
  refine gop fun K11 hK11 => ?_
  refine go_alloc (z := (.int .i64 0)) (cs := [.int .i64 0]) rfl rfl rfl (fun w => by kernel_rfl) rfl ?_
  intro B10
  refine hK11 _ _ ?_
  refine gop fun K13 hK13 => ?_
  refine go_alloc (z := (.agg #[.int .i64 0, .int .i64 0, .int .i64 0])) (cs := [.int .i64 0, .int .i64 0, .int .i64 0]) rfl rfl rfl (fun w => by kernel_rfl) rfl ?_
  intro B12
  refine hK13 _ _ ?_
  refine gop fun K14 hK14 => ?_
  refine go_storeB (n := 7) rfl rfl rfl rfl (by kernel_rfl) rfl rfl rfl (by first | decide | simp) ?_
  refine hK14 _ _ ?_
  refine gop fun K15 hK15 => ?_
  refine go_storeS (n := 8) rfl rfl rfl rfl (by kernel_rfl) rfl rfl rfl ?_
  refine hK15 _ _ ?_
  refine gnt (hK9 _ _ ?_)
  refine gc_seqD fun K16 hK16 => ?_
  refine gc_region ?_
  refine gv (qtl Tryz.underlying59 (n := 2)) ?_
  refine gv (qt_len rfl rfl (lab_ul0 lab_co) (fun w M => lenV_E0 (mem_ownE0 (n := 5) M rfl))) ?_
  refine gm ?_
  refine gnt (hK16 _ _ ?_)
  refine gc_block ?_
  try simp only [sL]
  refine gc_loopD ([(0, _), (1, _), (2, _), (3, _), (4, _), (5, _), (9, _), (10, _), (11, _), (12, _), (16, _), (17, _)] : Env) (fun s : Nat × (List Nat) => (fun (j : Nat) (Ds : List Nat) => ([(18, .int .i64 (j : Int))] : Env)) s.1 s.2) (fun s : Nat × (List Nat) => (fun (j : Nat) (Ds : List Nat) => ([(0, dfsI Ds), (1, C (arU F G os k j []))] : List (Nat × Itm))) s.1 s.2) (fun s : Nat × (List Nat) => (fun (j : Nat) (Ds : List Nat) => Ds) s.1 s.2) (fun s : Nat × (List Nat) => (fun (j : Nat) (Ds : List Nat) => j ≤ os.length) s.1 s.2) (fun s : Nat × (List Nat) => (fun (j : Nat) (Ds : List Nat) => os.length - j) s.1 s.2) ((0, Ds)) (by repeat first | exact sub_nil | refine sub_cons rfl ?_) rfl rfl (Nat.zero_le _) ?_
  rintro ⟨j, Ds⟩ hinv KL17 hKL17
  simp only [sU, sL] at hinv hKL17 ⊢
  have hj := hinv
  have hok := fun h => hos k h; have hoj := fun h => hos j h
  refine gc_seqD fun K18 hK18 => ?_
  refine gc_region ?_
  refine gv (qt_lss rfl rfl rfl) ?_
  refine gnt (hK18 _ _ ?_)
  refine gc_seqD fun K19 hK19 => ?_
  refine gc_cond rfl (fun hc1 => ?_) (fun hc1 => ?_)
  ·try simp only [sA] at hc1
   refine gc_skip ?_
   refine gk_then (hK19 _ _ ?_)
   refine gc_seqD fun K20 hK20 => ?_
   refine gc_block ?_
   refine gc_seqD fun K21 hK21 => ?_
   refine gc_region ?_
   refine gm ?_
   refine gv (qt_indexE0 lab_co rfl rfl rfl rfl (fun w M => lenA_E0 (mem_ownE0 (n := 5) M rfl)) (by omega) (by omega)) ?_
   refine gv (qt_load_co rfl rfl rfl (fun w M => mem_ownE0 (n := 5) M rfl) (by omega) (by omega)) ?_
   refine gop fun K23 hK23 => ?_
   refine go_alloc (z := (.int .i64 0)) (cs := [.int .i64 0]) rfl rfl rfl (fun w => by kernel_rfl) rfl ?_
   intro B22
   refine hK23 _ _ ?_
   refine gop fun K25 hK25 => ?_
   refine go_alloc (z := (.agg #[.int .i64 0, .int .i64 0, .int .i64 0])) (cs := [.int .i64 0, .int .i64 0, .int .i64 0]) rfl rfl rfl (fun w => by kernel_rfl) rfl ?_
   intro B24
   refine hK25 _ _ ?_
   refine gop fun K26 hK26 => ?_
   refine go_storeB (n := 9) rfl rfl rfl rfl (by kernel_rfl) rfl rfl rfl (by first | decide | simp) ?_
   refine hK26 _ _ ?_
   refine gop fun K27 hK27 => ?_
   refine go_storeS (n := 10) rfl rfl rfl rfl (by kernel_rfl) rfl rfl rfl ?_
   refine hK27 _ _ ?_
   refine gnt (hK21 _ _ ?_)
   refine gc_seqD fun K28 hK28 => ?_
   refine gc_region ?_
   refine gv (qts Tryz.underlying58 (n := 3)) ?_
   refine gv (qts Tryz.underlying67 (n := 8)) ?_
   refine gv (qts Tryz.underlying67 (n := 10)) ?_
   refine gop fun K30 hK30 => ?_
   refine go_callCl3 rfl rfl rfl Tryz.func118 rfl (by decide) rfl (fun w M => partsB_any w F G (csp_get hH M (n := 4) rfl) (atE os (k : Int)) (atE os (j : Int))) ?_
   intro B29 D29 E29
   refine hK30 _ _ ?_
   refine gnt (hK28 _ _ ?_)
   refine gc_block ?_
   try simp only [sL]
   refine gc_toEnd 4 rfl ?_
   simp only [List.eraseIdx_cons_succ, List.eraseIdx_cons_zero, List.cons_append, List.nil_append]
   rw [show C (arU F G os k j []) = CCg C Cx true (arU F G os k j []) from rfl]
   try simp only [sL]
   refine gc_rangeF (α := (Int × Int)) (σ := (List (Int × Int)) × Bool) 9 rfl rfl Tryz.func147 rfl (by decide) rfl (parts_seq hH hP (hok (by omega)).1 (hok (by omega)).2 (hoj (by omega)).1 (hoj (by omega)).2) (fun s : (List (Int × Int)) × Bool => (fun (ps : List (Int × Int)) (b : Bool) => ([(0, CCg C Cx b (arU F G os k j ps))] : List (Nat × Itm))) s.1 s.2) (fun (pre : List (Int × Int)) => (fun s : (List (Int × Int)) × Bool => (fun (ps : List (Int × Int)) (b : Bool) => b = true ∧ ps = pre) s.1 s.2)) (fun (c : Code) (pre : List (Int × Int)) => (fun s : (List (Int × Int)) × Bool => (fun (ps : List (Int × Int)) (b : Bool) => c = .ret ∧ b = false ∧ ps = pre) s.1 s.2)) ([], true) ⟨rfl, rfl⟩ rfl rfl rfl ?_ ?_ ?_ ?_
   ·rintro l31 r31 js31 pre ⟨pu, pv⟩ ⟨ps, b⟩ hinv hpre Ka31 Kb31 hKp31 hKa31 hKn31 hKr31 hKe31
    simp only [updL, List.foldl_cons, List.foldl_nil, List.take_succ_cons, List.take_zero, List.drop_succ_cons, List.drop_zero, List.set_cons_succ, List.set_cons_zero, List.cons_append, List.nil_append] at hinv hKn31 hKr31 hKe31 ⊢
    obtain ⟨rfl, rfl⟩ := hinv
    rw [cm_mapid] at hpre
    refine gc_region ?_
    refine gop fun K33 hK33 => ?_
    refine go_alloc (z := (.agg #[.int .i64 0, .int .i64 0])) (cs := [.int .i64 0, .int .i64 0]) rfl rfl rfl (fun w => by kernel_rfl) rfl ?_
    intro B32
    refine hK33 _ _ ?_
    refine gop fun K34 hK34 => ?_
    refine go_storeS (n := 11) rfl rfl rfl rfl (by kernel_rfl) rfl rfl rfl ?_
    refine hK34 _ _ ?_
    refine g_nil ?_
    try simp only [sL]
    refine gk_then (hKa31 _ _ ?_)
    refine gc_block ?_
    refine gc_seqD fun K35 hK35 => ?_
    refine gc_region ?_
    refine gv (qtl Tryz.underlying137 (n := 5)) ?_
    refine gv (qtl Tryz.underlying3 (n := 6)) ?_
    refine gv (qtl Tryz.underlying3 (n := 8)) ?_
    refine gv (qt_build rfl rfl bt_arrowEnds) ?_
    refine gv (qtf Tryz.underlying110 (z := 0) (off := 0)) ?_
    refine gv (qtl Tryz.underlying2 (n := 11)) ?_
    refine gv (qtf Tryz.underlying110 (z := 0) (off := 1)) ?_
    refine gv (qtl Tryz.underlying2 (n := 11)) ?_
    refine gv (qt_build rfl rfl bt_commaArrow) ?_
    refine g_yield (((k : Int), (j : Int), (pu, pv)) : Ent (Int × Int)) (.free rfl) rfl rfl rfl rfl rfl Y (by rw [cm_mapid, arU_snoc]; exact arU_pre (by omega) (by omega) hpre) (cm_pick1 (n := 1) rfl) ?_ ?_
    ·skip
     refine gv (qt_not rfl rfl) ?_
     refine gnt (hK35 _ _ ?_)
     refine gc_cond_f rfl ?_
     refine gc_skip ?_
     refine gk_block ?_
     refine gk_pickL [1, 0, 0, 0, 0, 0, 0, 0, 0, 0, 0, 0] ?_
     rw [arU_snoc]
     try simp only [sL]
     refine gk_take 11 ?_
     refine hKn31 ((ps ++ [(pu, pv)], true)) _ ?hi_36
     case hi_36 => exact ⟨rfl, rfl⟩
    ·skip
     refine gv (qt_not rfl rfl) ?_
     refine gnt (hK35 _ _ ?_)
     refine gc_cond_t rfl ?_
     refine gc_ret ?_
     refine gk_block_ret ?_
     refine gk_pickL [1, 0, 0, 0, 0, 0, 0, 0, 0, 0, 0, 0] ?_
     rw [arU_snoc]
     try simp only [sL]
     refine gk_take 11 ?_
     refine hKr31 ((ps ++ [(pu, pv)], false)) _ ?hi_37
     case hi_37 => exact ⟨by trivial, by trivial, rfl⟩
   ·rintro D31 xs ⟨ps, b⟩ hL hinv
    simp only [updL, List.foldl_cons, List.foldl_nil, List.take_succ_cons, List.take_zero, List.drop_succ_cons, List.drop_zero, List.set_cons_succ, List.set_cons_zero, List.cons_append, List.nil_append] at *
    obtain ⟨rfl, rfl⟩ := hinv
    rw [cm_mapid] at hL
    subst hL
    refine gk_block ?_
    refine gk_block ?_
    refine gk_then (hK20 _ _ ?_)
    refine gc_region ?_
    refine gv (qt_add rfl rfl rfl (by omega)) ?_
    refine gm ?_
    refine g_nil ?_
    refine gk_pickL [0, 0, 0, 0, 9, 0, 0, 0, 0] ?_
    rw [arU_t]
    refine gk_then (gk_take 9 ?_)
    refine gk_sub ?hs_38 (hKL17 ((j + 1, D31 :: Ds)) ?hi_38 ?hm_38)
    case hs_38 => repeat first | exact sub_nil | refine sub_cons rfl ?_
    case hi_38 => omega
    case hm_38 => omega
   ·rintro D31 pre ⟨ps, b⟩ hL hinv
    simp only [updL, List.foldl_cons, List.foldl_nil, List.take_succ_cons, List.take_zero, List.drop_succ_cons, List.drop_zero, List.set_cons_succ, List.set_cons_zero, List.cons_append, List.nil_append] at *
    obtain ⟨_, rfl, rfl⟩ := hinv
    rw [cm_mapid] at hL
    refine gk_block_ret ?_
    refine gk_block_ret ?_
    refine gk_then_ret ?_
    refine gk_then_ret ?_
    refine gk_block_ret ?_
    refine gk_block_ret ?_
    refine gk_then_ret ?_
    refine gk_then_ret ?_
    refine gk_block_ret ?_
    try simp only [sL]
    refine gk_marks (n := 0) rfl rfl ?_
    simp only [List.set_cons_zero, List.set_cons_succ]
    refine ret_0 rfl (fun w M => ?_)
    exact ⟨⟨_, rfl⟩, .inr ⟨_, by rw [cm_mapid]; exact arU_pre (by omega) (by omega) hL, mem_take 5 (mem_pick (n := 5) (mem_pick (n := 5) (mem_pick (n := 5) (mem_pick (n := 13) (mem_pick (n := 4) (M) rfl) rfl) rfl) rfl) rfl)⟩⟩
   ·rintro D31 id pre ⟨ps, b⟩ hL hinv; exact absurd hinv (by simp)
  ·try simp only [sA] at hc1
   refine gc_exit ?_
   refine gk_then_exit ?_
   refine gk_then_exit ?_
   refine gk_block_hit ?_
   refine gk_block ?_
   refine gk_then (hK8 _ _ ?_)
   refine gc_region ?_
   refine gv (qt_add rfl rfl rfl (by omega)) ?_
   refine gm ?_
   refine g_nil ?_
   obtain rfl : j = os.length := by omega
   rw [arU_s]
   refine gk_then (gk_take 7 ?_)
   refine gk_sub ?hs_39 (hKL5 ((k + 1, Ds)) ?hi_39 ?hm_39)
   case hs_39 => repeat first | exact sub_nil | refine sub_cons rfl ?_
   case hi_39 => omega
   case hm_39 => omega
 ·try simp only [sA] at hc0
  refine gc_exit ?_
  refine gk_then_exit ?_
  refine gk_then_exit ?_
  refine gk_block_hit ?_
  try simp only [sL]
  refine gk_marksn (n := 0) rfl rfl ?_
  simp only [List.set_cons_zero, List.set_cons_succ]
  refine ret_0n rfl (fun w M => ?_)
  obtain rfl : k = os.length := by omega
  rw [arU_end] at M
  exact ⟨⟨_, rfl⟩, .inl ⟨arL F G os, cm_mapid _, mem_take 5 (mem_pick (n := 5) (mem_pick (n := 5) (mem_pick (n := 5) (mem_pick (n := 5) (mem_pick (n := 5) (M) rfl) rfl) rfl) rfl) rfl)⟩⟩
theorem arrows_seq {w0 : World} {B D : Nat} {x1 x2 x3 x4 x5 x6 x7 x8 x9 x10 y1 y2 y3 y4 y5 y6 y7 y8 y9 y10 : Option Addr} {k1 k2 k3 k4 k5 k6 k7 k8 k9 k10 l1 l2 l3 l4 l5 l6 l7 l8 l9 l10 : Nat} {F G : Fct} {H : Itm} (hH : ∀ w S, H.p w S → CspR w F G x1 x2 x3 x4 x5 x6 x7 x8 x9 x10 y1 y2 y3 y4 y5 y6 y7 y8 y9 y10 k1 k2 k3 k4 k5 k6 k7 k8 k9 k10 l1 l2 l3 l4 l5 l6 l7 l8 l9 l10) (hP : CspP F G) {oa : Option Addr} {oq : Nat} {os : List (Ent Int)} (hol : os.length ≤ 2560) (hos : ∀ k : Nat, k < os.length → 0 ≤ (atE os (k : Int)).2.2 ∧ (atE os (k : Int)).2.2 < F.T.s.length) : SeqC w0 [bxI D 59 [.slice oa os.length oq], bxI B 58 [.int .i64 F.S.ob, .slice x1 F.S.s.length k1, .slice x2 F.S.t.length k2, .slice x3 F.S.e.length k3, .slice x4 F.S.m.length k4, .int .i64 F.T.ob, .slice x5 F.T.s.length k5, .slice x6 F.T.t.length k6, .slice x7 F.T.e.length k7, .slice x8 F.T.m.length k8, .slice x9 F.o.length k9, .slice x10 F.a.length k10, .int .i64 G.S.ob, .slice y1 G.S.s.length l1, .slice y2 G.S.t.length l2, .slice y3 G.S.e.length l3, .slice y4 G.S.m.length l4, .int .i64 G.T.ob, .slice y5 G.T.s.length l5, .slice y6 G.T.t.length l6, .slice y7 G.T.e.length l7, .slice y8 G.T.m.length l8, .slice y9 G.o.length l9, .slice y10 G.a.length l10], H, ownEI0 lab_co (.slice oa os.length oq) os] 117 [.pointer (some ⟨D, 0, none⟩), .pointer (some ⟨B, 0, none⟩)] (fun e : Ent (Int × Int) => Value.agg #[.int .i64 e.1, .int .i64 e.2.1, .int .i64 e.2.2.1, .int .i64 e.2.2.2]) (fun _ : Ent (Int × Int) => ([] : List Itm)) (fun x : Ent (Int × Int) => x) (arL F G os) := fun C Cx l Y W M => arrows_run w0 W C Cx l B D F G H hH hP oa oq os hol hos Y M
set_option maxHeartbeats 1000000 in
set_option maxRecDepth 100000 in
theorem arrAm_any (w : World) {x1 x2 x3 x4 x5 x6 x7 x8 x9 x10 y1 y2 y3 y4 y5 y6 y7 y8 y9 y10 : Option Addr} {k1 k2 k3 k4 k5 k6 k7 k8 k9 k10 l1 l2 l3 l4 l5 l6 l7 l8 l9 l10 : Nat} (F G : Fct) (hC : CspR w F G x1 x2 x3 x4 x5 x6 x7 x8 x9 x10 y1 y2 y3 y4 y5 y6 y7 y8 y9 y10 k1 k2 k3 k4 k5 k6 k7 k8 k9 k10 l1 l2 l3 l4 l5 l6 l7 l8 l9 l10) (oa : Option Addr) (n oq : Nat) :
  Calls Tryz.prog 84 #[.agg #[.int .i64 F.S.ob, .slice x1 F.S.s.length k1, .slice x2 F.S.t.length k2, .slice x3 F.S.e.length k3, .slice x4 F.S.m.length k4, .int .i64 F.T.ob, .slice x5 F.T.s.length k5, .slice x6 F.T.t.length k6, .slice x7 F.T.e.length k7, .slice x8 F.T.m.length k8, .slice x9 F.o.length k9, .slice x10 F.a.length k10, .int .i64 G.S.ob, .slice y1 G.S.s.length l1, .slice y2 G.S.t.length l2, .slice y3 G.S.e.length l3, .slice y4 G.S.m.length l4, .int .i64 G.T.ob, .slice y5 G.T.s.length l5, .slice y6 G.T.t.length l6, .slice y7 G.T.e.length l7, .slice y8 G.T.m.length l8, .slice y9 G.o.length l9, .slice y10 G.a.length l10], .slice oa n oq] w (RetCl2 w 117 59 [.slice oa n oq] 58 [.int .i64 F.S.ob, .slice x1 F.S.s.length k1, .slice x2 F.S.t.length k2, .slice x3 F.S.e.length k3, .slice x4 F.S.m.length k4, .int .i64 F.T.ob, .slice x5 F.T.s.length k5, .slice x6 F.T.t.length k6, .slice x7 F.T.e.length k7, .slice x8 F.T.m.length k8, .slice x9 F.o.length k9, .slice x10 F.a.length k10, .int .i64 G.S.ob, .slice y1 G.S.s.length l1, .slice y2 G.S.t.length l2, .slice y3 G.S.e.length l3, .slice y4 G.S.m.length l4, .int .i64 G.T.ob, .slice y5 G.T.s.length l5, .slice y6 G.T.t.length l6, .slice y7 G.T.e.length l7, .slice y8 G.T.m.length l8, .slice y9 G.o.length l9, .slice y10 G.a.length l10]) := by
 go_enter Tryz.func84, Tryz.ntmps84
 refine gc_enter (N := 6) rfl (look_cons (k := 0) rfl (look_cons (k := 1) rfl (look_nil _))) ?_
 refine gc_sr fun K1 hK1 => ?_
 refine gop fun K3 hK3 => ?_
 refine go_box rfl rfl rfl rfl rfl ?_
 intro B2
 refine hK3 _ _ ?_
 refine gop fun K5 hK5 => ?_
 refine go_box rfl rfl rfl rfl rfl ?_
 intro B4
 refine hK5 _ _ ?_
 refine gas ?_
 refine gnt (hK1 _ _ ?_)
 refine gc_sr fun K6 hK6 => ?_
 refine gv (qt_makeF rfl rfl) ?_
 refine gas ?_
 refine gnt (hK6 _ _ ?_)
 refine gc_ret ?_
 refine ret_1 rfl rfl  (fun w M => ?_)
 exact ⟨_, _, rfl, (mem_take 2 (mem_pick (n := 1) (mem_pick (n := 0) (M) rfl) rfl)).2, M.1⟩
section
variable {w0 : World} {is : List Itm} {o : Oper} {e : Env} {r : Value}
theorem qt_makeFBc {f : Fn} {x : Operand} (hop : o.op = .makeFunc f #[x] #[]) (hx : evo e x = some r) : QV w0 is o e (.func f #[r] #[]) := fun w ρ M F => by
 have hx := F _ _ hx
 simp [execOp, hop, hx, Instr.makeFunc]
end
def amL {α : Type} (m : Nat) (L : List α) : List α := if L.length ≤ m then L else []
def amC {α : Type} (m : Nat) (L : List α) : Int := if L.length ≤ m then 0 else 3
theorem am_t {α : Type} {m : Nat} {L : List α} (h : L.length ≤ m) : amL m L = L ∧ amC m L = 0 := ⟨if_pos h, if_pos h⟩
theorem am_f {α : Type} {m : Nat} {L : List α} (h : ¬ L.length ≤ m) : amL m L = [] ∧ amC m L = 3 := ⟨if_neg h, if_neg h⟩
set_option maxHeartbeats 2000000 in
set_option maxRecDepth 100000 in
theorem atMostO (w0 w : World) (H : Itm) (gf : Nat) (lb : List Value) (m : Nat) (hm : m ≤ 1000) (L : List (Ent Int)) (hseq : SeqC w0 [H] gf lb (fun e : Ent Int => Value.agg #[.int .i64 e.1, .int .i64 e.2.1, .int .i64 e.2.2]) (fun _ : Ent Int => ([] : List Itm)) (fun x : Ent Int => x) L) (fn : Func) (hfn : Tryz.prog.funcs[gf]? = some fn) (hbd : fn.body.isNone = false) (hnm : (fn.name == "runtime.NumGoroutine") = false) (R : Itm) (M : Mem w0 w [H, R]) :
  Calls Tryz.prog 81 #[.int .i64 (m : Int), .func (.func gf) #[] lb.toArray] w (fun e w' => ∃ s : Option Addr × Nat, e = .returned (.tuple #[.slice s.1 (amL m L).length s.2, .int .i64 (amC m L)]) ∧ Mem w0 w' [H, R, ownEI0 lab_co (.slice s.1 (amL m L).length s.2) (amL m L)]) := by
 refine gc_enterK (nf := 19) (args := [_, _]) M Tryz.func81 rfl rfl (Nat.le_of_ble_eq_true rfl) (look_cons (k := 0) rfl (look_cons (k := 1) rfl (look_nil _))) ?_
 clear M
 refine gc_seqD fun K1 hK1 => ?_
 refine gc_region ?_
 refine gop fun K3 hK3 => ?_
 refine go_box rfl rfl rfl rfl rfl ?_
 intro B2
 refine hK3 _ _ ?_
 refine gop fun K5 hK5 => ?_
 refine go_alloc (z := (.slice none 0 0)) (cs := [.slice none 0 0]) rfl rfl rfl (fun w => by kernel_rfl) rfl ?_
 intro B4
 refine hK5 _ _ ?_
 refine gop fun K7 hK7 => ?_
 refine go_alloc (z := (.int .i64 0)) (cs := [.int .i64 0]) rfl rfl rfl (fun w => by kernel_rfl) rfl ?_
 intro B6
 refine hK7 _ _ ?_
 refine gnt (hK1 _ _ ?_)
 refine gc_seqD fun K8 hK8 => ?_
 refine gc_region ?_
 refine gop fun K10 hK10 => ?_
 refine go_alloc (z := (.slice none 0 0)) (cs := [.slice none 0 0]) rfl rfl rfl (fun w => by kernel_rfl) rfl ?_
 intro B9
 refine hK10 _ _ ?_
 refine gnt (hK8 _ _ ?_)
 refine gc_seqD fun K11 hK11 => ?_
 refine gc_seqD fun K12 hK12 => ?_
 refine gc_nilE0 lab_co ?_
 try simp only [sL]
 refine gc_toEnd 1 rfl ?_
 simp only [List.eraseIdx_cons_succ, List.eraseIdx_cons_zero, List.cons_append, List.nil_append]
 refine gc_region ?_
 refine gm ?_
 refine gnt (hK12 _ _ ?_)
 refine gc_block ?_
 try simp only [sL]
 refine gc_rangeF (α := (Ent Int)) (σ := (Option Addr) × Nat × (List (Ent Int)) × Int) 6 rfl rfl hfn hbd hnm rfl hseq (fun s : (Option Addr) × Nat × (List (Ent Int)) × Int => (fun (a : Option Addr) (q : Nat) (es : List (Ent Int)) (cd : Int) => ([(3, bxI B6 2 [.int .i64 cd]), (4, bxI B9 59 [.slice a es.length q]), (5, ownEI0 lab_co (.slice a es.length q) es)] : List (Nat × Itm))) s.1 s.2.1 s.2.2.1 s.2.2.2) (fun (pre : List (Ent Int)) => (fun s : (Option Addr) × Nat × (List (Ent Int)) × Int => (fun (a : Option Addr) (q : Nat) (es : List (Ent Int)) (cd : Int) => es = pre ∧ es.length ≤ m ∧ cd = 0) s.1 s.2.1 s.2.2.1 s.2.2.2)) (fun (c : Code) (pre : List (Ent Int)) => (fun s : (Option Addr) × Nat × (List (Ent Int)) × Int => (fun (a : Option Addr) (q : Nat) (es : List (Ent Int)) (cd : Int) => c = .ret ∧ cd = 3 ∧ pre.length = m + 1) s.1 s.2.1 s.2.2.1 s.2.2.2)) (none, 0, [], 0) ⟨rfl, Nat.zero_le _, rfl⟩ rfl rfl rfl ?_ ?_ ?_ ?_
 ·rintro l13 r13 js13 pre ⟨ea, eb, ec⟩ ⟨a, q, es, cd⟩ hinv hpre Ka13 Kb13 hKp13 hKa13 hKn13 hKr13 hKe13
  simp only [updL, List.foldl_cons, List.foldl_nil, List.take_succ_cons, List.take_zero, List.drop_succ_cons, List.drop_zero, List.set_cons_succ, List.set_cons_zero, List.cons_append, List.nil_append] at hinv hKn13 hKr13 hKe13 ⊢
  obtain ⟨rfl, hl2, rfl⟩ := hinv
  refine gc_region ?_
  refine gop fun K15 hK15 => ?_
  refine go_alloc (z := (.agg #[.int .i64 0, .int .i64 0, .int .i64 0])) (cs := [.int .i64 0, .int .i64 0, .int .i64 0]) rfl rfl rfl (fun w => by kernel_rfl) rfl ?_
  intro B14
  refine hK15 _ _ ?_
  refine gop fun K16 hK16 => ?_
  refine go_storeS (n := 8) rfl rfl rfl rfl (by kernel_rfl) rfl rfl rfl ?_
  refine hK16 _ _ ?_
  refine g_nil ?_
  try simp only [sL]
  refine gk_then (hKa13 _ _ ?_)
  refine gc_block ?_
  refine gc_seqD fun K17 hK17 => ?_
  refine gc_seqD fun K18 hK18 => ?_
  refine gc_region ?_
  refine gv (qtl Tryz.underlying59 (n := 5)) ?_
  refine gv (qt_len rfl rfl (lab_ul0 lab_co) (fun w M => lenV_E0 (mem_ownE0 (n := 6) M rfl))) ?_
  refine gv (qtl Tryz.underlying3 (n := 2)) ?_
  refine gv (qt_eql rfl rfl rfl) ?_
  refine gnt (hK18 _ _ ?_)
  refine gc_cond rfl (fun hc0 => ?_) (fun hc0 => ?_)
  ·try simp only [sA] at hc0
   refine gc_seqD fun K19 hK19 => ?_
   refine gc_region ?_
   refine gop fun K20 hK20 => ?_
   refine go_storeB (n := 3) rfl rfl rfl rfl (by kernel_rfl) rfl rfl rfl (by first | decide | simp) ?_
   refine hK20 _ _ ?_
   refine gop fun K21 hK21 => ?_
   refine go_storeB (n := 4) rfl rfl rfl rfl (by kernel_rfl) rfl rfl rfl (by first | decide | simp) ?_
   refine hK21 _ _ ?_
   refine gnt (hK19 _ _ ?_)
   refine gc_ret ?_
   refine gk_then_ret ?_
   refine gk_block_ret ?_
   try simp only [sL]
   refine gk_take 8 ?_
   refine hKr13 ((_, _, _, 3)) _ ?hi_22
   case hi_22 => exact ⟨by trivial, by trivial, by simp at hc0 ⊢; omega⟩
  ·try simp only [sA] at hc0
   refine gc_skip ?_
   refine gk_then (hK17 _ _ ?_)
   refine gc_region ?_
   refine gv (qtl Tryz.underlying59 (n := 5)) ?_
   refine gv (qts Tryz.underlying67 (n := 8)) ?_
   refine gop fun K24 hK24 => ?_
   refine go_sliceE10 lab_co rfl rfl rfl rfl rfl ?_
   intro B23
   refine hK24 _ _ ?_
   refine gop fun K26 hK26 => ?_
   refine go_appendE0 lab_co (n := 6) (m := 9) rfl rfl rfl rfl rfl rfl rfl rfl (show _ ≤ 4000000000000 by omega) ?_
   intro va25 vc25
   refine hK26 _ _ ?_
   refine gop fun K27 hK27 => ?_
   refine go_storeB (n := 5) rfl rfl rfl rfl (by kernel_rfl) rfl rfl rfl (by first | decide | simp) ?_
   refine hK27 _ _ ?_
   refine g_nil ?_
   refine gk_block ?_
   try simp only [sL]
   refine gk_take 8 ?_
   refine hKn13 ((_, _, _, _)) _ ?hi_28
   case hi_28 => exact ⟨rfl, by simp at hc0 hl2 ⊢; omega, by trivial⟩
 ·rintro D13 xs ⟨a, q, es, cd⟩ hL hinv
  simp only [updL, List.foldl_cons, List.foldl_nil, List.take_succ_cons, List.take_zero, List.drop_succ_cons, List.drop_zero, List.set_cons_succ, List.set_cons_zero, List.cons_append, List.nil_append] at *
  obtain ⟨rfl, hl2, rfl⟩ := hinv
  rw [cm_mapid] at hL
  subst hL
  refine gk_block ?_
  refine gk_then (hK11 _ _ ?_)
  refine gc_seqD fun K29 hK29 => ?_
  refine gc_region ?_
  refine gv (qtl Tryz.underlying59 (n := 5)) ?_
  refine gop fun K30 hK30 => ?_
  refine go_storeB (n := 3) rfl rfl rfl rfl (by kernel_rfl) rfl rfl rfl (by first | decide | simp) ?_
  refine hK30 _ _ ?_
  refine gop fun K31 hK31 => ?_
  refine go_storeB (n := 4) rfl rfl rfl rfl (by kernel_rfl) rfl rfl rfl (by first | decide | simp) ?_
  refine hK31 _ _ ?_
  refine gnt (hK29 _ _ ?_)
  refine gc_ret ?_
  try simp only [sL]
  refine gk_marks (n := 0) rfl rfl ?_
  simp only [List.set_cons_zero, List.set_cons_succ]
  refine ret_c2 (n := 3) (n' := 4) rfl rfl rfl Tryz.underlying59 rfl Tryz.underlying2 rfl rfl rfl (fun w M => ?_)
  have ht := am_t hl2
  rw [ht.1, ht.2]; exact ⟨(_, _), rfl, mem_take 3 (mem_pick (n := 7) (mem_pick (n := 2) (mem_pick (n := 6) (M) rfl) rfl) rfl)⟩
 ·rintro D13 pre ⟨a, q, es, cd⟩ hL hinv
  simp only [updL, List.foldl_cons, List.foldl_nil, List.take_succ_cons, List.take_zero, List.drop_succ_cons, List.drop_zero, List.set_cons_succ, List.set_cons_zero, List.cons_append, List.nil_append] at *
  obtain ⟨_, rfl, h201⟩ := hinv
  have h202 : ¬ L.length ≤ m := by have := hL.length_le; simp at this; omega
  refine gk_block_ret ?_
  refine gk_then_ret ?_
  try simp only [sL]
  refine gk_marks (n := 0) rfl rfl ?_
  simp only [List.set_cons_zero, List.set_cons_succ]
  refine ret_c2 (n := 3) (n' := 4) rfl rfl rfl Tryz.underlying59 rfl Tryz.underlying2 rfl rfl rfl (fun w M => ?_)
  have ht := am_f h202
  rw [ht.1, ht.2]
  replace M := mem_nilE0 lab_co M
  exact ⟨(none, 0), rfl, mem_take 3 (mem_pick (n := 8) (mem_pick (n := 2) (mem_pick (n := 8) (M) rfl) rfl) rfl)⟩
 ·rintro D13 id pre ⟨a, q, es, cd⟩ hL hinv; exact absurd hinv (by simp)
set_option maxHeartbeats 2000000 in
set_option maxRecDepth 100000 in
theorem atMostA (w0 w : World) (H : Itm) (gf : Nat) (lb : List Value) (m : Nat) (hm : m ≤ 1000) (L : List (Ent (Int × Int))) (hseq : SeqC w0 [H] gf lb (fun e : Ent (Int × Int) => Value.agg #[.int .i64 e.1, .int .i64 e.2.1, .int .i64 e.2.2.1, .int .i64 e.2.2.2]) (fun _ : Ent (Int × Int) => ([] : List Itm)) (fun x : Ent (Int × Int) => x) L) (fn : Func) (hfn : Tryz.prog.funcs[gf]? = some fn) (hbd : fn.body.isNone = false) (hnm : (fn.name == "runtime.NumGoroutine") = false) (R : Itm) (M : Mem w0 w [H, R]) :
  Calls Tryz.prog 83 #[.int .i64 (m : Int), .func (.func gf) #[] lb.toArray] w (fun e w' => ∃ s : Option Addr × Nat, e = .returned (.tuple #[.slice s.1 (amL m L).length s.2, .int .i64 (amC m L)]) ∧ Mem w0 w' [H, R, ownEI0 lab_ca (.slice s.1 (amL m L).length s.2) (amL m L)]) := by
 refine gc_enterK (nf := 19) (args := [_, _]) M Tryz.func83 rfl rfl (Nat.le_of_ble_eq_true rfl) (look_cons (k := 0) rfl (look_cons (k := 1) rfl (look_nil _))) ?_
 clear M
 refine gc_seqD fun K1 hK1 => ?_
 refine gc_region ?_
 refine gop fun K3 hK3 => ?_
 refine go_box rfl rfl rfl rfl rfl ?_
 intro B2
 refine hK3 _ _ ?_
 refine gop fun K5 hK5 => ?_
 refine go_alloc (z := (.slice none 0 0)) (cs := [.slice none 0 0]) rfl rfl rfl (fun w => by kernel_rfl) rfl ?_
 intro B4
 refine hK5 _ _ ?_
 refine gop fun K7 hK7 => ?_
 refine go_alloc (z := (.int .i64 0)) (cs := [.int .i64 0]) rfl rfl rfl (fun w => by kernel_rfl) rfl ?_
 intro B6
 refine hK7 _ _ ?_
 refine gnt (hK1 _ _ ?_)
 refine gc_seqD fun K8 hK8 => ?_
 refine gc_region ?_
 refine gop fun K10 hK10 => ?_
 refine go_alloc (z := (.slice none 0 0)) (cs := [.slice none 0 0]) rfl rfl rfl (fun w => by kernel_rfl) rfl ?_
 intro B9
 refine hK10 _ _ ?_
 refine gnt (hK8 _ _ ?_)
 refine gc_seqD fun K11 hK11 => ?_
 refine gc_seqD fun K12 hK12 => ?_
 refine gc_nilE0 lab_ca ?_
 try simp only [sL]
 refine gc_toEnd 1 rfl ?_
 simp only [List.eraseIdx_cons_succ, List.eraseIdx_cons_zero, List.cons_append, List.nil_append]
 refine gc_region ?_
 refine gm ?_
 refine gnt (hK12 _ _ ?_)
 refine gc_block ?_
 try simp only [sL]
 refine gc_rangeF (α := (Ent (Int × Int))) (σ := (Option Addr) × Nat × (List (Ent (Int × Int))) × Int) 6 rfl rfl hfn hbd hnm rfl hseq (fun s : (Option Addr) × Nat × (List (Ent (Int × Int))) × Int => (fun (a : Option Addr) (q : Nat) (es : List (Ent (Int × Int))) (cd : Int) => ([(3, bxI B6 2 [.int .i64 cd]), (4, bxI B9 60 [.slice a es.length q]), (5, ownEI0 lab_ca (.slice a es.length q) es)] : List (Nat × Itm))) s.1 s.2.1 s.2.2.1 s.2.2.2) (fun (pre : List (Ent (Int × Int))) => (fun s : (Option Addr) × Nat × (List (Ent (Int × Int))) × Int => (fun (a : Option Addr) (q : Nat) (es : List (Ent (Int × Int))) (cd : Int) => es = pre ∧ es.length ≤ m ∧ cd = 0) s.1 s.2.1 s.2.2.1 s.2.2.2)) (fun (c : Code) (pre : List (Ent (Int × Int))) => (fun s : (Option Addr) × Nat × (List (Ent (Int × Int))) × Int => (fun (a : Option Addr) (q : Nat) (es : List (Ent (Int × Int))) (cd : Int) => c = .ret ∧ cd = 3 ∧ pre.length = m + 1) s.1 s.2.1 s.2.2.1 s.2.2.2)) (none, 0, [], 0) ⟨rfl, Nat.zero_le _, rfl⟩ rfl rfl rfl ?_ ?_ ?_ ?_
 ·rintro l13 r13 js13 pre ⟨ea, eb, ec, ed⟩ ⟨a, q, es, cd⟩ hinv hpre Ka13 Kb13 hKp13 hKa13 hKn13 hKr13 hKe13
  simp only [updL, List.foldl_cons, List.foldl_nil, List.take_succ_cons, List.take_zero, List.drop_succ_cons, List.drop_zero, List.set_cons_succ, List.set_cons_zero, List.cons_append, List.nil_append] at hinv hKn13 hKr13 hKe13 ⊢
  obtain ⟨rfl, hl2, rfl⟩ := hinv
  refine gc_region ?_
  refine gop fun K15 hK15 => ?_
  refine go_alloc (z := (.agg #[.int .i64 0, .int .i64 0, .int .i64 0, .int .i64 0])) (cs := [.int .i64 0, .int .i64 0, .int .i64 0, .int .i64 0]) rfl rfl rfl (fun w => by kernel_rfl) rfl ?_
  intro B14
  refine hK15 _ _ ?_
  refine gop fun K16 hK16 => ?_
  refine go_storeS (n := 8) rfl rfl rfl rfl (by kernel_rfl) rfl rfl rfl ?_
  refine hK16 _ _ ?_
  refine g_nil ?_
  try simp only [sL]
  refine gk_then (hKa13 _ _ ?_)
  refine gc_block ?_
  refine gc_seqD fun K17 hK17 => ?_
  refine gc_seqD fun K18 hK18 => ?_
  refine gc_region ?_
  refine gv (qtl Tryz.underlying60 (n := 5)) ?_
  refine gv (qt_len rfl rfl (lab_ul0 lab_ca) (fun w M => lenV_E0 (mem_ownE0 (n := 6) M rfl))) ?_
  refine gv (qtl Tryz.underlying3 (n := 2)) ?_
  refine gv (qt_eql rfl rfl rfl) ?_
  refine gnt (hK18 _ _ ?_)
  refine gc_cond rfl (fun hc0 => ?_) (fun hc0 => ?_)
  ·try simp only [sA] at hc0
   refine gc_seqD fun K19 hK19 => ?_
   refine gc_region ?_
   refine gop fun K20 hK20 => ?_
   refine go_storeB (n := 3) rfl rfl rfl rfl (by kernel_rfl) rfl rfl rfl (by first | decide | simp) ?_
   refine hK20 _ _ ?_
   refine gop fun K21 hK21 => ?_
   refine go_storeB (n := 4) rfl rfl rfl rfl (by kernel_rfl) rfl rfl rfl (by first | decide | simp) ?_
   refine hK21 _ _ ?_
   refine gnt (hK19 _ _ ?_)
   refine gc_ret ?_
   refine gk_then_ret ?_
   refine gk_block_ret ?_
   try simp only [sL]
   refine gk_take 8 ?_
   refine hKr13 ((_, _, _, 3)) _ ?hi_22
   case hi_22 => exact ⟨by trivial, by trivial, by simp at hc0 ⊢; omega⟩
  ·try simp only [sA] at hc0
   refine gc_skip ?_
   refine gk_then (hK17 _ _ ?_)
   refine gc_region ?_
   refine gv (qtl Tryz.underlying60 (n := 5)) ?_
   refine gv (qts Tryz.underlying74 (n := 8)) ?_
   refine gop fun K24 hK24 => ?_
   refine go_sliceE10 lab_ca (l := (_, _)) rfl rfl rfl rfl rfl ?_
   intro B23
   refine hK24 _ _ ?_
   refine gop fun K26 hK26 => ?_
   refine go_appendE0 lab_ca (n := 6) (m := 9) rfl rfl rfl rfl rfl rfl rfl rfl (show _ ≤ 4000000000000 by omega) ?_
   intro va25 vc25
   refine hK26 _ _ ?_
   refine gop fun K27 hK27 => ?_
   refine go_storeB (n := 5) rfl rfl rfl rfl (by kernel_rfl) rfl rfl rfl (by first | decide | simp) ?_
   refine hK27 _ _ ?_
   refine g_nil ?_
   refine gk_block ?_
   try simp only [sL]
   refine gk_take 8 ?_
   refine hKn13 ((_, _, _, _)) _ ?hi_28
   case hi_28 => exact ⟨rfl, by simp at hc0 hl2 ⊢; omega, by trivial⟩
 ·rintro D13 xs ⟨a, q, es, cd⟩ hL hinv
  simp only [updL, List.foldl_cons, List.foldl_nil, List.take_succ_cons, List.take_zero, List.drop_succ_cons, List.drop_zero, List.set_cons_succ, List.set_cons_zero, List.cons_append, List.nil_append] at *
  obtain ⟨rfl, hl2, rfl⟩ := hinv
  rw [cm_mapid] at hL
  subst hL
  refine gk_block ?_
  refine gk_then (hK11 _ _ ?_)
  refine gc_seqD fun K29 hK29 => ?_
  refine gc_region ?_
  refine gv (qtl Tryz.underlying60 (n := 5)) ?_
  refine gop fun K30 hK30 => ?_
  refine go_storeB (n := 3) rfl rfl rfl rfl (by kernel_rfl) rfl rfl rfl (by first | decide | simp) ?_
  refine hK30 _ _ ?_
  refine gop fun K31 hK31 => ?_
  refine go_storeB (n := 4) rfl rfl rfl rfl (by kernel_rfl) rfl rfl rfl (by first | decide | simp) ?_
  refine hK31 _ _ ?_
  refine gnt (hK29 _ _ ?_)
  refine gc_ret ?_
  try simp only [sL]
  refine gk_marks (n := 0) rfl rfl ?_
  simp only [List.set_cons_zero, List.set_cons_succ]
  refine ret_c2 (n := 3) (n' := 4) rfl rfl rfl Tryz.underlying60 rfl Tryz.underlying2 rfl rfl rfl (fun w M => ?_)
  have ht := am_t hl2
  rw [ht.1, ht.2]; exact ⟨(_, _), rfl, mem_take 3 (mem_pick (n := 7) (mem_pick (n := 2) (mem_pick (n := 6) (M) rfl) rfl) rfl)⟩
 ·rintro D13 pre ⟨a, q, es, cd⟩ hL hinv
  simp only [updL, List.foldl_cons, List.foldl_nil, List.take_succ_cons, List.take_zero, List.drop_succ_cons, List.drop_zero, List.set_cons_succ, List.set_cons_zero, List.cons_append, List.nil_append] at *
  obtain ⟨_, rfl, h201⟩ := hinv
  have h202 : ¬ L.length ≤ m := by have := hL.length_le; simp at this; omega
  refine gk_block_ret ?_
  refine gk_then_ret ?_
  try simp only [sL]
  refine gk_marks (n := 0) rfl rfl ?_
  simp only [List.set_cons_zero, List.set_cons_succ]
  refine ret_c2 (n := 3) (n' := 4) rfl rfl rfl Tryz.underlying60 rfl Tryz.underlying2 rfl rfl rfl (fun w M => ?_)
  have ht := am_f h202
  rw [ht.1, ht.2]
  replace M := mem_nilE0 lab_ca M
  exact ⟨(none, 0), rfl, mem_take 3 (mem_pick (n := 8) (mem_pick (n := 2) (mem_pick (n := 8) (M) rfl) rfl) rfl)⟩
 ·rintro D13 id pre ⟨a, q, es, cd⟩ hL hinv; exact absurd hinv (by simp)
end Go.Proofs.YtpcabkdkdnchaaaGreat
set_option linter.unusedSimpArgs false
set_option linter.unusedVariables false
set_option linter.unusedSectionVars false
namespace Go.Proofs.YtpcabkdkdnchaaaGreat
open Go.RowKit
set_option maxHeartbeats 1000000 in
set_option maxRecDepth 100000 in
theorem numbered_pair (w : World) (va : Value) (es : List (Ent (Int × Int))) (hE : RdE lab_pair w va es) (hnd : es.Nodup) :
  Calls Tryz.prog 120 #[va] w (RetN lab_pair w es) := by
 obtain ⟨aa, ac, rfl⟩ := lenV_E hE
 have hel : es.length ≤ 4000000000000 := by obtain ⟨_, _, _, hl, _⟩ := hE; exact hl
 go_enter Tryz.func120, Tryz.ntmps120
 refine gc_enter (N := 19) rfl (look_cons (k := 0) rfl (look_nil _)) ?_
 refine gc_sr fun K1 hK1 => ?_
 refine gas ?_
 refine gnt (hK1 _ _ ?_)
 refine gc_sr fun K2 hK2 => ?_
 refine gop fun K4 hK4 => ?_
 refine go_makeNum lab_pair rfl rfl rfl ?_
 intro B3
 refine hK4 _ _ ?_
 refine gas ?_
 refine gnt (hK2 _ _ ?_)
 refine gc_seq fun K5 hK5 => ?_
 refine gc_sr fun K6 hK6 => ?_
 refine gm ?_
 refine gv (qt_len rfl rfl (lab_ul lab_pair) (fun w M => lenV_E (mem_rdE M hE))) ?_
 refine gm ?_
 refine gnt (hK6 _ _ ?_)
 refine gc_block ?_
 try simp only [sL]
 refine gc_loopT ([(0, _), (2, _), (3, _), (7, _), (8, _)] : Env) (fun s : Nat => (fun (k : Nat) => (([(9, .int .i64 (k : Int))] : Env), ([(0, numI lab_pair B3 (es.take k))] : List (Nat × Itm)), k ≤ es.length, es.length - k)) s) (0) (by repeat first | exact sub_nil | refine sub_cons rfl ?_) rfl (Nat.zero_le _) ?_
 rintro k hinv KL7 hKL7
 simp only [sU, sL] at hinv hKL7 ⊢
 have hk := hinv
 refine gc_sr fun K8 hK8 => ?_
 refine gv (qt_lss rfl rfl rfl) ?_
 refine gnt (hK8 _ _ ?_)
 refine gc_seq fun K9 hK9 => ?_
 refine gc_cond rfl (fun hc0 => ?_) (fun hc0 => ?_)
 ·try simp only [sA] at hc0
  refine gc_skip ?_
  refine gk_then (hK9 _ _ ?_)
  refine gc_seq fun K10 hK10 => ?_
  refine gc_block ?_
  refine gc_sr fun K11 hK11 => ?_
  refine gm ?_
  refine gv (qt_indexE lab_pair rfl rfl rfl rfl (fun w M => lenA_E (mem_rdE M hE)) (by omega) (by omega)) ?_
  refine gv (qt_loadE lab_pair rfl rfl rfl (fun w M => mem_rdE M hE) (by omega) (by omega)) ?_
  refine gop fun K13 hK13 => ?_
  refine go_alloc (z := (.agg #[.int .i64 0, .int .i64 0, .int .i64 0, .int .i64 0])) (cs := [.int .i64 0, .int .i64 0, .int .i64 0, .int .i64 0]) rfl rfl rfl (fun w => by kernel_rfl) rfl ?_
  intro B12
  refine hK13 _ _ ?_
  refine gas ?_
  refine gop fun K14 hK14 => ?_
  refine go_storeS (n := 1) rfl rfl rfl rfl (by kernel_rfl) rfl rfl rfl ?_
  refine hK14 _ _ ?_
  refine gnt (hK11 _ _ ?_)
  refine gc_region ?_
  refine gm ?_
  refine gv (qts Tryz.underlying144 (n := 1)) ?_
  refine gm ?_
  refine gop fun K15 hK15 => ?_
  refine go_putN lab_pair (n := 0) rfl rfl rfl rfl rfl rfl rfl (takeE_not hnd (k := k) (by omega)) (takeE_len (k := k) (by omega)) ?_
  refine hK15 _ _ ?_
  refine g_nil ?_
  refine gk_block ?_
  refine gk_then (hK10 _ _ ?_)
  refine gc_region ?_
  refine gv (qt_add rfl rfl rfl (by omega)) ?_
  refine gm ?_
  refine g_nil ?_
  rw [takeE_succ (by omega)]
  refine gk_then (gk_take 1 ?_)
  refine gk_sub ?hs_16 (hKL7 (k + 1) ?hi_16 ?hm_16)
  case hs_16 => repeat first | exact sub_nil | refine sub_cons rfl ?_
  case hi_16 => omega
  case hm_16 => omega
 ·try simp only [sA] at hc0
  refine gc_exit ?_
  refine gk_then_exit ?_
  refine gk_then_exit ?_
  refine gk_block_hit ?_
  refine gk_then (hK5 _ _ ?_)
  refine gc_sr fun K17 hK17 => ?_
  refine gm ?_
  refine gas ?_
  refine gnt (hK17 _ _ ?_)
  refine gc_ret ?_
  refine ret_1 rfl rfl  (fun w M => ?_)
  obtain rfl : k = es.length := by omega
  rw [List.take_length] at M
  obtain ⟨S, hS, hb⟩ := mem_get (n := 0) M rfl
  exact ⟨_, rfl, (numM_loc lab_pair _ es).keep (fun q _ hq => hS q hq) agree_refl hb, M.1⟩
theorem bt023_plan_pairOf_int64_int64 {n : Int} {f g : Fn} {a b c d : Array Value} : Tryz.prog.built 115 [(0, .int .i64 n), (2, .func f a b), (3, .func g c d)] = some #[.int .i64 n, .slice none 0 0, .func f a b, .func g c d] := by kernel_rfl
set_option maxHeartbeats 1000000 in
set_option maxRecDepth 100000 in
theorem add_pair (w0 w : World) (R : Itm) (PB : Nat) (n x y : Int) (l : (Int × Int)) (a : Option Addr) (q : Nat) (es : List (Ent (Int × Int))) (F1 F2 : Value) (hn : es.length + 1 ≤ 4000000000000) (M : Mem w0 w [bxI PB 115 [.int .i64 n, .slice a es.length q, F1, F2], ownEI lab_pair (.slice a es.length q) es, R]) :
  Calls Tryz.prog 87 #[.pointer (some ⟨PB, 0, none⟩), .agg #[.int .i64 x, .int .i64 y], Value.agg #[.int .i64 (l).1, .int .i64 (l).2]] w (fun e w' => ∃ s : Option Addr × Nat, e = .returned (.tuple #[]) ∧ Mem w0 w' [bxI PB 115 [.int .i64 n, .slice s.1 (es ++ [(x, y, l)]).length s.2, F1, F2], ownEI lab_pair (.slice s.1 (es ++ [(x, y, l)]).length s.2) (es ++ [(x, y, l)]), R]) := by
 go_enter Tryz.func87, Tryz.ntmps87
 refine gc_enterM M (N := 18) rfl (look_cons (k := 0) rfl (look_cons (k := 1) rfl (look_cons (k := 2) rfl (look_nil _)))) ?_
 clear M
 refine gc_sr fun K1 hK1 => ?_
 refine gop fun K3 hK3 => ?_
 refine go_box rfl rfl rfl rfl rfl ?_
 intro B2
 refine hK3 _ _ ?_
 refine gop fun K5 hK5 => ?_
 refine go_box rfl rfl rfl rfl rfl ?_
 intro B4
 refine hK5 _ _ ?_
 refine gnt (hK1 _ _ ?_)
 try simp only [sL]
 refine ga_start _ (fun w M => mem_erase 0 (mem_erase 1 (M))) ?_
 refine gav 0 rfl (qt_move rfl rfl) ?_
 refine gav 1 rfl (qt_move rfl rfl) ?_
 refine gav 2 rfl (qt_nilP rfl rfl) ?_
 refine gav 3 rfl (qtf Tryz.underlying115 (z := 0) (off := 1)) ?_
 refine gav 5 rfl (qts Tryz.underlying72 (n := 1)) ?_
 refine gav 6 rfl (qts Tryz.underlying110 (n := 2)) ?_
 refine gav 7 rfl (qt_build rfl rfl bt_pairOf_arrowEnds_pairOf_int64_int64) ?_
 refine ga_two 4 8 (by kernel_rfl) rfl rfl (.free rfl) (.free rfl) (fun K6 hK6 => ?_) (fun K6 hK6 => ?_)
 ·refine gov (qtl Tryz.underlying113 (n := 0)) ?_
  refine hK6 _ _ (fun w M => (mem_erase 0 (mem_erase 1 (mem_take 5 M)) :)) ?_
  refine gao 8 fun K9 hK9 => ?_
  refine go_sliceE1 lab_pair rfl rfl rfl rfl rfl ?_
  intro B8
  refine hK9 _ _ (fun w M => (mem_erase 0 (mem_erase 1 (mem_take 5 M)) :)) ?_
  refine gao 9 fun K11 hK11 => ?_
  refine go_appendE lab_pair (n := 1) (m := 5) rfl rfl rfl rfl rfl rfl rfl rfl (show _ ≤ 4000000000000 by omega) ?_
  intro va10 vc10
  refine hK11 _ _ (fun w M => (mem_erase 0 (mem_erase 1 (mem_take 5 M)) :)) ?_
  refine gav 10 rfl (qt_nilP rfl rfl) ?_
  refine gav 11 rfl (qtf Tryz.underlying115 (z := 0) (off := 1)) ?_
  refine gao 12 fun K12 hK12 => ?_
  refine go_storeB (n := 0) rfl rfl rfl rfl (by kernel_rfl) rfl rfl rfl (by first | decide | simp) ?_
  refine hK12 _ _ (fun w M => (mem_erase 0 (mem_erase 1 (mem_take 5 M)) :)) ?_
  refine ga_done (by kernel_rfl) ?_
  refine ret_0n rfl (fun w M => ?_)
  exact ⟨(_, _), rfl, mem_take 3 M⟩
 ·refine go_sliceE1 lab_pair rfl rfl rfl rfl rfl ?_
  intro B13
  refine hK6 _ _ (fun w M => (mem_erase 0 (mem_erase 1 (mem_take 5 M)) :)) ?_
  refine gao 4 fun K15 hK15 => ?_
  refine gov (qtl Tryz.underlying113 (n := 0)) ?_
  refine hK15 _ _ (fun w M => (mem_erase 0 (mem_erase 1 (mem_take 5 M)) :)) ?_
  refine gao 9 fun K17 hK17 => ?_
  refine go_appendE lab_pair (n := 1) (m := 5) rfl rfl rfl rfl rfl rfl rfl rfl (show _ ≤ 4000000000000 by omega) ?_
  intro va16 vc16
  refine hK17 _ _ (fun w M => (mem_erase 0 (mem_erase 1 (mem_take 5 M)) :)) ?_
  refine gav 10 rfl (qt_nilP rfl rfl) ?_
  refine gav 11 rfl (qtf Tryz.underlying115 (z := 0) (off := 1)) ?_
  refine gao 12 fun K18 hK18 => ?_
  refine go_storeB (n := 0) rfl rfl rfl rfl (by kernel_rfl) rfl rfl rfl (by first | decide | simp) ?_
  refine hK18 _ _ (fun w M => (mem_erase 0 (mem_erase 1 (mem_take 5 M)) :)) ?_
  refine ga_done (by kernel_rfl) ?_
  refine ret_0n rfl (fun w M => ?_)
  exact ⟨(_, _), rfl, mem_take 3 M⟩
end Go.Proofs.YtpcabkdkdnchaaaGreat
