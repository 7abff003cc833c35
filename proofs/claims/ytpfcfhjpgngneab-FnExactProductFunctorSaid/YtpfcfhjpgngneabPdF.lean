
/- The product of two functors: both sides. -/
import Derived.Test.YtpfcfhjpgngneabPrF
set_option linter.unusedSimpArgs false
set_option linter.unusedVariables false
set_option linter.unusedSectionVars false
namespace Go.Proofs.Ytpfcfhjpgngneab
open Go.RowKit

set_option maxHeartbeats 40000000 in
set_option maxRecDepth 100000 in
theorem spec_ProductFunctor (w : World) (v : Value) (F : Fct) (u : Value) (G : Fct) (h : RdF w v F) (e : RdF w u G) :
    Calls Try.prog 16 #[v, u] w (RetFI w (fProductFunctor F G).1 (fProductFunctor F G).2) := by
  have h0 := h
  obtain ⟨vx1, vx2, vx3, vx4, vx5, vx6, vx7, vx8, vx9, vx10, vk1, vk2, vk3, vk4, vk5, vk6, vk7, vk8, vk9, vk10, rfl, h1, h2, h3, h4, h5, h6, h7, h8, h9, h10⟩ := h.lists
  have e0 := e
  obtain ⟨ux1, ux2, ux3, ux4, ux5, ux6, ux7, ux8, ux9, ux10, uk1, uk2, uk3, uk4, uk5, uk6, uk7, uk8, uk9, uk10, rfl, e1, e2, e3, e4, e5, e6, e7, e8, e9, e10⟩ := e.lists
  go_enter Try.func16, Try.ntmps16
  refine gc_enter (N := 55) rfl (look_cons (k := 0) rfl (look_cons (k := 1) rfl (look_nil _))) ?_
  refine gc_seq fun K1 hK1 => ?_
  refine gc_region ?_
  refine g_op (.free rfl) fun K3 hK3 => ?_
  refine go_box rfl rfl rfl rfl rfl ?_
  intro B2
  refine hK3 _ _ ?_
  refine g_op (.free rfl) fun K5 hK5 => ?_
  refine go_box rfl rfl rfl rfl rfl ?_
  intro B4
  refine hK5 _ _ ?_
  refine g_op (.free rfl) fun K7 hK7 => ?_
  refine go_alloc (z := (.agg #[.int .i64 0, .slice none 0 0, .slice none 0 0, .slice none 0 0, .slice none 0 0, .int .i64 0, .slice none 0 0, .slice none 0 0, .slice none 0 0, .slice none 0 0, .slice none 0 0, .slice none 0 0])) (cs := [.int .i64 0, .slice none 0 0, .slice none 0 0, .slice none 0 0, .slice none 0 0, .int .i64 0, .slice none 0 0, .slice none 0 0, .slice none 0 0, .slice none 0 0, .slice none 0 0, .slice none 0 0]) rfl rfl rfl (fun w => by kernel_rfl) rfl ?_
  intro B6
  refine hK7 _ _ ?_
  refine g_v (.free rfl) rfl rfl (qt_assign rfl rfl) ?_
  refine g_nil ?_
  refine gk_then (hK1 _ _ ?_)
  refine gc_seq fun K8 hK8 => ?_
  refine gc_seq fun K9 hK9 => ?_
  refine gc_region ?_
  refine g_v (.free rfl) rfl rfl (qt_loadS (n := 0) rfl rfl Try.underlying31 rfl (by kernel_rfl) rfl) ?_
  refine g_v (.free rfl) rfl rfl (qt_loadS (n := 1) rfl rfl Try.underlying31 rfl (by kernel_rfl) rfl) ?_
  refine g_q (.free rfl) rfl rfl (qt_call rfl Try.func53 rfl (by decide) rfl (fun w M => specTwoF_any w _ _ (mem_rdF M h0) _ _ (mem_rdF M e0))) ?_
  refine g_v (.free rfl) rfl rfl (qt_assign rfl rfl) ?_
  refine g_nil ?_
  refine gk_then (hK9 _ _ ?_)
  refine gc_seq fun K10 hK10 => ?_
  refine gc_region ?_
  refine g_v (.free rfl) rfl rfl (qt_move rfl rfl) ?_
  refine g_v (.free rfl) rfl rfl (qt_neq rfl rfl rfl) ?_
  refine g_nil ?_
  refine gk_then (hK10 _ _ ?_)
  refine gc_cond rfl (fun hc0 => ?_) (fun hc0 => ?_)
  · try simp only [decide_eq_true_eq, decide_eq_false_iff_not, Bool.not_eq_true', Bool.not_eq_false', Bool.not_eq_eq_eq_not, Bool.not_true, Bool.not_false, ne_eq, Decidable.not_not, Classical.not_not] at hc0
    refine gc_seq fun K11 hK11 => ?_
    refine gc_region ?_
    refine g_v (.free rfl) rfl rfl (qt_build rfl rfl bt0_Functor) ?_
    refine g_v (.free rfl) rfl rfl (qt_move rfl rfl) ?_
    refine g_op (.free rfl) fun K12 hK12 => ?_
    refine go_storeS (n := 2) rfl rfl rfl rfl (by kernel_rfl) rfl rfl rfl ?_
    refine hK12 _ _ ?_
    refine g_v (.free rfl) rfl rfl (qt_assign rfl rfl) ?_
    refine g_nil ?_
    refine gk_then (hK11 _ _ ?_)
    refine gc_ret ?_
    refine gk_then_ret ?_
    refine ret_SI (n := 2) rfl rfl rfl Try.underlying31 rfl (by kernel_rfl) rfl (fun w M => ?_)
    rw [(twoFE_n hc0).2, pdf_f hc0]; exact retFI_zero M.1
  · try simp only [decide_eq_true_eq, decide_eq_false_iff_not, Bool.not_eq_true', Bool.not_eq_false', Bool.not_eq_eq_eq_not, Bool.not_true, Bool.not_false, ne_eq, Decidable.not_not, Classical.not_not] at hc0
    refine gc_skip ?_
    refine gk_then (hK8 _ _ ?_)
    refine gc_seq fun K13 hK13 => ?_
    have hh := twoFE_0 hc0
    have hF := isf_of hh.1; have hG := isf_of hh.2
    have l1 := lnF hh.1; have l2 := lnF hh.2
    have o1 := l1.o8; have o2 := l2.o8; have a1 := l1.a40; have a2 := l2.a40; have t1 := l2.t8; have t2 := l2.t0; have t3 := l2.n40
    try simp only [List.nil_append, List.cons_append, List.append_assoc, List.set_cons_succ, List.set_cons_zero]
    refine gc_cut ([(0, _), (1, _), (2, _), (3, _), (4, _), (5, _), (6, _), (13, _)] : Env) (fun s : (Option Addr) × (Option Addr) × (Option Addr) × (Option Addr) × Nat × Nat × Nat × Nat × (List Value) × (Option Addr) × (Option Addr) × (Option Addr) × (Option Addr) × Nat × Nat × Nat × Nat × (List Value) × Nat × Nat => (fun (p1 : Option Addr) (p2 : Option Addr) (p3 : Option Addr) (p4 : Option Addr) (i1 : Nat) (i2 : Nat) (i3 : Nat) (i4 : Nat) (uu : List Value) (q1 : Option Addr) (q2 : Option Addr) (q3 : Option Addr) (q4 : Option Addr) (j1 : Nat) (j2 : Nat) (j3 : Nat) (j4 : Nat) (vv : List Value) (B7 : Nat) (B8 : Nat) => ([(7, .pointer (some ⟨B7, 0, none⟩)), (8, .pointer (some ⟨B8, 0, none⟩))] : Env)) s.1 s.2.1 s.2.2.1 s.2.2.2.1 s.2.2.2.2.1 s.2.2.2.2.2.1 s.2.2.2.2.2.2.1 s.2.2.2.2.2.2.2.1 s.2.2.2.2.2.2.2.2.1 s.2.2.2.2.2.2.2.2.2.1 s.2.2.2.2.2.2.2.2.2.2.1 s.2.2.2.2.2.2.2.2.2.2.2.1 s.2.2.2.2.2.2.2.2.2.2.2.2.1 s.2.2.2.2.2.2.2.2.2.2.2.2.2.1 s.2.2.2.2.2.2.2.2.2.2.2.2.2.2.1 s.2.2.2.2.2.2.2.2.2.2.2.2.2.2.2.1 s.2.2.2.2.2.2.2.2.2.2.2.2.2.2.2.2.1 s.2.2.2.2.2.2.2.2.2.2.2.2.2.2.2.2.2.1 s.2.2.2.2.2.2.2.2.2.2.2.2.2.2.2.2.2.2.1 s.2.2.2.2.2.2.2.2.2.2.2.2.2.2.2.2.2.2.2) (fun s : (Option Addr) × (Option Addr) × (Option Addr) × (Option Addr) × Nat × Nat × Nat × Nat × (List Value) × (Option Addr) × (Option Addr) × (Option Addr) × (Option Addr) × Nat × Nat × Nat × Nat × (List Value) × Nat × Nat => (fun (p1 : Option Addr) (p2 : Option Addr) (p3 : Option Addr) (p4 : Option Addr) (i1 : Nat) (i2 : Nat) (i3 : Nat) (i4 : Nat) (uu : List Value) (q1 : Option Addr) (q2 : Option Addr) (q3 : Option Addr) (q4 : Option Addr) (j1 : Nat) (j2 : Nat) (j3 : Nat) (j4 : Nat) (vv : List Value) (B7 : Nat) (B8 : Nat) => ([] : List (Nat × Itm))) s.1 s.2.1 s.2.2.1 s.2.2.2.1 s.2.2.2.2.1 s.2.2.2.2.2.1 s.2.2.2.2.2.2.1 s.2.2.2.2.2.2.2.1 s.2.2.2.2.2.2.2.2.1 s.2.2.2.2.2.2.2.2.2.1 s.2.2.2.2.2.2.2.2.2.2.1 s.2.2.2.2.2.2.2.2.2.2.2.1 s.2.2.2.2.2.2.2.2.2.2.2.2.1 s.2.2.2.2.2.2.2.2.2.2.2.2.2.1 s.2.2.2.2.2.2.2.2.2.2.2.2.2.2.1 s.2.2.2.2.2.2.2.2.2.2.2.2.2.2.2.1 s.2.2.2.2.2.2.2.2.2.2.2.2.2.2.2.2.1 s.2.2.2.2.2.2.2.2.2.2.2.2.2.2.2.2.2.1 s.2.2.2.2.2.2.2.2.2.2.2.2.2.2.2.2.2.2.1 s.2.2.2.2.2.2.2.2.2.2.2.2.2.2.2.2.2.2.2) (fun s : (Option Addr) × (Option Addr) × (Option Addr) × (Option Addr) × Nat × Nat × Nat × Nat × (List Value) × (Option Addr) × (Option Addr) × (Option Addr) × (Option Addr) × Nat × Nat × Nat × Nat × (List Value) × Nat × Nat => (fun (p1 : Option Addr) (p2 : Option Addr) (p3 : Option Addr) (p4 : Option Addr) (i1 : Nat) (i2 : Nat) (i3 : Nat) (i4 : Nat) (uu : List Value) (q1 : Option Addr) (q2 : Option Addr) (q3 : Option Addr) (q4 : Option Addr) (j1 : Nat) (j2 : Nat) (j3 : Nat) (j4 : Nat) (vv : List Value) (B7 : Nat) (B8 : Nat) => ([own1I (.slice p1 (prodM F.S G.S).s.length i1) (prodM F.S G.S).s, own1I (.slice p2 (prodM F.S G.S).t.length i2) (prodM F.S G.S).t, own1I (.slice p3 (prodM F.S G.S).e.length i3) (prodM F.S G.S).e, own2U (.slice p4 (prodM F.S G.S).m.length i4) uu (prodM F.S G.S).m, own1I (.slice q1 (prodM F.T G.T).s.length j1) (prodM F.T G.T).s, own1I (.slice q2 (prodM F.T G.T).t.length j2) (prodM F.T G.T).t, own1I (.slice q3 (prodM F.T G.T).e.length j3) (prodM F.T G.T).e, own2U (.slice q4 (prodM F.T G.T).m.length j4) vv (prodM F.T G.T).m, bxI B7 29 [.int .i64 (prodM F.S G.S).ob, .slice p1 (prodM F.S G.S).s.length i1, .slice p2 (prodM F.S G.S).t.length i2, .slice p3 (prodM F.S G.S).e.length i3, .slice p4 (prodM F.S G.S).m.length i4], bxI B8 29 [.int .i64 (prodM F.T G.T).ob, .slice q1 (prodM F.T G.T).s.length j1, .slice q2 (prodM F.T G.T).t.length j2, .slice q3 (prodM F.T G.T).e.length j3, .slice q4 (prodM F.T G.T).m.length j4]] : List Itm)) s.1 s.2.1 s.2.2.1 s.2.2.2.1 s.2.2.2.2.1 s.2.2.2.2.2.1 s.2.2.2.2.2.2.1 s.2.2.2.2.2.2.2.1 s.2.2.2.2.2.2.2.2.1 s.2.2.2.2.2.2.2.2.2.1 s.2.2.2.2.2.2.2.2.2.2.1 s.2.2.2.2.2.2.2.2.2.2.2.1 s.2.2.2.2.2.2.2.2.2.2.2.2.1 s.2.2.2.2.2.2.2.2.2.2.2.2.2.1 s.2.2.2.2.2.2.2.2.2.2.2.2.2.2.1 s.2.2.2.2.2.2.2.2.2.2.2.2.2.2.2.1 s.2.2.2.2.2.2.2.2.2.2.2.2.2.2.2.2.1 s.2.2.2.2.2.2.2.2.2.2.2.2.2.2.2.2.2.1 s.2.2.2.2.2.2.2.2.2.2.2.2.2.2.2.2.2.2.1 s.2.2.2.2.2.2.2.2.2.2.2.2.2.2.2.2.2.2.2) (sub_cons rfl (sub_cons rfl (sub_cons rfl (sub_cons rfl (sub_cons rfl (sub_cons rfl (sub_cons rfl (sub_cons rfl sub_nil)))))))) ?_ (fun HJ14 => ?_)
    · rintro ⟨p1, p2, p3, p4, i1, i2, i3, i4, uu, q1, q2, q3, q4, j1, j2, j3, j4, vv, B7, B8⟩
      simp only [updL, List.foldl_cons, List.foldl_nil, List.set_cons_succ, List.set_cons_zero, List.cons_append, List.nil_append]
      refine gk_then (hK13 _ _ ?_)
      refine gc_seq fun K15 hK15 => ?_
      refine gc_seq fun K16 hK16 => ?_
      refine gc_region ?_
      refine g_v (.free rfl) rfl rfl (qt_loadS (n := 11) rfl rfl Try.underlying29 rfl (by kernel_rfl) rfl) ?_
      refine g_q (.free rfl) rfl rfl (qt_call rfl Try.func55 rfl (by decide) rfl (fun w M => specFits_any w _ _ (rdC_mk ((mem_own1 (n := 3) M rfl).rd) ((mem_own1 (n := 4) M rfl).rd) ((mem_own1 (n := 5) M rfl).rd) (mem_rdU (n := 6) M rfl)))) ?_
      refine g_v (.free rfl) rfl rfl (qt_not rfl rfl) ?_
      refine g_splitv (.free rfl) rfl rfl (qt_move rfl rfl) (fun hs5_3 => ?_) (fun hs5_3 => ?_)
      · try simp only [decide_eq_true_eq, decide_eq_false_iff_not, Bool.not_eq_true', Bool.not_eq_false', Bool.not_eq_eq_eq_not, Bool.not_true, Bool.not_false, ne_eq, Decidable.not_not, Classical.not_not] at hs5_3
        refine g_skip (.not _ _ _ _ rfl rfl rfl rfl) rfl rfl ?_
        refine g_skip (.not _ _ _ _ rfl rfl rfl rfl) rfl rfl ?_
        refine g_skip (.not _ _ _ _ rfl rfl rfl rfl) rfl rfl ?_
        refine g_v (.free rfl) rfl rfl (qt_pick_t rfl rfl rfl) ?_
        refine g_nil ?_
        refine gk_then (hK16 _ _ ?_)
        refine gc_cond_t rfl ?_
        refine gc_seq fun K17 hK17 => ?_
        refine gc_region ?_
        refine g_v (.free rfl) rfl rfl (qt_build rfl rfl bt0_Functor) ?_
        refine g_op (.free rfl) fun K18 hK18 => ?_
        refine go_storeS (n := 2) rfl rfl rfl rfl (by kernel_rfl) rfl rfl rfl ?_
        refine hK18 _ _ ?_
        refine g_v (.free rfl) rfl rfl (qt_assign rfl rfl) ?_
        refine g_nil ?_
        refine gk_then (hK17 _ _ ?_)
        refine gc_ret ?_
        refine gk_then_ret ?_
        refine ret_SI (n := 2) rfl rfl rfl Try.underlying31 rfl (by kernel_rfl) rfl (fun w M => ?_)
        rw [pdf_l hc0 (fun hq => bP_f' hs5_3 hq.1)]; exact retFI_zero M.1
      · try simp only [decide_eq_true_eq, decide_eq_false_iff_not, Bool.not_eq_true', Bool.not_eq_false', Bool.not_eq_eq_eq_not, Bool.not_true, Bool.not_false, ne_eq, Decidable.not_not, Classical.not_not] at hs5_3
        refine g_v (.held _ _ _ rfl rfl rfl) rfl rfl (qt_loadS (n := 12) rfl rfl Try.underlying29 rfl (by kernel_rfl) rfl) ?_
        refine g_q (.held _ _ _ rfl rfl rfl) rfl rfl (qt_call rfl Try.func55 rfl (by decide) rfl (fun w M => specFits_any w _ _ (rdC_mk ((mem_own1 (n := 7) M rfl).rd) ((mem_own1 (n := 8) M rfl).rd) ((mem_own1 (n := 9) M rfl).rd) (mem_rdU (n := 10) M rfl)))) ?_
        refine g_v (.held _ _ _ rfl rfl rfl) rfl rfl (qt_not rfl rfl) ?_
        refine g_v (.free rfl) rfl rfl (qt_pick_f rfl rfl rfl) ?_
        refine g_nil ?_
        refine gk_then (hK16 _ _ ?_)
        refine gc_cond rfl (fun hc1 => ?_) (fun hc1 => ?_)
        · try simp only [decide_eq_true_eq, decide_eq_false_iff_not, Bool.not_eq_true', Bool.not_eq_false', Bool.not_eq_eq_eq_not, Bool.not_true, Bool.not_false, ne_eq, Decidable.not_not, Classical.not_not] at hc1
          refine gc_seq fun K19 hK19 => ?_
          refine gc_region ?_
          refine g_v (.free rfl) rfl rfl (qt_build rfl rfl bt0_Functor) ?_
          refine g_op (.free rfl) fun K20 hK20 => ?_
          refine go_storeS (n := 2) rfl rfl rfl rfl (by kernel_rfl) rfl rfl rfl ?_
          refine hK20 _ _ ?_
          refine g_v (.free rfl) rfl rfl (qt_assign rfl rfl) ?_
          refine g_nil ?_
          refine gk_then (hK19 _ _ ?_)
          refine gc_ret ?_
          refine gk_then_ret ?_
          refine ret_SI (n := 2) rfl rfl rfl Try.underlying31 rfl (by kernel_rfl) rfl (fun w M => ?_)
          rw [pdf_l hc0 (fun hq => bP_f' hc1 hq.2)]; exact retFI_zero M.1
        · try simp only [decide_eq_true_eq, decide_eq_false_iff_not, Bool.not_eq_true', Bool.not_eq_false', Bool.not_eq_eq_eq_not, Bool.not_true, Bool.not_false, ne_eq, Decidable.not_not, Classical.not_not] at hc1
          refine gc_skip ?_
          refine gk_then (hK15 _ _ ?_)
          refine gc_seq fun K21 hK21 => ?_
          try simp only [List.nil_append, List.cons_append, List.append_assoc, List.set_cons_succ, List.set_cons_zero]
          refine ga_start _ (fun w M => mem_erase 2 (M)) ?_
          refine ga_v 0 rfl (by kernel_rfl) (by kernel_rfl) (by kernel_rfl) (.free rfl) rfl rfl (qt_loadS (n := 10) rfl rfl Try.underlying29 rfl (by kernel_rfl) rfl) (fun _ _ _ h => h) ?_
          refine ga_v 1 rfl (by kernel_rfl) (by kernel_rfl) (by kernel_rfl) (.free rfl) rfl rfl (qt_loadS (n := 11) rfl rfl Try.underlying29 rfl (by kernel_rfl) rfl) (fun _ _ _ h => h) ?_
          refine ga_v 2 rfl (by kernel_rfl) (by kernel_rfl) (by kernel_rfl) (.free rfl) rfl rfl (qt_field (z := 0) (off := 10) rfl rfl Try.underlying31 rfl (by kernel_rfl) rfl) (fun _ _ _ h => h) ?_
          refine ga_v 3 rfl (by kernel_rfl) (by kernel_rfl) (by kernel_rfl) (.free rfl) rfl rfl (qt_loadB (n := 0) rfl rfl Try.underlying22 rfl rfl rfl) (fun _ _ _ h => h) ?_
          refine ga_v 4 rfl (by kernel_rfl) (by kernel_rfl) (by kernel_rfl) (.free rfl) rfl rfl (qt_field (z := 0) (off := 10) rfl rfl Try.underlying31 rfl (by kernel_rfl) rfl) (fun _ _ _ h => h) ?_
          refine ga_v 5 rfl (by kernel_rfl) (by kernel_rfl) (by kernel_rfl) (.free rfl) rfl rfl (qt_loadB (n := 1) rfl rfl Try.underlying22 rfl rfl rfl) (fun _ _ _ h => h) ?_
          refine ga_v 6 rfl (by kernel_rfl) (by kernel_rfl) (by kernel_rfl) (.free rfl) rfl rfl (qt_field (z := 4) (off := 5) rfl rfl Try.underlying31 rfl (by kernel_rfl) rfl) (fun _ _ _ h => h) ?_
          refine ga_v 7 rfl (by kernel_rfl) (by kernel_rfl) (by kernel_rfl) (.free rfl) rfl rfl (qt_field (z := 0) (off := 0) rfl rfl Try.underlying29 rfl (by kernel_rfl) rfl) (fun _ _ _ h => h) ?_
          refine ga_v 8 rfl (by kernel_rfl) (by kernel_rfl) (by kernel_rfl) (.free rfl) rfl rfl (qt_loadB (n := 1) rfl rfl Try.underlying2 rfl rfl rfl) (fun _ _ _ h => h) ?_
          refine ga_v 10 rfl (by kernel_rfl) (by kernel_rfl) (by kernel_rfl) (.free rfl) rfl rfl (qt_field (z := 0) (off := 11) rfl rfl Try.underlying31 rfl (by kernel_rfl) rfl) (fun _ _ _ h => h) ?_
          refine ga_v 11 rfl (by kernel_rfl) (by kernel_rfl) (by kernel_rfl) (.free rfl) rfl rfl (qt_loadB (n := 0) rfl rfl Try.underlying22 rfl rfl rfl) (fun _ _ _ h => h) ?_
          refine ga_v 12 rfl (by kernel_rfl) (by kernel_rfl) (by kernel_rfl) (.free rfl) rfl rfl (qt_field (z := 0) (off := 11) rfl rfl Try.underlying31 rfl (by kernel_rfl) rfl) (fun _ _ _ h => h) ?_
          refine ga_v 13 rfl (by kernel_rfl) (by kernel_rfl) (by kernel_rfl) (.free rfl) rfl rfl (qt_loadB (n := 1) rfl rfl Try.underlying22 rfl rfl rfl) (fun _ _ _ h => h) ?_
          refine ga_v 14 rfl (by kernel_rfl) (by kernel_rfl) (by kernel_rfl) (.free rfl) rfl rfl (qt_field (z := 4) (off := 5) rfl rfl Try.underlying31 rfl (by kernel_rfl) rfl) (fun _ _ _ h => h) ?_
          refine ga_v 15 rfl (by kernel_rfl) (by kernel_rfl) (by kernel_rfl) (.free rfl) rfl rfl (qt_field (z := 0) (off := 1) rfl rfl Try.underlying29 rfl (by kernel_rfl) rfl) (fun _ _ _ h => h) ?_
          refine ga_v 16 rfl (by kernel_rfl) (by kernel_rfl) (by kernel_rfl) (.free rfl) rfl rfl (qt_loadB (n := 1) rfl rfl Try.underlying22 rfl rfl rfl) (fun _ _ _ h => h) ?_
          refine ga_v 17 rfl (by kernel_rfl) (by kernel_rfl) (by kernel_rfl) (.free rfl) rfl rfl (qt_len rfl rfl ulE1 (fun w M => lenV_rd e5)) (fun _ _ _ h => h) ?_
          refine ga_op 9 (by kernel_rfl) rfl (.free rfl) fun K23 hK23 => ?_
          refine go_callL rfl rfl rfl Try.func57 rfl (by decide) rfl (fun w M => specPairs_any w _ _ _ _ (mem_rd M h9) (mem_rd M e9) (by omega) (by omega) _ (by first | exact l1.po | exact l1.pa) (by first | exact l2.po | exact l2.pa) (by omega) (by omega)) ?_
          intro va22 vc22
          refine hK23 _ _ (fun w M => (mem_erase 2 (mem_take 13 M) :)) ?_
          refine ga_op 18 (by kernel_rfl) rfl (.free rfl) fun K25 hK25 => ?_
          refine go_callL rfl rfl rfl Try.func57 rfl (by decide) rfl (fun w M => specPairs_any w _ _ _ _ (mem_rd M h10) (mem_rd M e10) (by omega) (by omega) _ (by first | exact l1.po | exact l1.pa) (by first | exact l2.po | exact l2.pa) (by omega) (by omega)) ?_
          intro va24 vc24
          refine hK25 _ _ (fun w M => (mem_erase 2 (mem_take 13 M) :)) ?_
          refine ga_op 19 (by kernel_rfl) rfl (.free rfl) fun K27 hK27 => ?_
          refine go_callFn rfl rfl rfl Try.func56 rfl (by decide) rfl (fun w M => specMakeF_any w _ _ (rdC_mk ((mem_own1 (n := 3) M rfl).rd) ((mem_own1 (n := 4) M rfl).rd) ((mem_own1 (n := 5) M rfl).rd) (mem_rdU (n := 6) M rfl)) _ _ (rdC_mk ((mem_own1 (n := 7) M rfl).rd) ((mem_own1 (n := 8) M rfl).rd) ((mem_own1 (n := 9) M rfl).rd) (mem_rdU (n := 10) M rfl)) _ _ _ _ ((mem_own1 (n := 13) M rfl).rd) ((mem_own1 (n := 14) M rfl).rd)) ?_
          intro fx1_26 fk1_26 fx2_26 fk2_26 fx3_26 fk3_26 fx4_26 fk4_26 fx5_26 fk5_26 fx6_26 fk6_26 fx7_26 fk7_26 fx8_26 fk8_26 fx9_26 fk9_26 fx10_26 fk10_26 us26 ut26
          refine hK27 _ _ (fun w M => (mem_erase 2 (mem_take 13 M) :)) ?_
          refine ga_op 20 (by kernel_rfl) rfl (.free rfl) fun K28 hK28 => ?_
          refine go_storeS (n := 2) rfl rfl rfl rfl (by kernel_rfl) rfl rfl rfl ?_
          refine hK28 _ _ (fun w M => (mem_erase 2 (mem_take 13 M) :)) ?_
          refine ga_v 21 rfl (by kernel_rfl) (by kernel_rfl) (by kernel_rfl) (.free rfl) rfl rfl (qt_assign rfl rfl) (fun _ _ _ h => h) ?_
          refine ga_done (by kernel_rfl) ?_
          refine gk_then (hK21 _ _ ?_)
          refine gc_ret ?_
          refine ret_SI (n := 2) rfl rfl rfl Try.underlying31 rfl (by kernel_rfl) rfl (fun w M => ?_)
          rw [pdf_t hc0 ⟨bP_t' hs5_3, bP_t' hc1⟩]; exact retFI_star (F := prodFct F G) (mem_block 15 10 (M))
    simp only [updL, List.foldl_cons, List.foldl_nil, List.set_cons_succ, List.set_cons_zero, List.cons_append, List.nil_append] at HJ14
    refine ga_start _ (fun w M => M) ?_
    refine ga_v 0 rfl (by kernel_rfl) (by kernel_rfl) (by kernel_rfl) (.free rfl) rfl rfl (qt_field (z := 4) (off := 0) rfl rfl Try.underlying31 rfl (by kernel_rfl) rfl) (fun _ _ _ h => h) ?_
    refine ga_v 1 rfl (by kernel_rfl) (by kernel_rfl) (by kernel_rfl) (.free rfl) rfl rfl (qt_loadP (n := 0) (z := 5) rfl rfl Try.underlying29 rfl (by kernel_rfl) rfl (by first | decide | exact Nat.le_refl _ | simp)) (fun _ _ _ h => h) ?_
    refine ga_v 2 rfl (by kernel_rfl) (by kernel_rfl) (by kernel_rfl) (.free rfl) rfl rfl (qt_field (z := 4) (off := 0) rfl rfl Try.underlying31 rfl (by kernel_rfl) rfl) (fun _ _ _ h => h) ?_
    refine ga_v 3 rfl (by kernel_rfl) (by kernel_rfl) (by kernel_rfl) (.free rfl) rfl rfl (qt_loadP (n := 1) (z := 5) rfl rfl Try.underlying29 rfl (by kernel_rfl) rfl (by first | decide | exact Nat.le_refl _ | simp)) (fun _ _ _ h => h) ?_
    refine ga_v 5 rfl (by kernel_rfl) (by kernel_rfl) (by kernel_rfl) (.free rfl) rfl rfl (qt_field (z := 4) (off := 5) rfl rfl Try.underlying31 rfl (by kernel_rfl) rfl) (fun _ _ _ h => h) ?_
    refine ga_v 6 rfl (by kernel_rfl) (by kernel_rfl) (by kernel_rfl) (.free rfl) rfl rfl (qt_loadP (n := 0) (z := 5) rfl rfl Try.underlying29 rfl (by kernel_rfl) rfl (by first | decide | exact Nat.le_refl _ | simp)) (fun _ _ _ h => h) ?_
    refine ga_v 7 rfl (by kernel_rfl) (by kernel_rfl) (by kernel_rfl) (.free rfl) rfl rfl (qt_field (z := 4) (off := 5) rfl rfl Try.underlying31 rfl (by kernel_rfl) rfl) (fun _ _ _ h => h) ?_
    refine ga_v 8 rfl (by kernel_rfl) (by kernel_rfl) (by kernel_rfl) (.free rfl) rfl rfl (qt_loadP (n := 1) (z := 5) rfl rfl Try.underlying29 rfl (by kernel_rfl) rfl (by first | decide | exact Nat.le_refl _ | simp)) (fun _ _ _ h => h) ?_
    refine ga_three 4 10 11 (by kernel_rfl) rfl (.free rfl) rfl (.free rfl) rfl (.free rfl) (fun K29 hK29 => ?_) (fun K29 hK29 => ?_) (fun K29 hK29 => ?_)
    · refine go_callC rfl rfl rfl Try.func54 rfl (by decide) rfl (fun w M => specProduct_any w _ _ (rdC_mk (mem_rd M h1) (mem_rd M h2) (mem_rd M h3) (mem_rd2 M h4)) _ _ (rdC_mk (mem_rd M e1) (mem_rd M e2) (mem_rd M e3) (mem_rd2 M e4)) (by first | exact l1.sS | exact l1.sT) (by first | exact l2.sS | exact l2.sT)) ?_
      intro ca30 cb30 cc30 cd30 ce30 cf30 cg30 ch30 cu30
      refine hK29 _ _ (fun w M => (mem_take 3 M :)) ?_
      refine ga_three 9 10 11 (by kernel_rfl) rfl (.free rfl) rfl (.free rfl) rfl (.free rfl) (fun K32 hK32 => ?_) (fun K32 hK32 => ?_) (fun K32 hK32 => ?_)
      · refine go_callC rfl rfl rfl Try.func54 rfl (by decide) rfl (fun w M => specProduct_any w _ _ (rdC_mk (mem_rd M h5) (mem_rd M h6) (mem_rd M h7) (mem_rd2 M h8)) _ _ (rdC_mk (mem_rd M e5) (mem_rd M e6) (mem_rd M e7) (mem_rd2 M e8)) (by first | exact l1.sS | exact l1.sT) (by first | exact l2.sS | exact l2.sT)) ?_
        intro ca33 cb33 cc33 cd33 ce33 cf33 cg33 ch33 cu33
        refine hK32 _ _ (fun w M => (mem_take 3 M :)) ?_
        refine ga_two 10 11 (by kernel_rfl) rfl rfl (.free rfl) (.free rfl) (fun K35 hK35 => ?_) (fun K35 hK35 => ?_)
        · refine go_alloc (z := (.agg #[.int .i64 0, .slice none 0 0, .slice none 0 0, .slice none 0 0, .slice none 0 0])) (cs := [.int .i64 0, .slice none 0 0, .slice none 0 0, .slice none 0 0, .slice none 0 0]) rfl rfl rfl (fun w => by kernel_rfl) rfl ?_
          intro B36
          refine hK35 _ _ (fun w M => (mem_take 3 M :)) ?_
          refine ga_op 11 (by kernel_rfl) rfl (.free rfl) fun K39 hK39 => ?_
          refine go_alloc (z := (.agg #[.int .i64 0, .slice none 0 0, .slice none 0 0, .slice none 0 0, .slice none 0 0])) (cs := [.int .i64 0, .slice none 0 0, .slice none 0 0, .slice none 0 0, .slice none 0 0]) rfl rfl rfl (fun w => by kernel_rfl) rfl ?_
          intro B38
          refine hK39 _ _ (fun w M => (mem_take 3 M :)) ?_
          refine ga_op 12 (by kernel_rfl) rfl (.free rfl) fun K40 hK40 => ?_
          refine go_storeS (n := 11) rfl rfl rfl rfl (by kernel_rfl) rfl rfl rfl ?_
          refine hK40 _ _ (fun w M => (mem_take 3 M :)) ?_
          refine ga_op 13 (by kernel_rfl) rfl (.free rfl) fun K41 hK41 => ?_
          refine go_storeS (n := 12) rfl rfl rfl rfl (by kernel_rfl) rfl rfl rfl ?_
          refine hK41 _ _ (fun w M => (mem_take 3 M :)) ?_
          refine ga_done (by kernel_rfl) ?_
          try simp only [List.nil_append, List.cons_append, List.append_assoc, List.set_cons_succ, List.set_cons_zero]
          refine gk_pickL [0, 0, 0, 0, 0, 0, 0, 0, 0, 0, 0, 0, 0] ?_
          refine gk_sub ?hs_42 (HJ14 (_, _, _, _, _, _, _, _, _, _, _, _, _, _, _, _, _, _, _, _))
          case hs_42 => exact (sub_cons rfl (sub_cons rfl (sub_cons rfl (sub_cons rfl (sub_cons rfl (sub_cons rfl (sub_cons rfl (sub_cons rfl (sub_cons rfl (sub_cons rfl sub_nil))))))))))
        · refine go_alloc (z := (.agg #[.int .i64 0, .slice none 0 0, .slice none 0 0, .slice none 0 0, .slice none 0 0])) (cs := [.int .i64 0, .slice none 0 0, .slice none 0 0, .slice none 0 0, .slice none 0 0]) rfl rfl rfl (fun w => by kernel_rfl) rfl ?_
          intro B43
          refine hK35 _ _ (fun w M => (mem_take 3 M :)) ?_
          refine ga_op 10 (by kernel_rfl) rfl (.free rfl) fun K46 hK46 => ?_
          refine go_alloc (z := (.agg #[.int .i64 0, .slice none 0 0, .slice none 0 0, .slice none 0 0, .slice none 0 0])) (cs := [.int .i64 0, .slice none 0 0, .slice none 0 0, .slice none 0 0, .slice none 0 0]) rfl rfl rfl (fun w => by kernel_rfl) rfl ?_
          intro B45
          refine hK46 _ _ (fun w M => (mem_take 3 M :)) ?_
          refine ga_op 12 (by kernel_rfl) rfl (.free rfl) fun K47 hK47 => ?_
          refine go_storeS (n := 12) rfl rfl rfl rfl (by kernel_rfl) rfl rfl rfl ?_
          refine hK47 _ _ (fun w M => (mem_take 3 M :)) ?_
          refine ga_op 13 (by kernel_rfl) rfl (.free rfl) fun K48 hK48 => ?_
          refine go_storeS (n := 11) rfl rfl rfl rfl (by kernel_rfl) rfl rfl rfl ?_
          refine hK48 _ _ (fun w M => (mem_take 3 M :)) ?_
          refine ga_done (by kernel_rfl) ?_
          try simp only [List.nil_append, List.cons_append, List.append_assoc, List.set_cons_succ, List.set_cons_zero]
          refine gk_pickL [0, 0, 0, 0, 0, 0, 0, 0, 0, 0, 0, 1, 0] ?_
          refine gk_sub ?hs_49 (HJ14 (_, _, _, _, _, _, _, _, _, _, _, _, _, _, _, _, _, _, _, _))
          case hs_49 => exact (sub_cons rfl (sub_cons rfl (sub_cons rfl (sub_cons rfl (sub_cons rfl (sub_cons rfl (sub_cons rfl (sub_cons rfl (sub_cons rfl (sub_cons rfl sub_nil))))))))))
      · refine go_alloc (z := (.agg #[.int .i64 0, .slice none 0 0, .slice none 0 0, .slice none 0 0, .slice none 0 0])) (cs := [.int .i64 0, .slice none 0 0, .slice none 0 0, .slice none 0 0, .slice none 0 0]) rfl rfl rfl (fun w => by kernel_rfl) rfl ?_
        intro B50
        refine hK32 _ _ (fun w M => (mem_take 3 M :)) ?_
        refine ga_two 9 11 (by kernel_rfl) rfl rfl (.free rfl) (.free rfl) (fun K52 hK52 => ?_) (fun K52 hK52 => ?_)
        · refine go_callC rfl rfl rfl Try.func54 rfl (by decide) rfl (fun w M => specProduct_any w _ _ (rdC_mk (mem_rd M h5) (mem_rd M h6) (mem_rd M h7) (mem_rd2 M h8)) _ _ (rdC_mk (mem_rd M e5) (mem_rd M e6) (mem_rd M e7) (mem_rd2 M e8)) (by first | exact l1.sS | exact l1.sT) (by first | exact l2.sS | exact l2.sT)) ?_
          intro ca53 cb53 cc53 cd53 ce53 cf53 cg53 ch53 cu53
          refine hK52 _ _ (fun w M => (mem_take 3 M :)) ?_
          refine ga_op 11 (by kernel_rfl) rfl (.free rfl) fun K56 hK56 => ?_
          refine go_alloc (z := (.agg #[.int .i64 0, .slice none 0 0, .slice none 0 0, .slice none 0 0, .slice none 0 0])) (cs := [.int .i64 0, .slice none 0 0, .slice none 0 0, .slice none 0 0, .slice none 0 0]) rfl rfl rfl (fun w => by kernel_rfl) rfl ?_
          intro B55
          refine hK56 _ _ (fun w M => (mem_take 3 M :)) ?_
          refine ga_op 12 (by kernel_rfl) rfl (.free rfl) fun K57 hK57 => ?_
          refine go_storeS (n := 7) rfl rfl rfl rfl (by kernel_rfl) rfl rfl rfl ?_
          refine hK57 _ _ (fun w M => (mem_take 3 M :)) ?_
          refine ga_op 13 (by kernel_rfl) rfl (.free rfl) fun K58 hK58 => ?_
          refine go_storeS (n := 12) rfl rfl rfl rfl (by kernel_rfl) rfl rfl rfl ?_
          refine hK58 _ _ (fun w M => (mem_take 3 M :)) ?_
          refine ga_done (by kernel_rfl) ?_
          try simp only [List.nil_append, List.cons_append, List.append_assoc, List.set_cons_succ, List.set_cons_zero]
          refine gk_pickL [0, 0, 0, 0, 0, 0, 0, 1, 1, 1, 1, 0, 0] ?_
          refine gk_sub ?hs_59 (HJ14 (_, _, _, _, _, _, _, _, _, _, _, _, _, _, _, _, _, _, _, _))
          case hs_59 => exact (sub_cons rfl (sub_cons rfl (sub_cons rfl (sub_cons rfl (sub_cons rfl (sub_cons rfl (sub_cons rfl (sub_cons rfl (sub_cons rfl (sub_cons rfl sub_nil))))))))))
        · refine go_alloc (z := (.agg #[.int .i64 0, .slice none 0 0, .slice none 0 0, .slice none 0 0, .slice none 0 0])) (cs := [.int .i64 0, .slice none 0 0, .slice none 0 0, .slice none 0 0, .slice none 0 0]) rfl rfl rfl (fun w => by kernel_rfl) rfl ?_
          intro B60
          refine hK52 _ _ (fun w M => (mem_take 3 M :)) ?_
          refine ga_op 9 (by kernel_rfl) rfl (.free rfl) fun K63 hK63 => ?_
          refine go_callC rfl rfl rfl Try.func54 rfl (by decide) rfl (fun w M => specProduct_any w _ _ (rdC_mk (mem_rd M h5) (mem_rd M h6) (mem_rd M h7) (mem_rd2 M h8)) _ _ (rdC_mk (mem_rd M e5) (mem_rd M e6) (mem_rd M e7) (mem_rd2 M e8)) (by first | exact l1.sS | exact l1.sT) (by first | exact l2.sS | exact l2.sT)) ?_
          intro ca62 cb62 cc62 cd62 ce62 cf62 cg62 ch62 cu62
          refine hK63 _ _ (fun w M => (mem_take 3 M :)) ?_
          refine ga_op 12 (by kernel_rfl) rfl (.free rfl) fun K64 hK64 => ?_
          refine go_storeS (n := 7) rfl rfl rfl rfl (by kernel_rfl) rfl rfl rfl ?_
          refine hK64 _ _ (fun w M => (mem_take 3 M :)) ?_
          refine ga_op 13 (by kernel_rfl) rfl (.free rfl) fun K65 hK65 => ?_
          refine go_storeS (n := 8) rfl rfl rfl rfl (by kernel_rfl) rfl rfl rfl ?_
          refine hK65 _ _ (fun w M => (mem_take 3 M :)) ?_
          refine ga_done (by kernel_rfl) ?_
          try simp only [List.nil_append, List.cons_append, List.append_assoc, List.set_cons_succ, List.set_cons_zero]
          refine gk_pickL [0, 0, 0, 0, 0, 0, 0, 2, 2, 2, 2, 0, 0] ?_
          refine gk_sub ?hs_66 (HJ14 (_, _, _, _, _, _, _, _, _, _, _, _, _, _, _, _, _, _, _, _))
          case hs_66 => exact (sub_cons rfl (sub_cons rfl (sub_cons rfl (sub_cons rfl (sub_cons rfl (sub_cons rfl (sub_cons rfl (sub_cons rfl (sub_cons rfl (sub_cons rfl sub_nil))))))))))
      · refine go_alloc (z := (.agg #[.int .i64 0, .slice none 0 0, .slice none 0 0, .slice none 0 0, .slice none 0 0])) (cs := [.int .i64 0, .slice none 0 0, .slice none 0 0, .slice none 0 0, .slice none 0 0]) rfl rfl rfl (fun w => by kernel_rfl) rfl ?_
        intro B67
        refine hK32 _ _ (fun w M => (mem_take 3 M :)) ?_
        refine ga_two 9 10 (by kernel_rfl) rfl rfl (.free rfl) (.free rfl) (fun K69 hK69 => ?_) (fun K69 hK69 => ?_)
        · refine go_callC rfl rfl rfl Try.func54 rfl (by decide) rfl (fun w M => specProduct_any w _ _ (rdC_mk (mem_rd M h5) (mem_rd M h6) (mem_rd M h7) (mem_rd2 M h8)) _ _ (rdC_mk (mem_rd M e5) (mem_rd M e6) (mem_rd M e7) (mem_rd2 M e8)) (by first | exact l1.sS | exact l1.sT) (by first | exact l2.sS | exact l2.sT)) ?_
          intro ca70 cb70 cc70 cd70 ce70 cf70 cg70 ch70 cu70
          refine hK69 _ _ (fun w M => (mem_take 3 M :)) ?_
          refine ga_op 10 (by kernel_rfl) rfl (.free rfl) fun K73 hK73 => ?_
          refine go_alloc (z := (.agg #[.int .i64 0, .slice none 0 0, .slice none 0 0, .slice none 0 0, .slice none 0 0])) (cs := [.int .i64 0, .slice none 0 0, .slice none 0 0, .slice none 0 0, .slice none 0 0]) rfl rfl rfl (fun w => by kernel_rfl) rfl ?_
          intro B72
          refine hK73 _ _ (fun w M => (mem_take 3 M :)) ?_
          refine ga_op 12 (by kernel_rfl) rfl (.free rfl) fun K74 hK74 => ?_
          refine go_storeS (n := 12) rfl rfl rfl rfl (by kernel_rfl) rfl rfl rfl ?_
          refine hK74 _ _ (fun w M => (mem_take 3 M :)) ?_
          refine ga_op 13 (by kernel_rfl) rfl (.free rfl) fun K75 hK75 => ?_
          refine go_storeS (n := 7) rfl rfl rfl rfl (by kernel_rfl) rfl rfl rfl ?_
          refine hK75 _ _ (fun w M => (mem_take 3 M :)) ?_
          refine ga_done (by kernel_rfl) ?_
          try simp only [List.nil_append, List.cons_append, List.append_assoc, List.set_cons_succ, List.set_cons_zero]
          refine gk_pickL [0, 0, 0, 0, 0, 0, 0, 1, 1, 1, 1, 1, 0] ?_
          refine gk_sub ?hs_76 (HJ14 (_, _, _, _, _, _, _, _, _, _, _, _, _, _, _, _, _, _, _, _))
          case hs_76 => exact (sub_cons rfl (sub_cons rfl (sub_cons rfl (sub_cons rfl (sub_cons rfl (sub_cons rfl (sub_cons rfl (sub_cons rfl (sub_cons rfl (sub_cons rfl sub_nil))))))))))
        · refine go_alloc (z := (.agg #[.int .i64 0, .slice none 0 0, .slice none 0 0, .slice none 0 0, .slice none 0 0])) (cs := [.int .i64 0, .slice none 0 0, .slice none 0 0, .slice none 0 0, .slice none 0 0]) rfl rfl rfl (fun w => by kernel_rfl) rfl ?_
          intro B77
          refine hK69 _ _ (fun w M => (mem_take 3 M :)) ?_
          refine ga_op 9 (by kernel_rfl) rfl (.free rfl) fun K80 hK80 => ?_
          refine go_callC rfl rfl rfl Try.func54 rfl (by decide) rfl (fun w M => specProduct_any w _ _ (rdC_mk (mem_rd M h5) (mem_rd M h6) (mem_rd M h7) (mem_rd2 M h8)) _ _ (rdC_mk (mem_rd M e5) (mem_rd M e6) (mem_rd M e7) (mem_rd2 M e8)) (by first | exact l1.sS | exact l1.sT) (by first | exact l2.sS | exact l2.sT)) ?_
          intro ca79 cb79 cc79 cd79 ce79 cf79 cg79 ch79 cu79
          refine hK80 _ _ (fun w M => (mem_take 3 M :)) ?_
          refine ga_op 12 (by kernel_rfl) rfl (.free rfl) fun K81 hK81 => ?_
          refine go_storeS (n := 8) rfl rfl rfl rfl (by kernel_rfl) rfl rfl rfl ?_
          refine hK81 _ _ (fun w M => (mem_take 3 M :)) ?_
          refine ga_op 13 (by kernel_rfl) rfl (.free rfl) fun K82 hK82 => ?_
          refine go_storeS (n := 7) rfl rfl rfl rfl (by kernel_rfl) rfl rfl rfl ?_
          refine hK82 _ _ (fun w M => (mem_take 3 M :)) ?_
          refine ga_done (by kernel_rfl) ?_
          try simp only [List.nil_append, List.cons_append, List.append_assoc, List.set_cons_succ, List.set_cons_zero]
          refine gk_pickL [0, 0, 0, 0, 0, 0, 0, 2, 2, 2, 2, 1, 0] ?_
          refine gk_sub ?hs_83 (HJ14 (_, _, _, _, _, _, _, _, _, _, _, _, _, _, _, _, _, _, _, _))
          case hs_83 => exact (sub_cons rfl (sub_cons rfl (sub_cons rfl (sub_cons rfl (sub_cons rfl (sub_cons rfl (sub_cons rfl (sub_cons rfl (sub_cons rfl (sub_cons rfl sub_nil))))))))))
    · refine go_alloc (z := (.agg #[.int .i64 0, .slice none 0 0, .slice none 0 0, .slice none 0 0, .slice none 0 0])) (cs := [.int .i64 0, .slice none 0 0, .slice none 0 0, .slice none 0 0, .slice none 0 0]) rfl rfl rfl (fun w => by kernel_rfl) rfl ?_
      intro B84
      refine hK29 _ _ (fun w M => (mem_take 3 M :)) ?_
      refine ga_two 4 11 (by kernel_rfl) rfl rfl (.free rfl) (.free rfl) (fun K86 hK86 => ?_) (fun K86 hK86 => ?_)
      · refine go_callC rfl rfl rfl Try.func54 rfl (by decide) rfl (fun w M => specProduct_any w _ _ (rdC_mk (mem_rd M h1) (mem_rd M h2) (mem_rd M h3) (mem_rd2 M h4)) _ _ (rdC_mk (mem_rd M e1) (mem_rd M e2) (mem_rd M e3) (mem_rd2 M e4)) (by first | exact l1.sS | exact l1.sT) (by first | exact l2.sS | exact l2.sT)) ?_
        intro ca87 cb87 cc87 cd87 ce87 cf87 cg87 ch87 cu87
        refine hK86 _ _ (fun w M => (mem_take 3 M :)) ?_
        refine ga_two 9 11 (by kernel_rfl) rfl rfl (.free rfl) (.free rfl) (fun K89 hK89 => ?_) (fun K89 hK89 => ?_)
        · refine go_callC rfl rfl rfl Try.func54 rfl (by decide) rfl (fun w M => specProduct_any w _ _ (rdC_mk (mem_rd M h5) (mem_rd M h6) (mem_rd M h7) (mem_rd2 M h8)) _ _ (rdC_mk (mem_rd M e5) (mem_rd M e6) (mem_rd M e7) (mem_rd2 M e8)) (by first | exact l1.sS | exact l1.sT) (by first | exact l2.sS | exact l2.sT)) ?_
          intro ca90 cb90 cc90 cd90 ce90 cf90 cg90 ch90 cu90
          refine hK89 _ _ (fun w M => (mem_take 3 M :)) ?_
          refine ga_op 11 (by kernel_rfl) rfl (.free rfl) fun K93 hK93 => ?_
          refine go_alloc (z := (.agg #[.int .i64 0, .slice none 0 0, .slice none 0 0, .slice none 0 0, .slice none 0 0])) (cs := [.int .i64 0, .slice none 0 0, .slice none 0 0, .slice none 0 0, .slice none 0 0]) rfl rfl rfl (fun w => by kernel_rfl) rfl ?_
          intro B92
          refine hK93 _ _ (fun w M => (mem_take 3 M :)) ?_
          refine ga_op 12 (by kernel_rfl) rfl (.free rfl) fun K94 hK94 => ?_
          refine go_storeS (n := 3) rfl rfl rfl rfl (by kernel_rfl) rfl rfl rfl ?_
          refine hK94 _ _ (fun w M => (mem_take 3 M :)) ?_
          refine ga_op 13 (by kernel_rfl) rfl (.free rfl) fun K95 hK95 => ?_
          refine go_storeS (n := 12) rfl rfl rfl rfl (by kernel_rfl) rfl rfl rfl ?_
          refine hK95 _ _ (fun w M => (mem_take 3 M :)) ?_
          refine ga_done (by kernel_rfl) ?_
          try simp only [List.nil_append, List.cons_append, List.append_assoc, List.set_cons_succ, List.set_cons_zero]
          refine gk_pickL [0, 0, 0, 1, 1, 1, 1, 1, 1, 1, 1, 0, 0] ?_
          refine gk_sub ?hs_96 (HJ14 (_, _, _, _, _, _, _, _, _, _, _, _, _, _, _, _, _, _, _, _))
          case hs_96 => exact (sub_cons rfl (sub_cons rfl (sub_cons rfl (sub_cons rfl (sub_cons rfl (sub_cons rfl (sub_cons rfl (sub_cons rfl (sub_cons rfl (sub_cons rfl sub_nil))))))))))
        · refine go_alloc (z := (.agg #[.int .i64 0, .slice none 0 0, .slice none 0 0, .slice none 0 0, .slice none 0 0])) (cs := [.int .i64 0, .slice none 0 0, .slice none 0 0, .slice none 0 0, .slice none 0 0]) rfl rfl rfl (fun w => by kernel_rfl) rfl ?_
          intro B97
          refine hK89 _ _ (fun w M => (mem_take 3 M :)) ?_
          refine ga_op 9 (by kernel_rfl) rfl (.free rfl) fun K100 hK100 => ?_
          refine go_callC rfl rfl rfl Try.func54 rfl (by decide) rfl (fun w M => specProduct_any w _ _ (rdC_mk (mem_rd M h5) (mem_rd M h6) (mem_rd M h7) (mem_rd2 M h8)) _ _ (rdC_mk (mem_rd M e5) (mem_rd M e6) (mem_rd M e7) (mem_rd2 M e8)) (by first | exact l1.sS | exact l1.sT) (by first | exact l2.sS | exact l2.sT)) ?_
          intro ca99 cb99 cc99 cd99 ce99 cf99 cg99 ch99 cu99
          refine hK100 _ _ (fun w M => (mem_take 3 M :)) ?_
          refine ga_op 12 (by kernel_rfl) rfl (.free rfl) fun K101 hK101 => ?_
          refine go_storeS (n := 3) rfl rfl rfl rfl (by kernel_rfl) rfl rfl rfl ?_
          refine hK101 _ _ (fun w M => (mem_take 3 M :)) ?_
          refine ga_op 13 (by kernel_rfl) rfl (.free rfl) fun K102 hK102 => ?_
          refine go_storeS (n := 8) rfl rfl rfl rfl (by kernel_rfl) rfl rfl rfl ?_
          refine hK102 _ _ (fun w M => (mem_take 3 M :)) ?_
          refine ga_done (by kernel_rfl) ?_
          try simp only [List.nil_append, List.cons_append, List.append_assoc, List.set_cons_succ, List.set_cons_zero]
          refine gk_pickL [0, 0, 0, 1, 1, 1, 1, 2, 2, 2, 2, 0, 0] ?_
          refine gk_sub ?hs_103 (HJ14 (_, _, _, _, _, _, _, _, _, _, _, _, _, _, _, _, _, _, _, _))
          case hs_103 => exact (sub_cons rfl (sub_cons rfl (sub_cons rfl (sub_cons rfl (sub_cons rfl (sub_cons rfl (sub_cons rfl (sub_cons rfl (sub_cons rfl (sub_cons rfl sub_nil))))))))))
      · refine go_alloc (z := (.agg #[.int .i64 0, .slice none 0 0, .slice none 0 0, .slice none 0 0, .slice none 0 0])) (cs := [.int .i64 0, .slice none 0 0, .slice none 0 0, .slice none 0 0, .slice none 0 0]) rfl rfl rfl (fun w => by kernel_rfl) rfl ?_
        intro B104
        refine hK86 _ _ (fun w M => (mem_take 3 M :)) ?_
        refine ga_op 4 (by kernel_rfl) rfl (.free rfl) fun K107 hK107 => ?_
        refine go_callC rfl rfl rfl Try.func54 rfl (by decide) rfl (fun w M => specProduct_any w _ _ (rdC_mk (mem_rd M h1) (mem_rd M h2) (mem_rd M h3) (mem_rd2 M h4)) _ _ (rdC_mk (mem_rd M e1) (mem_rd M e2) (mem_rd M e3) (mem_rd2 M e4)) (by first | exact l1.sS | exact l1.sT) (by first | exact l2.sS | exact l2.sT)) ?_
        intro ca106 cb106 cc106 cd106 ce106 cf106 cg106 ch106 cu106
        refine hK107 _ _ (fun w M => (mem_take 3 M :)) ?_
        refine ga_op 9 (by kernel_rfl) rfl (.free rfl) fun K109 hK109 => ?_
        refine go_callC rfl rfl rfl Try.func54 rfl (by decide) rfl (fun w M => specProduct_any w _ _ (rdC_mk (mem_rd M h5) (mem_rd M h6) (mem_rd M h7) (mem_rd2 M h8)) _ _ (rdC_mk (mem_rd M e5) (mem_rd M e6) (mem_rd M e7) (mem_rd2 M e8)) (by first | exact l1.sS | exact l1.sT) (by first | exact l2.sS | exact l2.sT)) ?_
        intro ca108 cb108 cc108 cd108 ce108 cf108 cg108 ch108 cu108
        refine hK109 _ _ (fun w M => (mem_take 3 M :)) ?_
        refine ga_op 12 (by kernel_rfl) rfl (.free rfl) fun K110 hK110 => ?_
        refine go_storeS (n := 3) rfl rfl rfl rfl (by kernel_rfl) rfl rfl rfl ?_
        refine hK110 _ _ (fun w M => (mem_take 3 M :)) ?_
        refine ga_op 13 (by kernel_rfl) rfl (.free rfl) fun K111 hK111 => ?_
        refine go_storeS (n := 4) rfl rfl rfl rfl (by kernel_rfl) rfl rfl rfl ?_
        refine hK111 _ _ (fun w M => (mem_take 3 M :)) ?_
        refine ga_done (by kernel_rfl) ?_
        try simp only [List.nil_append, List.cons_append, List.append_assoc, List.set_cons_succ, List.set_cons_zero]
        refine gk_pickL [0, 0, 0, 2, 2, 2, 2, 2, 2, 2, 2, 0, 0] ?_
        refine gk_sub ?hs_112 (HJ14 (_, _, _, _, _, _, _, _, _, _, _, _, _, _, _, _, _, _, _, _))
        case hs_112 => exact (sub_cons rfl (sub_cons rfl (sub_cons rfl (sub_cons rfl (sub_cons rfl (sub_cons rfl (sub_cons rfl (sub_cons rfl (sub_cons rfl (sub_cons rfl sub_nil))))))))))
    · refine go_alloc (z := (.agg #[.int .i64 0, .slice none 0 0, .slice none 0 0, .slice none 0 0, .slice none 0 0])) (cs := [.int .i64 0, .slice none 0 0, .slice none 0 0, .slice none 0 0, .slice none 0 0]) rfl rfl rfl (fun w => by kernel_rfl) rfl ?_
      intro B113
      refine hK29 _ _ (fun w M => (mem_take 3 M :)) ?_
      refine ga_two 4 10 (by kernel_rfl) rfl rfl (.free rfl) (.free rfl) (fun K115 hK115 => ?_) (fun K115 hK115 => ?_)
      · refine go_callC rfl rfl rfl Try.func54 rfl (by decide) rfl (fun w M => specProduct_any w _ _ (rdC_mk (mem_rd M h1) (mem_rd M h2) (mem_rd M h3) (mem_rd2 M h4)) _ _ (rdC_mk (mem_rd M e1) (mem_rd M e2) (mem_rd M e3) (mem_rd2 M e4)) (by first | exact l1.sS | exact l1.sT) (by first | exact l2.sS | exact l2.sT)) ?_
        intro ca116 cb116 cc116 cd116 ce116 cf116 cg116 ch116 cu116
        refine hK115 _ _ (fun w M => (mem_take 3 M :)) ?_
        refine ga_two 9 10 (by kernel_rfl) rfl rfl (.free rfl) (.free rfl) (fun K118 hK118 => ?_) (fun K118 hK118 => ?_)
        · refine go_callC rfl rfl rfl Try.func54 rfl (by decide) rfl (fun w M => specProduct_any w _ _ (rdC_mk (mem_rd M h5) (mem_rd M h6) (mem_rd M h7) (mem_rd2 M h8)) _ _ (rdC_mk (mem_rd M e5) (mem_rd M e6) (mem_rd M e7) (mem_rd2 M e8)) (by first | exact l1.sS | exact l1.sT) (by first | exact l2.sS | exact l2.sT)) ?_
          intro ca119 cb119 cc119 cd119 ce119 cf119 cg119 ch119 cu119
          refine hK118 _ _ (fun w M => (mem_take 3 M :)) ?_
          refine ga_op 10 (by kernel_rfl) rfl (.free rfl) fun K122 hK122 => ?_
          refine go_alloc (z := (.agg #[.int .i64 0, .slice none 0 0, .slice none 0 0, .slice none 0 0, .slice none 0 0])) (cs := [.int .i64 0, .slice none 0 0, .slice none 0 0, .slice none 0 0, .slice none 0 0]) rfl rfl rfl (fun w => by kernel_rfl) rfl ?_
          intro B121
          refine hK122 _ _ (fun w M => (mem_take 3 M :)) ?_
          refine ga_op 12 (by kernel_rfl) rfl (.free rfl) fun K123 hK123 => ?_
          refine go_storeS (n := 12) rfl rfl rfl rfl (by kernel_rfl) rfl rfl rfl ?_
          refine hK123 _ _ (fun w M => (mem_take 3 M :)) ?_
          refine ga_op 13 (by kernel_rfl) rfl (.free rfl) fun K124 hK124 => ?_
          refine go_storeS (n := 3) rfl rfl rfl rfl (by kernel_rfl) rfl rfl rfl ?_
          refine hK124 _ _ (fun w M => (mem_take 3 M :)) ?_
          refine ga_done (by kernel_rfl) ?_
          try simp only [List.nil_append, List.cons_append, List.append_assoc, List.set_cons_succ, List.set_cons_zero]
          refine gk_pickL [0, 0, 0, 1, 1, 1, 1, 1, 1, 1, 1, 1, 0] ?_
          refine gk_sub ?hs_125 (HJ14 (_, _, _, _, _, _, _, _, _, _, _, _, _, _, _, _, _, _, _, _))
          case hs_125 => exact (sub_cons rfl (sub_cons rfl (sub_cons rfl (sub_cons rfl (sub_cons rfl (sub_cons rfl (sub_cons rfl (sub_cons rfl (sub_cons rfl (sub_cons rfl sub_nil))))))))))
        · refine go_alloc (z := (.agg #[.int .i64 0, .slice none 0 0, .slice none 0 0, .slice none 0 0, .slice none 0 0])) (cs := [.int .i64 0, .slice none 0 0, .slice none 0 0, .slice none 0 0, .slice none 0 0]) rfl rfl rfl (fun w => by kernel_rfl) rfl ?_
          intro B126
          refine hK118 _ _ (fun w M => (mem_take 3 M :)) ?_
          refine ga_op 9 (by kernel_rfl) rfl (.free rfl) fun K129 hK129 => ?_
          refine go_callC rfl rfl rfl Try.func54 rfl (by decide) rfl (fun w M => specProduct_any w _ _ (rdC_mk (mem_rd M h5) (mem_rd M h6) (mem_rd M h7) (mem_rd2 M h8)) _ _ (rdC_mk (mem_rd M e5) (mem_rd M e6) (mem_rd M e7) (mem_rd2 M e8)) (by first | exact l1.sS | exact l1.sT) (by first | exact l2.sS | exact l2.sT)) ?_
          intro ca128 cb128 cc128 cd128 ce128 cf128 cg128 ch128 cu128
          refine hK129 _ _ (fun w M => (mem_take 3 M :)) ?_
          refine ga_op 12 (by kernel_rfl) rfl (.free rfl) fun K130 hK130 => ?_
          refine go_storeS (n := 8) rfl rfl rfl rfl (by kernel_rfl) rfl rfl rfl ?_
          refine hK130 _ _ (fun w M => (mem_take 3 M :)) ?_
          refine ga_op 13 (by kernel_rfl) rfl (.free rfl) fun K131 hK131 => ?_
          refine go_storeS (n := 3) rfl rfl rfl rfl (by kernel_rfl) rfl rfl rfl ?_
          refine hK131 _ _ (fun w M => (mem_take 3 M :)) ?_
          refine ga_done (by kernel_rfl) ?_
          try simp only [List.nil_append, List.cons_append, List.append_assoc, List.set_cons_succ, List.set_cons_zero]
          refine gk_pickL [0, 0, 0, 1, 1, 1, 1, 2, 2, 2, 2, 1, 0] ?_
          refine gk_sub ?hs_132 (HJ14 (_, _, _, _, _, _, _, _, _, _, _, _, _, _, _, _, _, _, _, _))
          case hs_132 => exact (sub_cons rfl (sub_cons rfl (sub_cons rfl (sub_cons rfl (sub_cons rfl (sub_cons rfl (sub_cons rfl (sub_cons rfl (sub_cons rfl (sub_cons rfl sub_nil))))))))))
      · refine go_alloc (z := (.agg #[.int .i64 0, .slice none 0 0, .slice none 0 0, .slice none 0 0, .slice none 0 0])) (cs := [.int .i64 0, .slice none 0 0, .slice none 0 0, .slice none 0 0, .slice none 0 0]) rfl rfl rfl (fun w => by kernel_rfl) rfl ?_
        intro B133
        refine hK115 _ _ (fun w M => (mem_take 3 M :)) ?_
        refine ga_op 4 (by kernel_rfl) rfl (.free rfl) fun K136 hK136 => ?_
        refine go_callC rfl rfl rfl Try.func54 rfl (by decide) rfl (fun w M => specProduct_any w _ _ (rdC_mk (mem_rd M h1) (mem_rd M h2) (mem_rd M h3) (mem_rd2 M h4)) _ _ (rdC_mk (mem_rd M e1) (mem_rd M e2) (mem_rd M e3) (mem_rd2 M e4)) (by first | exact l1.sS | exact l1.sT) (by first | exact l2.sS | exact l2.sT)) ?_
        intro ca135 cb135 cc135 cd135 ce135 cf135 cg135 ch135 cu135
        refine hK136 _ _ (fun w M => (mem_take 3 M :)) ?_
        refine ga_op 9 (by kernel_rfl) rfl (.free rfl) fun K138 hK138 => ?_
        refine go_callC rfl rfl rfl Try.func54 rfl (by decide) rfl (fun w M => specProduct_any w _ _ (rdC_mk (mem_rd M h5) (mem_rd M h6) (mem_rd M h7) (mem_rd2 M h8)) _ _ (rdC_mk (mem_rd M e5) (mem_rd M e6) (mem_rd M e7) (mem_rd2 M e8)) (by first | exact l1.sS | exact l1.sT) (by first | exact l2.sS | exact l2.sT)) ?_
        intro ca137 cb137 cc137 cd137 ce137 cf137 cg137 ch137 cu137
        refine hK138 _ _ (fun w M => (mem_take 3 M :)) ?_
        refine ga_op 12 (by kernel_rfl) rfl (.free rfl) fun K139 hK139 => ?_
        refine go_storeS (n := 4) rfl rfl rfl rfl (by kernel_rfl) rfl rfl rfl ?_
        refine hK139 _ _ (fun w M => (mem_take 3 M :)) ?_
        refine ga_op 13 (by kernel_rfl) rfl (.free rfl) fun K140 hK140 => ?_
        refine go_storeS (n := 3) rfl rfl rfl rfl (by kernel_rfl) rfl rfl rfl ?_
        refine hK140 _ _ (fun w M => (mem_take 3 M :)) ?_
        refine ga_done (by kernel_rfl) ?_
        try simp only [List.nil_append, List.cons_append, List.append_assoc, List.set_cons_succ, List.set_cons_zero]
        refine gk_pickL [0, 0, 0, 2, 2, 2, 2, 2, 2, 2, 2, 1, 0] ?_
        refine gk_sub ?hs_141 (HJ14 (_, _, _, _, _, _, _, _, _, _, _, _, _, _, _, _, _, _, _, _))
        case hs_141 => exact (sub_cons rfl (sub_cons rfl (sub_cons rfl (sub_cons rfl (sub_cons rfl (sub_cons rfl (sub_cons rfl (sub_cons rfl (sub_cons rfl (sub_cons rfl sub_nil))))))))))

set_option maxHeartbeats 4000000 in
set_option maxRecDepth 100000 in
theorem impl_ProductFunctor (w : World) (v : Value) (F : Fct) (u : Value) (G : Fct) (h : RdF w v F) (e : RdF w u G) :
    Calls Try.prog 18 #[v, u] w (RetFI w (fProductFunctor F G).1 (fProductFunctor F G).2) := by
  have h0 := h
  obtain ⟨vx1, vx2, vx3, vx4, vx5, vx6, vx7, vx8, vx9, vx10, vk1, vk2, vk3, vk4, vk5, vk6, vk7, vk8, vk9, vk10, rfl, h1, h2, h3, h4, h5, h6, h7, h8, h9, h10⟩ := h.lists
  have e0 := e
  obtain ⟨ux1, ux2, ux3, ux4, ux5, ux6, ux7, ux8, ux9, ux10, uk1, uk2, uk3, uk4, uk5, uk6, uk7, uk8, uk9, uk10, rfl, e1, e2, e3, e4, e5, e6, e7, e8, e9, e10⟩ := e.lists
  go_enter Try.func18, Try.ntmps18
  refine gc_enter (N := 71) rfl (look_cons (k := 0) rfl (look_cons (k := 1) rfl (look_nil _))) ?_
  refine gc_seq fun K1 hK1 => ?_
  refine gc_region ?_
  refine g_op (.free rfl) fun K3 hK3 => ?_
  refine go_box rfl rfl rfl rfl rfl ?_
  intro B2
  refine hK3 _ _ ?_
  refine g_op (.free rfl) fun K5 hK5 => ?_
  refine go_box rfl rfl rfl rfl rfl ?_
  intro B4
  refine hK5 _ _ ?_
  refine g_op (.free rfl) fun K7 hK7 => ?_
  refine go_alloc (z := (.agg #[.int .i64 0, .slice none 0 0, .slice none 0 0, .slice none 0 0, .slice none 0 0, .int .i64 0, .slice none 0 0, .slice none 0 0, .slice none 0 0, .slice none 0 0, .slice none 0 0, .slice none 0 0])) (cs := [.int .i64 0, .slice none 0 0, .slice none 0 0, .slice none 0 0, .slice none 0 0, .int .i64 0, .slice none 0 0, .slice none 0 0, .slice none 0 0, .slice none 0 0, .slice none 0 0, .slice none 0 0]) rfl rfl rfl (fun w => by kernel_rfl) rfl ?_
  intro B6
  refine hK7 _ _ ?_
  refine g_v (.free rfl) rfl rfl (qt_assign rfl rfl) ?_
  refine g_nil ?_
  refine gk_then (hK1 _ _ ?_)
  refine gc_seq fun K8 hK8 => ?_
  refine gc_region ?_
  refine g_v (.free rfl) rfl rfl (qt_loadS (n := 0) rfl rfl Try.underlying31 rfl (by kernel_rfl) rfl) ?_
  refine g_v (.free rfl) rfl rfl (qt_loadS (n := 1) rfl rfl Try.underlying31 rfl (by kernel_rfl) rfl) ?_
  refine g_op (.free rfl) fun K10 hK10 => ?_
  refine go_callFFI rfl rfl rfl Try.func58 rfl (by decide) rfl (fun w M => readFunctors_any w _ _ (mem_rdF M h0) _ _ (mem_rdF M e0)) ?_
  intro fx1_9 fk1_9 fx2_9 fk2_9 fx3_9 fk3_9 fx4_9 fk4_9 fx5_9 fk5_9 fx6_9 fk6_9 fx7_9 fk7_9 fx8_9 fk8_9 fx9_9 fk9_9 fx10_9 fk10_9 us9 ut9 gy1_9 gj1_9 gy2_9 gj2_9 gy3_9 gj3_9 gy4_9 gj4_9 gy5_9 gj5_9 gy6_9 gj6_9 gy7_9 gj7_9 gy8_9 gj8_9 gy9_9 gj9_9 gy10_9 gj10_9 vs9 vt9
  refine hK10 _ _ ?_
  refine g_v (.free rfl) rfl rfl (qt_move rfl rfl) ?_
  refine g_v (.free rfl) rfl rfl (qt_extract rfl rfl rfl) ?_
  refine g_v (.free rfl) rfl rfl (qt_extract rfl rfl rfl) ?_
  refine g_v (.free rfl) rfl rfl (qt_extract rfl rfl rfl) ?_
  refine g_op (.free rfl) fun K12 hK12 => ?_
  refine go_alloc (z := (.agg #[.int .i64 0, .slice none 0 0, .slice none 0 0, .slice none 0 0, .slice none 0 0, .int .i64 0, .slice none 0 0, .slice none 0 0, .slice none 0 0, .slice none 0 0, .slice none 0 0, .slice none 0 0])) (cs := [.int .i64 0, .slice none 0 0, .slice none 0 0, .slice none 0 0, .slice none 0 0, .int .i64 0, .slice none 0 0, .slice none 0 0, .slice none 0 0, .slice none 0 0, .slice none 0 0, .slice none 0 0]) rfl rfl rfl (fun w => by kernel_rfl) rfl ?_
  intro B11
  refine hK12 _ _ ?_
  refine g_op (.free rfl) fun K14 hK14 => ?_
  refine go_alloc (z := (.agg #[.int .i64 0, .slice none 0 0, .slice none 0 0, .slice none 0 0, .slice none 0 0, .int .i64 0, .slice none 0 0, .slice none 0 0, .slice none 0 0, .slice none 0 0, .slice none 0 0, .slice none 0 0])) (cs := [.int .i64 0, .slice none 0 0, .slice none 0 0, .slice none 0 0, .slice none 0 0, .int .i64 0, .slice none 0 0, .slice none 0 0, .slice none 0 0, .slice none 0 0, .slice none 0 0, .slice none 0 0]) rfl rfl rfl (fun w => by kernel_rfl) rfl ?_
  intro B13
  refine hK14 _ _ ?_
  refine g_op (.free rfl) fun K15 hK15 => ?_
  refine go_storeS (n := 23) rfl rfl rfl rfl (by kernel_rfl) rfl rfl rfl ?_
  refine hK15 _ _ ?_
  refine g_op (.free rfl) fun K16 hK16 => ?_
  refine go_storeS (n := 24) rfl rfl rfl rfl (by kernel_rfl) rfl rfl rfl ?_
  refine hK16 _ _ ?_
  refine g_v (.free rfl) rfl rfl (qt_assign rfl rfl) ?_
  refine g_nil ?_
  refine gk_then (hK8 _ _ ?_)
  refine gc_seq fun K17 hK17 => ?_
  refine gc_seq fun K18 hK18 => ?_
  refine gc_region ?_
  refine g_v (.free rfl) rfl rfl (qt_move rfl rfl) ?_
  refine g_v (.free rfl) rfl rfl (qt_neq rfl rfl rfl) ?_
  refine g_nil ?_
  refine gk_then (hK18 _ _ ?_)
  refine gc_cond rfl (fun hc0 => ?_) (fun hc0 => ?_)
  · try simp only [decide_eq_true_eq, decide_eq_false_iff_not, Bool.not_eq_true', Bool.not_eq_false', Bool.not_eq_eq_eq_not, Bool.not_true, Bool.not_false, ne_eq, Decidable.not_not, Classical.not_not] at hc0
    refine gc_seq fun K19 hK19 => ?_
    refine gc_region ?_
    refine g_v (.free rfl) rfl rfl (qt_build rfl rfl bt0_Functor) ?_
    refine g_v (.free rfl) rfl rfl (qt_move rfl rfl) ?_
    refine g_op (.free rfl) fun K20 hK20 => ?_
    refine go_storeS (n := 2) rfl rfl rfl rfl (by kernel_rfl) rfl rfl rfl ?_
    refine hK20 _ _ ?_
    refine g_v (.free rfl) rfl rfl (qt_assign rfl rfl) ?_
    refine g_nil ?_
    refine gk_then (hK19 _ _ ?_)
    refine gc_ret ?_
    refine gk_then_ret ?_
    refine ret_SI (n := 2) rfl rfl rfl Try.underlying31 rfl (by kernel_rfl) rfl (fun w M => ?_)
    rw [(twoFE_n hc0).2, pdf_f hc0]; exact retFI_zero M.1
  · try simp only [decide_eq_true_eq, decide_eq_false_iff_not, Bool.not_eq_true', Bool.not_eq_false', Bool.not_eq_eq_eq_not, Bool.not_true, Bool.not_false, ne_eq, Decidable.not_not, Classical.not_not] at hc0
    refine gc_skip ?_
    refine gk_then (hK17 _ _ ?_)
    refine gc_seq fun K21 hK21 => ?_
    have hh := twoFE_0 hc0
    have hF := isf_of hh.1; have hG := isf_of hh.2
    have l1 := lnF hh.1; have l2 := lnF hh.2
    have o1 := l1.o8; have o2 := l2.o8; have a1 := l1.a40; have a2 := l2.a40; have t1 := l2.t8; have t2 := l2.t0; have t3 := l2.n40
    have hQ := twoF_c hc0
    simp only [hQ.1, hQ.2]
    refine gc_region ?_
    refine g_v (.free rfl) rfl rfl (qt_field (z := 4) (off := 0) rfl rfl Try.underlying31 rfl (by kernel_rfl) rfl) ?_
    refine g_v (.free rfl) rfl rfl (qt_loadP (n := 23) (z := 5) rfl rfl Try.underlying29 rfl (by kernel_rfl) rfl (by first | decide | exact Nat.le_refl _ | simp)) ?_
    refine g_v (.free rfl) rfl rfl (qt_field (z := 4) (off := 0) rfl rfl Try.underlying31 rfl (by kernel_rfl) rfl) ?_
    refine g_v (.free rfl) rfl rfl (qt_loadP (n := 24) (z := 5) rfl rfl Try.underlying29 rfl (by kernel_rfl) rfl (by first | decide | exact Nat.le_refl _ | simp)) ?_
    refine g_op (.free rfl) fun K23 hK23 => ?_
    refine go_callCI rfl rfl rfl Try.func45 rfl (by decide) rfl (fun w M => impl_ProductCategory w _ _ _ _ (rdC_mk ((mem_own1 (n := 3) M rfl).rd) ((mem_own1 (n := 4) M rfl).rd) ((mem_own1 (n := 5) M rfl).rd) (mem_rdU (n := 6) M rfl)) (rdC_mk ((mem_own1 (n := 13) M rfl).rd) ((mem_own1 (n := 14) M rfl).rd) ((mem_own1 (n := 15) M rfl).rd) (mem_rdU (n := 16) M rfl))) ?_
    intro ca22 cb22 cc22 cd22 ce22 cf22 cg22 ch22 cu22
    refine hK23 _ _ ?_
    refine g_v (.free rfl) rfl rfl (qt_move rfl rfl) ?_
    refine g_v (.free rfl) rfl rfl (qt_extract rfl rfl rfl) ?_
    refine g_v (.free rfl) rfl rfl (qt_extract rfl rfl rfl) ?_
    refine g_op (.free rfl) fun K25 hK25 => ?_
    refine go_alloc (z := (.agg #[.int .i64 0, .slice none 0 0, .slice none 0 0, .slice none 0 0, .slice none 0 0])) (cs := [.int .i64 0, .slice none 0 0, .slice none 0 0, .slice none 0 0, .slice none 0 0]) rfl rfl rfl (fun w => by kernel_rfl) rfl ?_
    intro B24
    refine hK25 _ _ ?_
    refine g_op (.free rfl) fun K26 hK26 => ?_
    refine go_storeS (n := 29) rfl rfl rfl rfl (by kernel_rfl) rfl rfl rfl ?_
    refine hK26 _ _ ?_
    refine g_v (.free rfl) rfl rfl (qt_assign rfl rfl) ?_
    refine g_nil ?_
    refine gk_then (hK21 _ _ ?_)
    refine gc_seq fun K27 hK27 => ?_
    refine gc_seq fun K28 hK28 => ?_
    refine gc_region ?_
    refine g_v (.free rfl) rfl rfl (qt_move rfl rfl) ?_
    refine g_v (.free rfl) rfl rfl (qt_neq rfl rfl rfl) ?_
    refine g_nil ?_
    refine gk_then (hK28 _ _ ?_)
    refine gc_cond rfl (fun hc1 => ?_) (fun hc1 => ?_)
    · try simp only [decide_eq_true_eq, decide_eq_false_iff_not, Bool.not_eq_true', Bool.not_eq_false', Bool.not_eq_eq_eq_not, Bool.not_true, Bool.not_false, ne_eq, Decidable.not_not, Classical.not_not] at hc1
      refine gc_seq fun K29 hK29 => ?_
      refine gc_region ?_
      refine g_v (.free rfl) rfl rfl (qt_build rfl rfl bt0_Functor) ?_
      refine g_v (.free rfl) rfl rfl (qt_move rfl rfl) ?_
      refine g_op (.free rfl) fun K30 hK30 => ?_
      refine go_storeS (n := 2) rfl rfl rfl rfl (by kernel_rfl) rfl rfl rfl ?_
      refine hK30 _ _ ?_
      refine g_v (.free rfl) rfl rfl (qt_assign rfl rfl) ?_
      refine g_nil ?_
      refine gk_then (hK29 _ _ ?_)
      refine gc_ret ?_
      refine gk_then_ret ?_
      refine ret_SI (n := 2) rfl rfl rfl Try.underlying31 rfl (by kernel_rfl) rfl (fun w M => ?_)
      have f3 := prd_3 hF.cs hG.cs hc1; rw [f3.2, pdf_l hc0 (fun hq => f3.1 hq.1)]; exact retFI_zero M.1
    · try simp only [decide_eq_true_eq, decide_eq_false_iff_not, Bool.not_eq_true', Bool.not_eq_false', Bool.not_eq_eq_eq_not, Bool.not_true, Bool.not_false, ne_eq, Decidable.not_not, Classical.not_not] at hc1
      refine gc_skip ?_
      refine gk_then (hK27 _ _ ?_)
      refine gc_seq fun K31 hK31 => ?_
      have f1 := prd_0 hF.cs hG.cs hc1
      simp only [prd_t hF.cs hG.cs f1]
      refine gc_region ?_
      refine g_v (.free rfl) rfl rfl (qt_field (z := 4) (off := 5) rfl rfl Try.underlying31 rfl (by kernel_rfl) rfl) ?_
      refine g_v (.free rfl) rfl rfl (qt_loadP (n := 23) (z := 5) rfl rfl Try.underlying29 rfl (by kernel_rfl) rfl (by first | decide | exact Nat.le_refl _ | simp)) ?_
      refine g_v (.free rfl) rfl rfl (qt_field (z := 4) (off := 5) rfl rfl Try.underlying31 rfl (by kernel_rfl) rfl) ?_
      refine g_v (.free rfl) rfl rfl (qt_loadP (n := 24) (z := 5) rfl rfl Try.underlying29 rfl (by kernel_rfl) rfl (by first | decide | exact Nat.le_refl _ | simp)) ?_
      refine g_op (.free rfl) fun K33 hK33 => ?_
      refine go_callCI rfl rfl rfl Try.func45 rfl (by decide) rfl (fun w M => impl_ProductCategory w _ _ _ _ (rdC_mk ((mem_own1 (n := 7) M rfl).rd) ((mem_own1 (n := 8) M rfl).rd) ((mem_own1 (n := 9) M rfl).rd) (mem_rdU (n := 10) M rfl)) (rdC_mk ((mem_own1 (n := 17) M rfl).rd) ((mem_own1 (n := 18) M rfl).rd) ((mem_own1 (n := 19) M rfl).rd) (mem_rdU (n := 20) M rfl))) ?_
      intro ca32 cb32 cc32 cd32 ce32 cf32 cg32 ch32 cu32
      refine hK33 _ _ ?_
      refine g_v (.free rfl) rfl rfl (qt_move rfl rfl) ?_
      refine g_v (.free rfl) rfl rfl (qt_extract rfl rfl rfl) ?_
      refine g_v (.free rfl) rfl rfl (qt_extract rfl rfl rfl) ?_
      refine g_op (.free rfl) fun K35 hK35 => ?_
      refine go_alloc (z := (.agg #[.int .i64 0, .slice none 0 0, .slice none 0 0, .slice none 0 0, .slice none 0 0])) (cs := [.int .i64 0, .slice none 0 0, .slice none 0 0, .slice none 0 0, .slice none 0 0]) rfl rfl rfl (fun w => by kernel_rfl) rfl ?_
      intro B34
      refine hK35 _ _ ?_
      refine g_op (.free rfl) fun K36 hK36 => ?_
      refine go_storeS (n := 34) rfl rfl rfl rfl (by kernel_rfl) rfl rfl rfl ?_
      refine hK36 _ _ ?_
      refine g_v (.free rfl) rfl rfl (qt_assign rfl rfl) ?_
      refine g_nil ?_
      refine gk_then (hK31 _ _ ?_)
      refine gc_seq fun K37 hK37 => ?_
      refine gc_seq fun K38 hK38 => ?_
      refine gc_region ?_
      refine g_v (.free rfl) rfl rfl (qt_move rfl rfl) ?_
      refine g_v (.free rfl) rfl rfl (qt_neq rfl rfl rfl) ?_
      refine g_nil ?_
      refine gk_then (hK38 _ _ ?_)
      refine gc_cond rfl (fun hc2 => ?_) (fun hc2 => ?_)
      · try simp only [decide_eq_true_eq, decide_eq_false_iff_not, Bool.not_eq_true', Bool.not_eq_false', Bool.not_eq_eq_eq_not, Bool.not_true, Bool.not_false, ne_eq, Decidable.not_not, Classical.not_not] at hc2
        refine gc_seq fun K39 hK39 => ?_
        refine gc_region ?_
        refine g_v (.free rfl) rfl rfl (qt_build rfl rfl bt0_Functor) ?_
        refine g_v (.free rfl) rfl rfl (qt_move rfl rfl) ?_
        refine g_op (.free rfl) fun K40 hK40 => ?_
        refine go_storeS (n := 2) rfl rfl rfl rfl (by kernel_rfl) rfl rfl rfl ?_
        refine hK40 _ _ ?_
        refine g_v (.free rfl) rfl rfl (qt_assign rfl rfl) ?_
        refine g_nil ?_
        refine gk_then (hK39 _ _ ?_)
        refine gc_ret ?_
        refine gk_then_ret ?_
        refine ret_SI (n := 2) rfl rfl rfl Try.underlying31 rfl (by kernel_rfl) rfl (fun w M => ?_)
        have f3 := prd_3 hF.ct hG.ct hc2; rw [f3.2, pdf_l hc0 (fun hq => f3.1 hq.2)]; exact retFI_zero M.1
      · try simp only [decide_eq_true_eq, decide_eq_false_iff_not, Bool.not_eq_true', Bool.not_eq_false', Bool.not_eq_eq_eq_not, Bool.not_true, Bool.not_false, ne_eq, Decidable.not_not, Classical.not_not] at hc2
        refine gc_skip ?_
        refine gk_then (hK37 _ _ ?_)
        refine gc_seq fun K41 hK41 => ?_
        have f2 := prd_0 hF.ct hG.ct hc2
        simp only [prd_t hF.ct hG.ct f2]
        try simp only [List.nil_append, List.cons_append, List.append_assoc, List.set_cons_succ, List.set_cons_zero]
        refine ga_start _ (fun w M => M) ?_
        refine ga_v 0 rfl (by kernel_rfl) (by kernel_rfl) (by kernel_rfl) (.free rfl) rfl rfl (qt_field (z := 0) (off := 10) rfl rfl Try.underlying31 rfl (by kernel_rfl) rfl) (fun _ _ _ h => h) ?_
        refine ga_v 1 rfl (by kernel_rfl) (by kernel_rfl) (by kernel_rfl) (.free rfl) rfl rfl (qt_loadB (n := 23) rfl rfl Try.underlying22 rfl rfl rfl) (fun _ _ _ h => h) ?_
        refine ga_v 2 rfl (by kernel_rfl) (by kernel_rfl) (by kernel_rfl) (.free rfl) rfl rfl (qt_field (z := 0) (off := 10) rfl rfl Try.underlying31 rfl (by kernel_rfl) rfl) (fun _ _ _ h => h) ?_
        refine ga_v 3 rfl (by kernel_rfl) (by kernel_rfl) (by kernel_rfl) (.free rfl) rfl rfl (qt_loadB (n := 24) rfl rfl Try.underlying22 rfl rfl rfl) (fun _ _ _ h => h) ?_
        refine ga_v 4 rfl (by kernel_rfl) (by kernel_rfl) (by kernel_rfl) (.free rfl) rfl rfl (qt_field (z := 4) (off := 5) rfl rfl Try.underlying31 rfl (by kernel_rfl) rfl) (fun _ _ _ h => h) ?_
        refine ga_v 5 rfl (by kernel_rfl) (by kernel_rfl) (by kernel_rfl) (.free rfl) rfl rfl (qt_field (z := 0) (off := 0) rfl rfl Try.underlying29 rfl (by kernel_rfl) rfl) (fun _ _ _ h => h) ?_
        refine ga_v 6 rfl (by kernel_rfl) (by kernel_rfl) (by kernel_rfl) (.free rfl) rfl rfl (qt_loadB (n := 24) rfl rfl Try.underlying2 rfl rfl rfl) (fun _ _ _ h => h) ?_
        refine ga_op 7 (by kernel_rfl) rfl (.free rfl) fun K43 hK43 => ?_
        refine go_callPn rfl rfl rfl Try.func60 rfl (by decide) rfl (fun w M => pairNumber_any w _) ?_
        intro B42
        refine hK43 _ _ (fun w M => (mem_take 35 M :)) ?_
        refine ga_op 8 (by kernel_rfl) rfl (.free rfl) fun K45 hK45 => ?_
        refine go_callL rfl rfl rfl Try.func59 rfl (by decide) rfl (fun w M => combined_any w _ _ _ _ ((mem_own1 (n := 11) M rfl).rd) ((mem_own1 (n := 21) M rfl).rd) (by omega) (by omega) _ (fun a b => a * _ + b) (fun w' hb i j hi hj => callsV_f (bnd := []) (vs := [_, _]) (caps := [_]) Try.func122 rfl (by decide) (pairN1_any w' _ _ _ _ (bxV_below hb (bxV_of (n := 35) M rfl)) (allP_b (by first | exact l1.po | exact l1.pa) hi).1 (allP_b (by first | exact l1.po | exact l1.pa) hi).2 (allP_b (by first | exact l2.po | exact l2.pa) (show j < _ by omega)).1 (allP_b (by first | exact l2.po | exact l2.pa) (show j < _ by omega)).2 (by omega) (by omega)))) ?_
        intro va44 vc44
        refine hK45 _ _ (fun w M => (mem_take 35 M :)) ?_
        refine ga_v 9 rfl (by kernel_rfl) (by kernel_rfl) (by kernel_rfl) (.free rfl) rfl rfl (qt_assign rfl rfl) (fun _ _ _ h => h) ?_
        refine ga_done (by kernel_rfl) ?_
        refine gk_then (hK41 _ _ ?_)
        refine gc_seq fun K46 hK46 => ?_
        try simp only [List.nil_append, List.cons_append, List.append_assoc, List.set_cons_succ, List.set_cons_zero]
        refine ga_start _ (fun w M => M) ?_
        refine ga_v 0 rfl (by kernel_rfl) (by kernel_rfl) (by kernel_rfl) (.free rfl) rfl rfl (qt_field (z := 0) (off := 11) rfl rfl Try.underlying31 rfl (by kernel_rfl) rfl) (fun _ _ _ h => h) ?_
        refine ga_v 1 rfl (by kernel_rfl) (by kernel_rfl) (by kernel_rfl) (.free rfl) rfl rfl (qt_loadB (n := 23) rfl rfl Try.underlying22 rfl rfl rfl) (fun _ _ _ h => h) ?_
        refine ga_v 2 rfl (by kernel_rfl) (by kernel_rfl) (by kernel_rfl) (.free rfl) rfl rfl (qt_field (z := 0) (off := 11) rfl rfl Try.underlying31 rfl (by kernel_rfl) rfl) (fun _ _ _ h => h) ?_
        refine ga_v 3 rfl (by kernel_rfl) (by kernel_rfl) (by kernel_rfl) (.free rfl) rfl rfl (qt_loadB (n := 24) rfl rfl Try.underlying22 rfl rfl rfl) (fun _ _ _ h => h) ?_
        refine ga_v 4 rfl (by kernel_rfl) (by kernel_rfl) (by kernel_rfl) (.free rfl) rfl rfl (qt_field (z := 4) (off := 5) rfl rfl Try.underlying31 rfl (by kernel_rfl) rfl) (fun _ _ _ h => h) ?_
        refine ga_v 5 rfl (by kernel_rfl) (by kernel_rfl) (by kernel_rfl) (.free rfl) rfl rfl (qt_loadP (n := 24) (z := 5) rfl rfl Try.underlying29 rfl (by kernel_rfl) rfl (by first | decide | exact Nat.le_refl _ | simp)) (fun _ _ _ h => h) ?_
        refine ga_op 6 (by kernel_rfl) rfl (.free rfl) fun K47 hK47 => ?_
        refine go_q rfl rfl (qt_call rfl Try.func61 rfl (by decide) rfl (fun w M => arrows_any w _ _ (rdC_mk ((mem_own1 (n := 17) M rfl).rd) ((mem_own1 (n := 18) M rfl).rd) ((mem_own1 (n := 19) M rfl).rd) (mem_rdU (n := 20) M rfl)))) ?_
        refine hK47 _ _ (fun w M => (mem_take 37 M :)) ?_
        refine ga_op 7 (by kernel_rfl) rfl (.free rfl) fun K49 hK49 => ?_
        refine go_callPn rfl rfl rfl Try.func60 rfl (by decide) rfl (fun w M => pairNumber_any w _) ?_
        intro B48
        refine hK49 _ _ (fun w M => (mem_take 37 M :)) ?_
        refine ga_op 8 (by kernel_rfl) rfl (.free rfl) fun K51 hK51 => ?_
        refine go_callL rfl rfl rfl Try.func59 rfl (by decide) rfl (fun w M => combined_any w _ _ _ _ ((mem_own1 (n := 12) M rfl).rd) ((mem_own1 (n := 22) M rfl).rd) (by omega) (by omega) _ (fun a b => a * _ + b) (fun w' hb i j hi hj => callsV_f (bnd := []) (vs := [_, _]) (caps := [_]) Try.func122 rfl (by decide) (pairN1_any w' _ _ _ _ (bxV_below hb (bxV_of (n := 37) M rfl)) (allP_b (by first | exact l1.po | exact l1.pa) hi).1 (allP_b (by first | exact l1.po | exact l1.pa) hi).2 (allP_b (by first | exact l2.po | exact l2.pa) (show j < _ by omega)).1 (allP_b (by first | exact l2.po | exact l2.pa) (show j < _ by omega)).2 (by omega) (by omega)))) ?_
        intro va50 vc50
        refine hK51 _ _ (fun w M => (mem_take 37 M :)) ?_
        refine ga_v 9 rfl (by kernel_rfl) (by kernel_rfl) (by kernel_rfl) (.free rfl) rfl rfl (qt_assign rfl rfl) (fun _ _ _ h => h) ?_
        refine ga_done (by kernel_rfl) ?_
        refine gk_then (hK46 _ _ ?_)
        refine gc_seq fun K52 hK52 => ?_
        refine gc_region ?_
        refine g_v (.free rfl) rfl rfl (qt_loadS (n := 29) rfl rfl Try.underlying29 rfl (by kernel_rfl) rfl) ?_
        refine g_v (.free rfl) rfl rfl (qt_loadS (n := 34) rfl rfl Try.underlying29 rfl (by kernel_rfl) rfl) ?_
        refine g_v (.free rfl) rfl rfl (qt_move rfl rfl) ?_
        refine g_v (.free rfl) rfl rfl (qt_move rfl rfl) ?_
        refine g_v (.free rfl) rfl rfl (qt_build rfl rfl bt_Functor) ?_
        refine g_op (.free rfl) fun K53 hK53 => ?_
        refine go_storeS (n := 2) rfl rfl rfl rfl (by kernel_rfl) rfl rfl rfl ?_
        refine hK53 _ _ ?_
        refine g_v (.free rfl) rfl rfl (qt_assign rfl rfl) ?_
        refine g_nil ?_
        refine gk_then (hK52 _ _ ?_)
        refine gc_ret ?_
        refine ret_SI (n := 2) rfl rfl rfl Try.underlying31 rfl (by kernel_rfl) rfl (fun w M => ?_)
        rw [pdf_t hc0 ⟨f1, f2⟩]; exact retFI_star (F := prodFct F G) (mem_block 31 4 (mem_block 32 4 (mem_block 37 1 (mem_block 38 1 (M)))))

end Go.Proofs.Ytpfcfhjpgngneab
