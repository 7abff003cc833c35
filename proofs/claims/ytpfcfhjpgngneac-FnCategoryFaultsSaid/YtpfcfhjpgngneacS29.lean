import Derived.Test.YtpfcfhjpgngneacS28
set_option linter.unusedSimpArgs false
set_option linter.unusedVariables false
set_option linter.unusedSectionVars false
namespace Go.Proofs.Ytpfcfhjpgngneac
open Go.RowKit
theorem hom_neT {c : Cat} (hS : ShapeP c) {f g : Int} (f0 : 0 ≤ f) (f1 : f < c.s.length) (g0 : 0 ≤ g) (g1 : g < c.s.length) (he : at0 c.t f = at0 c.s g) : 0 < (homTo c (at0 c.s f) (at0 c.t g) c.s.length).length := by
  have ht := th_ends hS f0 f1 g0 g1 he
  obtain ⟨k, hk⟩ := Int.eq_ofNat_of_zero_le ht.1.1
  rw [hk] at ht
  exact List.length_pos_of_mem (mem_homTo.2 ⟨k, by omega, rfl, ht.2.1, ht.2.2⟩)
set_option maxHeartbeats 8000000 in
set_option maxRecDepth 100000 in
theorem drawTurned_any (w : World) (ca : Option Addr) (clen ccap : Nat) (h : InB w (.slice ca clen ccap)) :
    Calls Try.prog 98 #[.slice ca clen ccap] w (RetHV w (fun c (_ : Unit) => DrawP c) (fun _ v => v)) := by
  go_enter Try.func98, Try.ntmps98
  refine gc_enter (N := 76) rfl (look_cons (k := 0) rfl (look_nil _)) ?_
  refine gc_seq fun K1 hK1 => ?_
  refine gc_region ?_
  refine g_op (.free rfl) fun K3 hK3 => ?_
  refine go_alloc (z := (.agg #[.int .i64 0, .slice none 0 0, .slice none 0 0, .slice none 0 0, .slice none 0 0])) (cs := [.int .i64 0, .slice none 0 0, .slice none 0 0, .slice none 0 0, .slice none 0 0]) rfl rfl rfl (fun w => by kernel_rfl) rfl ?_
  intro B2
  refine hK3 _ _ ?_
  refine g_nil ?_
  refine gk_then (hK1 _ _ ?_)
  refine gc_seq fun K4 hK4 => ?_
  refine gc_region ?_
  refine g_v (.free rfl) rfl rfl (qt_move rfl rfl) ?_
  refine g_op (.free rfl) fun K6 hK6 => ?_
  refine go_srcFrom rfl rfl rfl Try.func63 rfl (by decide) rfl h ?_
  intro g; refine gk_pickL [1, 0] ?_
  refine hK6 _ _ ?_
  refine g_v (.free rfl) rfl rfl (qt_assign rfl rfl) ?_
  refine g_nil ?_
  refine gk_then (hK4 _ _ ?_)
  refine gc_seq fun K7 hK7 => ?_
  refine gc_region ?_
  refine g_v (.free rfl) rfl rfl (qt_move rfl rfl) ?_
  refine g_op (.free rfl) fun K9 hK9 => ?_
  refine go_callMC (P := SomeP 8 24) rfl rfl rfl Try.func132 rfl (by decide) rfl rfl (fun w M => specSome_any _ w ca clen ccap g _ h 8 24 (by decide) (by decide) M) ?_
  intro c ca8 cb8 cc8 cd8 ce8 cf8 cg8 ch8 cu8 hsome
  refine hK9 _ _ ?_
  refine g_op (.free rfl) fun K11 hK11 => ?_
  refine go_alloc (z := (.agg #[.int .i64 0, .slice none 0 0, .slice none 0 0, .slice none 0 0, .slice none 0 0])) (cs := [.int .i64 0, .slice none 0 0, .slice none 0 0, .slice none 0 0, .slice none 0 0]) rfl rfl rfl (fun w => by kernel_rfl) rfl ?_
  intro B10
  refine hK11 _ _ ?_
  refine g_op (.free rfl) fun K12 hK12 => ?_
  refine go_storeS (n := 6) rfl rfl rfl rfl (by kernel_rfl) rfl rfl rfl ?_
  refine hK12 _ _ ?_
  refine g_nil ?_
  refine gk_then (hK7 _ _ ?_)
  refine gc_seq fun K13 hK13 => ?_
  refine gc_seq fun K14 hK14 => ?_
  have hS := hsome.1
  have hn40 := hS.n40; have htl := hS.tl; have hel := hS.el; have hob0 := hS.ob0; have hob8 := hS.ob8; have hml := hS.ml
  refine gc_region ?_
  refine g_v (.free rfl) rfl rfl (qt_move rfl rfl) ?_
  refine g_op (.free rfl) fun K16 hK16 => ?_
  refine go_srcNext (n := 0) rfl rfl rfl Try.func71 rfl (by decide) rfl h rfl (by omega) ?_
  intro rX0 hX0
  refine hK16 _ _ ?_
  refine g_nil ?_
  refine gk_then (hK14 _ _ ?_)
  refine gc_block ?_
  refine gc_seq fun K17 hK17 => ?_
  refine gc_region ?_
  refine g_v (.free rfl) rfl rfl (qt_eql rfl rfl rfl) ?_
  refine g_v (.free rfl) rfl rfl (qt_assign rfl rfl) ?_
  refine g_nil ?_
  refine gk_then (hK17 _ _ ?_)
  refine gc_cond rfl (fun hc0 => ?_) (fun hc0 => ?_)
  · try simp only [decide_eq_true_eq, decide_eq_false_iff_not, Bool.not_eq_true', Bool.not_eq_false', Bool.not_eq_eq_eq_not, Bool.not_true, Bool.not_false, ne_eq, Decidable.not_not, Classical.not_not] at hc0
    refine gc_seq fun K18 hK18 => ?_
    refine gc_region ?_
    refine g_v (.free rfl) rfl rfl (qt_move rfl rfl) ?_
    refine g_v (.free rfl) rfl rfl (qt_loadS (n := 6) rfl rfl Try.underlying27 rfl (by kernel_rfl) rfl) ?_
    refine g_op (.free rfl) fun K20 hK20 => ?_
    refine go_callMH (P := DrawP) rfl rfl rfl Try.func133 rfl (by decide) rfl rfl (fun w M => specBend_any _ w ca clen ccap g _ h _ _ _ _ _ _ _ _ _ (fun w S h => star_rdC 1 2 3 4 rfl rfl rfl rfl h) hsome.1 M) ?_
    intro bz19 ba19 bb19 bc19 bd19 be19 bf19 bg19 bh19 hdraw
    refine hK20 _ _ ?_
    refine g_op (.free rfl) fun K21 hK21 => ?_
    refine go_storeS (n := 1) rfl rfl rfl rfl (by kernel_rfl) rfl rfl rfl ?_
    refine hK21 _ _ ?_
    refine g_nil ?_
    refine gk_then (hK18 _ _ ?_)
    refine gc_ret ?_
    refine gk_block_ret ?_
    refine gk_then_ret ?_
    refine ret_S (n := 1) rfl rfl Try.underlying27 rfl (by kernel_rfl) rfl (fun w M => ?_)
    exact ⟨_, _, (), hdraw, rfl, M.1, mem_heldP (n := 7) M rfl⟩
  · try simp only [decide_eq_true_eq, decide_eq_false_iff_not, Bool.not_eq_true', Bool.not_eq_false', Bool.not_eq_eq_eq_not, Bool.not_true, Bool.not_false, ne_eq, Decidable.not_not, Classical.not_not] at hc0
    refine gc_seq fun K22 hK22 => ?_
    refine gc_seq fun K23 hK23 => ?_
    refine gc_region ?_
    refine g_v (.free rfl) rfl rfl (qt_eql rfl rfl rfl) ?_
    refine g_v (.free rfl) rfl rfl (qt_assign rfl rfl) ?_
    refine g_nil ?_
    refine gk_then (hK23 _ _ ?_)
    refine gc_cond rfl (fun hc1 => ?_) (fun hc1 => ?_)
    · try simp only [decide_eq_true_eq, decide_eq_false_iff_not, Bool.not_eq_true', Bool.not_eq_false', Bool.not_eq_eq_eq_not, Bool.not_true, Bool.not_false, ne_eq, Decidable.not_not, Classical.not_not] at hc1
      refine gc_skip ?_
      refine gk_then (hK22 _ _ ?_)
      refine gc_cond rfl (fun hc2 => ?_) (fun hc2 => ?_)
      · try simp only [decide_eq_true_eq, decide_eq_false_iff_not, Bool.not_eq_true', Bool.not_eq_false', Bool.not_eq_eq_eq_not, Bool.not_true, Bool.not_false, ne_eq, Decidable.not_not, Classical.not_not] at hc2
        refine gc_seq fun K24 hK24 => ?_
        refine gc_region ?_
        refine g_v (.free rfl) rfl rfl (qt_loadS (n := 6) rfl rfl Try.underlying27 rfl (by kernel_rfl) rfl) ?_
        refine g_op (.free rfl) fun K26 hK26 => ?_
        refine go_callC rfl rfl rfl Try.func147 rfl (by decide) rfl (fun w M => specOwnC_any w _ _ (rdC_mk ((mem_own1 (n := 2) M rfl).rd) ((mem_own1 (n := 3) M rfl).rd) ((mem_own1 (n := 4) M rfl).rd) (mem_rdU (n := 5) M rfl))) ?_
        intro ca25 cb25 cc25 cd25 ce25 cf25 cg25 ch25 cu25
        refine hK26 _ _ ?_
        refine g_op (.free rfl) fun K27 hK27 => ?_
        refine go_storeS (n := 6) rfl rfl rfl rfl (by kernel_rfl) rfl rfl rfl ?_
        refine hK27 _ _ ?_
        refine g_nil ?_
        refine gk_then (hK24 _ _ ?_)
        refine gc_seq fun K28 hK28 => ?_
        refine gc_region ?_
        refine g_v (.free rfl) rfl rfl (qt_field (z := 0) (off := 1) rfl rfl Try.underlying27 rfl (by kernel_rfl) rfl) ?_
        refine g_v (.free rfl) rfl rfl (qt_loadB (n := 6) rfl rfl Try.underlying24 rfl rfl rfl) ?_
        refine g_v (.free rfl) rfl rfl (qt_len rfl rfl ulE1 (fun w M => lenV_own1 (n := 7) rfl M)) ?_
        refine g_v (.free rfl) rfl rfl (qt_assign rfl rfl) ?_
        refine g_nil ?_
        refine gk_then (hK28 _ _ ?_)
        refine gc_seq fun K29 hK29 => ?_
        refine gc_region ?_
        refine g_v (.free rfl) rfl rfl (qt_move rfl rfl) ?_
        refine g_v (.free rfl) rfl rfl (qt_move rfl rfl) ?_
        refine g_op (.free rfl) fun K31 hK31 => ?_
        refine go_srcNext (n := 0) rfl rfl rfl Try.func71 rfl (by decide) rfl h rfl (by omega) ?_
        intro rX0 hX0
        refine hK31 _ _ ?_
        refine g_v (.free rfl) rfl rfl (qt_move rfl rfl) ?_
        refine g_v (.free rfl) rfl rfl (qt_move rfl rfl) ?_
        refine g_op (.free rfl) fun K33 hK33 => ?_
        refine go_srcNext (n := 0) rfl rfl rfl Try.func71 rfl (by decide) rfl h rfl (by omega) ?_
        intro rX1 hX1
        refine hK33 _ _ ?_
        refine g_v (.free rfl) rfl rfl (qt_assign rfl rfl) ?_
        refine g_v (.free rfl) rfl rfl (qt_assign rfl rfl) ?_
        refine g_nil ?_
        refine gk_then (hK29 _ _ ?_)
        refine gc_seq fun K34 hK34 => ?_
        refine gc_draw (by kernel_rfl) ?_
        refine gd_v (.free rfl) rfl rfl (qt_move rfl rfl) ?_
        refine gd_v (.free rfl) rfl rfl (qt_gtr rfl rfl rfl) ?_
        refine gd_splitv (.free rfl) rfl rfl (qt_move rfl rfl) (fun hs11_2 => ?_) (fun hs11_2 => ?_)
        · try simp only [decide_eq_true_eq, decide_eq_false_iff_not, Bool.not_eq_true', Bool.not_eq_false', Bool.not_eq_eq_eq_not, Bool.not_true, Bool.not_false, ne_eq, Decidable.not_not, Classical.not_not] at hs11_2
          refine gd_v (.held _ _ _ rfl rfl rfl) rfl rfl (qt_field (z := 0) (off := 2) rfl rfl Try.underlying27 rfl (by kernel_rfl) rfl) ?_
          refine gd_v (.held _ _ _ rfl rfl rfl) rfl rfl (qt_loadB (n := 6) rfl rfl Try.underlying24 rfl rfl rfl) ?_
          refine gd_v (.held _ _ _ rfl rfl rfl) rfl rfl (qt_move rfl rfl) ?_
          refine gd_v (.held _ _ _ rfl rfl rfl) rfl rfl (qt_index rfl rfl rfl ulE1 szE1 (fun w M => lenA_own1 (n := 8) rfl M) (by omega) (by omega)) ?_
          refine gd_v (.held _ _ _ rfl rfl rfl) rfl rfl (qt_load1 rfl rfl Try.underlying2 rfl (fun w M => (mem_own1 (n := 8) M rfl).rd) (by omega) (by omega)) ?_
          refine gd_v (.held _ _ _ rfl rfl rfl) rfl rfl (qt_field (z := 0) (off := 1) rfl rfl Try.underlying27 rfl (by kernel_rfl) rfl) ?_
          refine gd_v (.held _ _ _ rfl rfl rfl) rfl rfl (qt_loadB (n := 6) rfl rfl Try.underlying24 rfl rfl rfl) ?_
          refine gd_v (.held _ _ _ rfl rfl rfl) rfl rfl (qt_move rfl rfl) ?_
          refine gd_v (.held _ _ _ rfl rfl rfl) rfl rfl (qt_index rfl rfl rfl ulE1 szE1 (fun w M => lenA_own1 (n := 7) rfl M) (by omega) (by omega)) ?_
          refine gd_v (.held _ _ _ rfl rfl rfl) rfl rfl (qt_load1 rfl rfl Try.underlying2 rfl (fun w M => (mem_own1 (n := 7) M rfl).rd) (by omega) (by omega)) ?_
          refine gd_v (.held _ _ _ rfl rfl rfl) rfl rfl (qt_eql rfl rfl rfl) ?_
          refine gd_v (.free rfl) rfl rfl (qt_pick_t rfl rfl rfl) ?_
          refine gd_nil ?_
          refine gk_then (hK34 _ _ ?_)
          refine gc_cond rfl (fun hc3 => ?_) (fun hc3 => ?_)
          · try simp only [decide_eq_true_eq, decide_eq_false_iff_not, Bool.not_eq_true', Bool.not_eq_false', Bool.not_eq_eq_eq_not, Bool.not_true, Bool.not_false, ne_eq, Decidable.not_not, Classical.not_not] at hc3
            refine gc_seq fun K35 hK35 => ?_
            try simp only [List.nil_append, List.cons_append, List.append_assoc, List.set_cons_succ, List.set_cons_zero]
            refine ga_start _ (fun w M => M) ?_
            refine ga_v 0 rfl (by kernel_rfl) (by kernel_rfl) (by kernel_rfl) (.free rfl) rfl rfl (qt_loadS (n := 6) rfl rfl Try.underlying27 rfl (by kernel_rfl) rfl) (fun _ _ _ h => h) ?_
            refine ga_v 1 rfl (by kernel_rfl) (by kernel_rfl) (by kernel_rfl) (.free rfl) rfl rfl (qt_field (z := 0) (off := 1) rfl rfl Try.underlying27 rfl (by kernel_rfl) rfl) (fun _ _ _ h => h) ?_
            refine ga_v 2 rfl (by kernel_rfl) (by kernel_rfl) (by kernel_rfl) (.free rfl) rfl rfl (qt_loadB (n := 6) rfl rfl Try.underlying24 rfl rfl rfl) (fun _ _ _ h => h) ?_
            refine ga_v 3 rfl (by kernel_rfl) (by kernel_rfl) (by kernel_rfl) (.free rfl) rfl rfl (qt_move rfl rfl) (fun _ _ _ h => h) ?_
            refine ga_v 4 rfl (by kernel_rfl) (by kernel_rfl) (by kernel_rfl) (.free rfl) rfl rfl (qt_index rfl rfl rfl ulE1 szE1 (fun w M => lenA_own1 (n := 7) rfl M) (by omega) (by omega)) (fun _ _ _ h => h) ?_
            refine ga_v 5 rfl (by kernel_rfl) (by kernel_rfl) (by kernel_rfl) (.free rfl) rfl rfl (qt_load1 rfl rfl Try.underlying2 rfl (fun w M => (mem_own1 (n := 7) M rfl).rd) (by omega) (by omega)) (fun _ _ _ h => h) ?_
            refine ga_v 6 rfl (by kernel_rfl) (by kernel_rfl) (by kernel_rfl) (.free rfl) rfl rfl (qt_field (z := 0) (off := 2) rfl rfl Try.underlying27 rfl (by kernel_rfl) rfl) (fun _ _ _ h => h) ?_
            refine ga_v 7 rfl (by kernel_rfl) (by kernel_rfl) (by kernel_rfl) (.free rfl) rfl rfl (qt_loadB (n := 6) rfl rfl Try.underlying24 rfl rfl rfl) (fun _ _ _ h => h) ?_
            refine ga_v 8 rfl (by kernel_rfl) (by kernel_rfl) (by kernel_rfl) (.free rfl) rfl rfl (qt_move rfl rfl) (fun _ _ _ h => h) ?_
            refine ga_v 9 rfl (by kernel_rfl) (by kernel_rfl) (by kernel_rfl) (.free rfl) rfl rfl (qt_index rfl rfl rfl ulE1 szE1 (fun w M => lenA_own1 (n := 8) rfl M) (by omega) (by omega)) (fun _ _ _ h => h) ?_
            refine ga_v 10 rfl (by kernel_rfl) (by kernel_rfl) (by kernel_rfl) (.free rfl) rfl rfl (qt_load1 rfl rfl Try.underlying2 rfl (fun w M => (mem_own1 (n := 8) M rfl).rd) (by omega) (by omega)) (fun _ _ _ h => h) ?_
            refine ga_op 11 (by kernel_rfl) rfl (.free rfl) fun K37 hK37 => ?_
            refine go_callL rfl rfl rfl Try.func148 rfl (by decide) rfl (fun w M => specHom_any w _ _ _ _ (rdC_mk ((mem_own1 (n := 7) M rfl).rd) ((mem_own1 (n := 8) M rfl).rd) ((mem_own1 (n := 9) M rfl).rd) (mem_rdU (n := 10) M rfl)) (by first | assumption | omega)) ?_
            intro va36 vc36
            refine hK37 _ _ (fun w M => (mem_take 11 M :)) ?_
            refine ga_v 12 rfl (by kernel_rfl) (by kernel_rfl) (by kernel_rfl) (.free rfl) rfl rfl (qt_assign rfl rfl) (fun _ _ _ h => h) ?_
            refine ga_done (by kernel_rfl) ?_
            refine gk_then (hK35 _ _ ?_)
            have hle := homTo_len c (at0 c.s (rX0 : Int)) (at0 c.t (rX1 : Int)) c.s.length
            have hne := hom_neT hS (f := (rX0 : Int)) (g := (rX1 : Int)) (by omega) (by omega) (by omega) (by omega) (by assumption)
            have hrl : (row2 c.m (rX0 : Int)).length = c.s.length := by rw [row2_of, Int.toNat_natCast]; exact hS.rl _ (by omega)
            try simp only [List.nil_append, List.cons_append, List.append_assoc, List.set_cons_succ, List.set_cons_zero]
            refine ga_start _ (fun w M => mem_erase 0 (mem_erase 10 (M))) ?_
            refine ga_v 0 rfl (by kernel_rfl) (by kernel_rfl) (by kernel_rfl) (.free rfl) rfl rfl (qt_field (z := 0) (off := 4) rfl rfl Try.underlying27 rfl (by kernel_rfl) rfl) (fun _ _ _ h => h) ?_
            refine ga_v 1 rfl (by kernel_rfl) (by kernel_rfl) (by kernel_rfl) (.free rfl) rfl rfl (qt_loadB (n := 5) rfl rfl Try.underlying25 rfl rfl rfl) (fun _ _ _ h => h) ?_
            refine ga_v 2 rfl (by kernel_rfl) (by kernel_rfl) (by kernel_rfl) (.free rfl) rfl rfl (qt_move rfl rfl) (fun _ _ _ h => h) ?_
            refine ga_v 5 rfl (by kernel_rfl) (by kernel_rfl) (by kernel_rfl) (.free rfl) rfl rfl (qt_move rfl rfl) (fun _ _ _ h => h) ?_
            refine ga_v 6 rfl (by kernel_rfl) (by kernel_rfl) (by kernel_rfl) (.free rfl) rfl rfl (qt_move rfl rfl) (fun _ _ _ h => h) ?_
            refine ga_v 7 rfl (by kernel_rfl) (by kernel_rfl) (by kernel_rfl) (.free rfl) rfl rfl (qt_move rfl rfl) (fun _ _ _ h => h) ?_
            refine ga_v 8 rfl (by kernel_rfl) (by kernel_rfl) (by kernel_rfl) (.free rfl) rfl rfl (qt_move rfl rfl) (fun _ _ _ h => h) ?_
            refine ga_v 9 rfl (by kernel_rfl) (by kernel_rfl) (by kernel_rfl) (.free rfl) rfl rfl (qt_len rfl rfl ulE1 (fun w M => lenV_own1 (n := 9) rfl M)) (fun _ _ _ h => h) ?_
            refine ga_two 3 10 (by kernel_rfl) rfl rfl (.free rfl) (.free rfl) (fun K38 hK38 => ?_) (fun K38 hK38 => ?_)
            · refine go_v rfl rfl (qt_index rfl rfl rfl ulE2 szE2 (fun w M => lenA_U (n := 10) rfl M) (by omega) (by omega)) ?_
              refine hK38 _ _ (fun w M => (mem_erase 0 (mem_erase 10 (mem_take 12 M)) :)) ?_
              refine ga_two 4 10 (by kernel_rfl) rfl rfl (.free rfl) (.free rfl) (fun K40 hK40 => ?_) (fun K40 hK40 => ?_)
              · refine go_v rfl rfl (qt_loadU (n := 10) rfl rfl Try.underlying24 rfl rfl (by omega) (by omega)) ?_
                refine hK40 _ _ (fun w M => (mem_erase 0 (mem_erase 10 (mem_take 12 M)) :)) ?_
                refine ga_op 10 (by kernel_rfl) rfl (.free rfl) fun K43 hK43 => ?_
                refine go_srcNext (n := 0) rfl rfl rfl Try.func71 rfl (by decide) rfl h rfl (by omega) ?_
                intro rX0 hX0
                refine hK43 _ _ (fun w M => (mem_erase 0 (mem_erase 10 (mem_take 12 M)) :)) ?_
                refine ga_v 11 rfl (by kernel_rfl) (by kernel_rfl) (by kernel_rfl) (.free rfl) rfl rfl (qt_index rfl rfl rfl ulE1 szE1 (fun w M => lenA_own1 (n := 9) rfl M) (by omega) (by omega)) (fun _ _ _ h => h) ?_
                refine ga_v 12 rfl (by kernel_rfl) (by kernel_rfl) (by kernel_rfl) (.free rfl) rfl rfl (qt_load1 rfl rfl Try.underlying2 rfl (fun w M => (mem_own1 (n := 9) M rfl).rd) (by omega) (by omega)) (fun _ _ _ h => h) ?_
                refine ga_op 13 (by kernel_rfl) rfl (.free rfl) fun K44 hK44 => ?_
                refine go_v rfl rfl (qt_index rfl rfl rfl ulE1 szE1 (fun w M => lenA_row (n := 10) rfl (by omega) (by omega) M) (by omega) (by omega)) ?_
                refine hK44 _ _ (fun w M => (mem_erase 0 (mem_erase 10 (mem_take 12 M)) :)) ?_
                refine ga_op 14 (by kernel_rfl) rfl (.free rfl) fun K45 hK45 => ?_
                refine go_storeU (n := 10) rfl rfl rfl rfl (by kernel_rfl) rfl (by omega) (by omega) (by omega) (by omega) ?_
                refine hK45 _ _ (fun w M => (mem_erase 0 (mem_erase 10 (mem_take 12 M)) :)) ?_
                refine ga_done (by kernel_rfl) ?_
                refine gk_block ?_
                refine gk_then (hK13 _ _ ?_)
                refine gc_seq fun K46 hK46 => ?_
                refine gc_region ?_
                refine g_v (.free rfl) rfl rfl (qt_loadS (n := 6) rfl rfl Try.underlying27 rfl (by kernel_rfl) rfl) ?_
                refine g_op (.free rfl) fun K47 hK47 => ?_
                refine go_storeS (n := 1) rfl rfl rfl rfl (by kernel_rfl) rfl rfl rfl ?_
                refine hK47 _ _ ?_
                refine g_nil ?_
                refine gk_then (hK46 _ _ ?_)
                refine gc_ret ?_
                refine ret_S (n := 1) rfl rfl Try.underlying27 rfl (by kernel_rfl) rfl (fun w M => ?_)
                exact ⟨⟨_, _, _, _, _⟩, _, (), (by refine ⟨?_, ?_, ?_, ?_, ?_, ?_⟩ <;> (dsimp only; (try simp only [List.length_append, List.length_set, List.length_cons, List.length_nil]); omega)), rfl, M.1, mem_heldP (n := 0) (mem_packH [] (mem_take 4 (mem_pick (n := 10) (mem_pick (n := 10) (mem_pick (n := 10) (mem_pick (n := 10) (M) rfl) rfl) rfl) rfl))) rfl⟩
              · refine go_srcNext (n := 0) rfl rfl rfl Try.func71 rfl (by decide) rfl h rfl (by omega) ?_
                intro rX0 hX0
                refine hK40 _ _ (fun w M => (mem_erase 0 (mem_erase 10 (mem_take 12 M)) :)) ?_
                refine ga_v 11 rfl (by kernel_rfl) (by kernel_rfl) (by kernel_rfl) (.free rfl) rfl rfl (qt_index rfl rfl rfl ulE1 szE1 (fun w M => lenA_own1 (n := 9) rfl M) (by omega) (by omega)) (fun _ _ _ h => h) ?_
                refine ga_v 12 rfl (by kernel_rfl) (by kernel_rfl) (by kernel_rfl) (.free rfl) rfl rfl (qt_load1 rfl rfl Try.underlying2 rfl (fun w M => (mem_own1 (n := 9) M rfl).rd) (by omega) (by omega)) (fun _ _ _ h => h) ?_
                refine ga_op 4 (by kernel_rfl) rfl (.free rfl) fun K50 hK50 => ?_
                refine go_v rfl rfl (qt_loadU (n := 10) rfl rfl Try.underlying24 rfl rfl (by omega) (by omega)) ?_
                refine hK50 _ _ (fun w M => (mem_erase 0 (mem_erase 10 (mem_take 12 M)) :)) ?_
                refine ga_op 13 (by kernel_rfl) rfl (.free rfl) fun K51 hK51 => ?_
                refine go_v rfl rfl (qt_index rfl rfl rfl ulE1 szE1 (fun w M => lenA_row (n := 10) rfl (by omega) (by omega) M) (by omega) (by omega)) ?_
                refine hK51 _ _ (fun w M => (mem_erase 0 (mem_erase 10 (mem_take 12 M)) :)) ?_
                refine ga_op 14 (by kernel_rfl) rfl (.free rfl) fun K52 hK52 => ?_
                refine go_storeU (n := 10) rfl rfl rfl rfl (by kernel_rfl) rfl (by omega) (by omega) (by omega) (by omega) ?_
                refine hK52 _ _ (fun w M => (mem_erase 0 (mem_erase 10 (mem_take 12 M)) :)) ?_
                refine ga_done (by kernel_rfl) ?_
                refine gk_block ?_
                refine gk_then (hK13 _ _ ?_)
                refine gc_seq fun K53 hK53 => ?_
                refine gc_region ?_
                refine g_v (.free rfl) rfl rfl (qt_loadS (n := 6) rfl rfl Try.underlying27 rfl (by kernel_rfl) rfl) ?_
                refine g_op (.free rfl) fun K54 hK54 => ?_
                refine go_storeS (n := 1) rfl rfl rfl rfl (by kernel_rfl) rfl rfl rfl ?_
                refine hK54 _ _ ?_
                refine g_nil ?_
                refine gk_then (hK53 _ _ ?_)
                refine gc_ret ?_
                refine ret_S (n := 1) rfl rfl Try.underlying27 rfl (by kernel_rfl) rfl (fun w M => ?_)
                exact ⟨⟨_, _, _, _, _⟩, _, (), (by refine ⟨?_, ?_, ?_, ?_, ?_, ?_⟩ <;> (dsimp only; (try simp only [List.length_append, List.length_set, List.length_cons, List.length_nil]); omega)), rfl, M.1, mem_heldP (n := 0) (mem_packH [] (mem_take 4 (mem_pick (n := 10) (mem_pick (n := 10) (mem_pick (n := 10) (mem_pick (n := 10) (M) rfl) rfl) rfl) rfl))) rfl⟩
            · refine go_srcNext (n := 0) rfl rfl rfl Try.func71 rfl (by decide) rfl h rfl (by omega) ?_
              intro rX0 hX0
              refine hK38 _ _ (fun w M => (mem_erase 0 (mem_erase 10 (mem_take 12 M)) :)) ?_
              refine ga_v 11 rfl (by kernel_rfl) (by kernel_rfl) (by kernel_rfl) (.free rfl) rfl rfl (qt_index rfl rfl rfl ulE1 szE1 (fun w M => lenA_own1 (n := 9) rfl M) (by omega) (by omega)) (fun _ _ _ h => h) ?_
              refine ga_v 12 rfl (by kernel_rfl) (by kernel_rfl) (by kernel_rfl) (.free rfl) rfl rfl (qt_load1 rfl rfl Try.underlying2 rfl (fun w M => (mem_own1 (n := 9) M rfl).rd) (by omega) (by omega)) (fun _ _ _ h => h) ?_
              refine ga_op 3 (by kernel_rfl) rfl (.free rfl) fun K57 hK57 => ?_
              refine go_v rfl rfl (qt_index rfl rfl rfl ulE2 szE2 (fun w M => lenA_U (n := 10) rfl M) (by omega) (by omega)) ?_
              refine hK57 _ _ (fun w M => (mem_erase 0 (mem_erase 10 (mem_take 12 M)) :)) ?_
              refine ga_op 4 (by kernel_rfl) rfl (.free rfl) fun K58 hK58 => ?_
              refine go_v rfl rfl (qt_loadU (n := 10) rfl rfl Try.underlying24 rfl rfl (by omega) (by omega)) ?_
              refine hK58 _ _ (fun w M => (mem_erase 0 (mem_erase 10 (mem_take 12 M)) :)) ?_
              refine ga_op 13 (by kernel_rfl) rfl (.free rfl) fun K59 hK59 => ?_
              refine go_v rfl rfl (qt_index rfl rfl rfl ulE1 szE1 (fun w M => lenA_row (n := 10) rfl (by omega) (by omega) M) (by omega) (by omega)) ?_
              refine hK59 _ _ (fun w M => (mem_erase 0 (mem_erase 10 (mem_take 12 M)) :)) ?_
              refine ga_op 14 (by kernel_rfl) rfl (.free rfl) fun K60 hK60 => ?_
              refine go_storeU (n := 10) rfl rfl rfl rfl (by kernel_rfl) rfl (by omega) (by omega) (by omega) (by omega) ?_
              refine hK60 _ _ (fun w M => (mem_erase 0 (mem_erase 10 (mem_take 12 M)) :)) ?_
              refine ga_done (by kernel_rfl) ?_
              refine gk_block ?_
              refine gk_then (hK13 _ _ ?_)
              refine gc_seq fun K61 hK61 => ?_
              refine gc_region ?_
              refine g_v (.free rfl) rfl rfl (qt_loadS (n := 6) rfl rfl Try.underlying27 rfl (by kernel_rfl) rfl) ?_
              refine g_op (.free rfl) fun K62 hK62 => ?_
              refine go_storeS (n := 1) rfl rfl rfl rfl (by kernel_rfl) rfl rfl rfl ?_
              refine hK62 _ _ ?_
              refine g_nil ?_
              refine gk_then (hK61 _ _ ?_)
              refine gc_ret ?_
              refine ret_S (n := 1) rfl rfl Try.underlying27 rfl (by kernel_rfl) rfl (fun w M => ?_)
              exact ⟨⟨_, _, _, _, _⟩, _, (), (by refine ⟨?_, ?_, ?_, ?_, ?_, ?_⟩ <;> (dsimp only; (try simp only [List.length_append, List.length_set, List.length_cons, List.length_nil]); omega)), rfl, M.1, mem_heldP (n := 0) (mem_packH [] (mem_take 4 (mem_pick (n := 10) (mem_pick (n := 10) (mem_pick (n := 10) (mem_pick (n := 10) (M) rfl) rfl) rfl) rfl))) rfl⟩
          · try simp only [decide_eq_true_eq, decide_eq_false_iff_not, Bool.not_eq_true', Bool.not_eq_false', Bool.not_eq_eq_eq_not, Bool.not_true, Bool.not_false, ne_eq, Decidable.not_not, Classical.not_not] at hc3
            refine gc_skip ?_
            refine gk_block ?_
            refine gk_then (hK13 _ _ ?_)
            refine gc_seq fun K63 hK63 => ?_
            refine gc_region ?_
            refine g_v (.free rfl) rfl rfl (qt_loadS (n := 6) rfl rfl Try.underlying27 rfl (by kernel_rfl) rfl) ?_
            refine g_op (.free rfl) fun K64 hK64 => ?_
            refine go_storeS (n := 1) rfl rfl rfl rfl (by kernel_rfl) rfl rfl rfl ?_
            refine hK64 _ _ ?_
            refine g_nil ?_
            refine gk_then (hK63 _ _ ?_)
            refine gc_ret ?_
            refine ret_S (n := 1) rfl rfl Try.underlying27 rfl (by kernel_rfl) rfl (fun w M => ?_)
            exact ⟨⟨_, _, _, _, _⟩, _, (), (by refine ⟨?_, ?_, ?_, ?_, ?_, ?_⟩ <;> (dsimp only; (try simp only [List.length_append, List.length_set, List.length_cons, List.length_nil]); omega)), rfl, M.1, mem_heldP (n := 0) (mem_packH [] (mem_take 4 (mem_pick (n := 10) (mem_pick (n := 10) (mem_pick (n := 10) (mem_pick (n := 10) (M) rfl) rfl) rfl) rfl))) rfl⟩
        · try simp only [decide_eq_true_eq, decide_eq_false_iff_not, Bool.not_eq_true', Bool.not_eq_false', Bool.not_eq_eq_eq_not, Bool.not_true, Bool.not_false, ne_eq, Decidable.not_not, Classical.not_not] at hs11_2
          refine gd_skip (.not _ _ _ _ rfl rfl rfl rfl) rfl rfl ?_
          refine gd_skip (.not _ _ _ _ rfl rfl rfl rfl) rfl rfl ?_
          refine gd_skip (.not _ _ _ _ rfl rfl rfl rfl) rfl rfl ?_
          refine gd_skip (.not _ _ _ _ rfl rfl rfl rfl) rfl rfl ?_
          refine gd_skip (.not _ _ _ _ rfl rfl rfl rfl) rfl rfl ?_
          refine gd_skip (.not _ _ _ _ rfl rfl rfl rfl) rfl rfl ?_
          refine gd_skip (.not _ _ _ _ rfl rfl rfl rfl) rfl rfl ?_
          refine gd_skip (.not _ _ _ _ rfl rfl rfl rfl) rfl rfl ?_
          refine gd_skip (.not _ _ _ _ rfl rfl rfl rfl) rfl rfl ?_
          refine gd_skip (.not _ _ _ _ rfl rfl rfl rfl) rfl rfl ?_
          refine gd_skip (.not _ _ _ _ rfl rfl rfl rfl) rfl rfl ?_
          refine gd_v (.free rfl) rfl rfl (qt_pick_f rfl rfl rfl) ?_
          refine gd_nil ?_
          refine gk_then (hK34 _ _ ?_)
          refine gc_cond_f rfl ?_
          refine gc_skip ?_
          refine gk_block ?_
          refine gk_then (hK13 _ _ ?_)
          refine gc_seq fun K65 hK65 => ?_
          refine gc_region ?_
          refine g_v (.free rfl) rfl rfl (qt_loadS (n := 6) rfl rfl Try.underlying27 rfl (by kernel_rfl) rfl) ?_
          refine g_op (.free rfl) fun K66 hK66 => ?_
          refine go_storeS (n := 1) rfl rfl rfl rfl (by kernel_rfl) rfl rfl rfl ?_
          refine hK66 _ _ ?_
          refine g_nil ?_
          refine gk_then (hK65 _ _ ?_)
          refine gc_ret ?_
          refine ret_S (n := 1) rfl rfl Try.underlying27 rfl (by kernel_rfl) rfl (fun w M => ?_)
          exact ⟨⟨_, _, _, _, _⟩, _, (), (by refine ⟨?_, ?_, ?_, ?_, ?_, ?_⟩ <;> (dsimp only; (try simp only [List.length_append, List.length_set, List.length_cons, List.length_nil]); omega)), rfl, M.1, mem_heldP (n := 0) (mem_packH [] (mem_take 4 (mem_pick (n := 10) (mem_pick (n := 10) (mem_pick (n := 10) (mem_pick (n := 10) (M) rfl) rfl) rfl) rfl))) rfl⟩
      · try simp only [decide_eq_true_eq, decide_eq_false_iff_not, Bool.not_eq_true', Bool.not_eq_false', Bool.not_eq_eq_eq_not, Bool.not_true, Bool.not_false, ne_eq, Decidable.not_not, Classical.not_not] at hc2
        refine gc_skip ?_
        refine gk_block ?_
        refine gk_then (hK13 _ _ ?_)
        refine gc_seq fun K67 hK67 => ?_
        refine gc_region ?_
        refine g_v (.free rfl) rfl rfl (qt_loadS (n := 6) rfl rfl Try.underlying27 rfl (by kernel_rfl) rfl) ?_
        refine g_op (.free rfl) fun K68 hK68 => ?_
        refine go_storeS (n := 1) rfl rfl rfl rfl (by kernel_rfl) rfl rfl rfl ?_
        refine hK68 _ _ ?_
        refine g_nil ?_
        refine gk_then (hK67 _ _ ?_)
        refine gc_ret ?_
        refine ret_S (n := 1) rfl rfl Try.underlying27 rfl (by kernel_rfl) rfl (fun w M => ?_)
        exact ⟨⟨_, _, _, _, _⟩, _, (), (by refine ⟨?_, ?_, ?_, ?_, ?_, ?_⟩ <;> (dsimp only; (try simp only [List.length_append, List.length_set, List.length_cons, List.length_nil]); omega)), rfl, M.1, mem_heldP (n := 0) (mem_packH [] (mem_take 4 (mem_pick (n := 5) (mem_pick (n := 5) (mem_pick (n := 5) (mem_pick (n := 5) (M) rfl) rfl) rfl) rfl))) rfl⟩
    · try simp only [decide_eq_true_eq, decide_eq_false_iff_not, Bool.not_eq_true', Bool.not_eq_false', Bool.not_eq_eq_eq_not, Bool.not_true, Bool.not_false, ne_eq, Decidable.not_not, Classical.not_not] at hc1
      refine gc_region ?_
      refine g_v (.free rfl) rfl rfl (qt_eql rfl rfl rfl) ?_
      refine g_v (.free rfl) rfl rfl (qt_assign rfl rfl) ?_
      refine g_nil ?_
      refine gk_then (hK22 _ _ ?_)
      refine gc_cond rfl (fun hc4 => ?_) (fun hc4 => ?_)
      · try simp only [decide_eq_true_eq, decide_eq_false_iff_not, Bool.not_eq_true', Bool.not_eq_false', Bool.not_eq_eq_eq_not, Bool.not_true, Bool.not_false, ne_eq, Decidable.not_not, Classical.not_not] at hc4
        refine gc_seq fun K69 hK69 => ?_
        refine gc_region ?_
        refine g_v (.free rfl) rfl rfl (qt_loadS (n := 6) rfl rfl Try.underlying27 rfl (by kernel_rfl) rfl) ?_
        refine g_op (.free rfl) fun K71 hK71 => ?_
        refine go_callC rfl rfl rfl Try.func147 rfl (by decide) rfl (fun w M => specOwnC_any w _ _ (rdC_mk ((mem_own1 (n := 2) M rfl).rd) ((mem_own1 (n := 3) M rfl).rd) ((mem_own1 (n := 4) M rfl).rd) (mem_rdU (n := 5) M rfl))) ?_
        intro ca70 cb70 cc70 cd70 ce70 cf70 cg70 ch70 cu70
        refine hK71 _ _ ?_
        refine g_op (.free rfl) fun K72 hK72 => ?_
        refine go_storeS (n := 6) rfl rfl rfl rfl (by kernel_rfl) rfl rfl rfl ?_
        refine hK72 _ _ ?_
        refine g_nil ?_
        refine gk_then (hK69 _ _ ?_)
        refine gc_seq fun K73 hK73 => ?_
        refine gc_region ?_
        refine g_v (.free rfl) rfl rfl (qt_field (z := 0) (off := 1) rfl rfl Try.underlying27 rfl (by kernel_rfl) rfl) ?_
        refine g_v (.free rfl) rfl rfl (qt_loadB (n := 6) rfl rfl Try.underlying24 rfl rfl rfl) ?_
        refine g_v (.free rfl) rfl rfl (qt_len rfl rfl ulE1 (fun w M => lenV_own1 (n := 7) rfl M)) ?_
        refine g_v (.free rfl) rfl rfl (qt_assign rfl rfl) ?_
        refine g_nil ?_
        refine gk_then (hK73 _ _ ?_)
        refine gc_seq fun K74 hK74 => ?_
        refine gc_region ?_
        refine g_v (.free rfl) rfl rfl (qt_move rfl rfl) ?_
        refine g_v (.free rfl) rfl rfl (qt_move rfl rfl) ?_
        refine g_op (.free rfl) fun K76 hK76 => ?_
        refine go_srcNext (n := 0) rfl rfl rfl Try.func71 rfl (by decide) rfl h rfl (by omega) ?_
        intro rX0 hX0
        refine hK76 _ _ ?_
        refine g_v (.free rfl) rfl rfl (qt_move rfl rfl) ?_
        refine g_v (.free rfl) rfl rfl (qt_move rfl rfl) ?_
        refine g_op (.free rfl) fun K78 hK78 => ?_
        refine go_srcNext (n := 0) rfl rfl rfl Try.func71 rfl (by decide) rfl h rfl (by omega) ?_
        intro rX1 hX1
        refine hK78 _ _ ?_
        refine g_v (.free rfl) rfl rfl (qt_assign rfl rfl) ?_
        refine g_v (.free rfl) rfl rfl (qt_assign rfl rfl) ?_
        refine g_nil ?_
        refine gk_then (hK74 _ _ ?_)
        refine gc_seq fun K79 hK79 => ?_
        refine gc_draw (by kernel_rfl) ?_
        refine gd_v (.free rfl) rfl rfl (qt_move rfl rfl) ?_
        refine gd_v (.free rfl) rfl rfl (qt_gtr rfl rfl rfl) ?_
        refine gd_splitv (.free rfl) rfl rfl (qt_move rfl rfl) (fun hs11_2 => ?_) (fun hs11_2 => ?_)
        · try simp only [decide_eq_true_eq, decide_eq_false_iff_not, Bool.not_eq_true', Bool.not_eq_false', Bool.not_eq_eq_eq_not, Bool.not_true, Bool.not_false, ne_eq, Decidable.not_not, Classical.not_not] at hs11_2
          refine gd_v (.held _ _ _ rfl rfl rfl) rfl rfl (qt_field (z := 0) (off := 2) rfl rfl Try.underlying27 rfl (by kernel_rfl) rfl) ?_
          refine gd_v (.held _ _ _ rfl rfl rfl) rfl rfl (qt_loadB (n := 6) rfl rfl Try.underlying24 rfl rfl rfl) ?_
          refine gd_v (.held _ _ _ rfl rfl rfl) rfl rfl (qt_move rfl rfl) ?_
          refine gd_v (.held _ _ _ rfl rfl rfl) rfl rfl (qt_index rfl rfl rfl ulE1 szE1 (fun w M => lenA_own1 (n := 8) rfl M) (by omega) (by omega)) ?_
          refine gd_v (.held _ _ _ rfl rfl rfl) rfl rfl (qt_load1 rfl rfl Try.underlying2 rfl (fun w M => (mem_own1 (n := 8) M rfl).rd) (by omega) (by omega)) ?_
          refine gd_v (.held _ _ _ rfl rfl rfl) rfl rfl (qt_field (z := 0) (off := 1) rfl rfl Try.underlying27 rfl (by kernel_rfl) rfl) ?_
          refine gd_v (.held _ _ _ rfl rfl rfl) rfl rfl (qt_loadB (n := 6) rfl rfl Try.underlying24 rfl rfl rfl) ?_
          refine gd_v (.held _ _ _ rfl rfl rfl) rfl rfl (qt_move rfl rfl) ?_
          refine gd_v (.held _ _ _ rfl rfl rfl) rfl rfl (qt_index rfl rfl rfl ulE1 szE1 (fun w M => lenA_own1 (n := 7) rfl M) (by omega) (by omega)) ?_
          refine gd_v (.held _ _ _ rfl rfl rfl) rfl rfl (qt_load1 rfl rfl Try.underlying2 rfl (fun w M => (mem_own1 (n := 7) M rfl).rd) (by omega) (by omega)) ?_
          refine gd_v (.held _ _ _ rfl rfl rfl) rfl rfl (qt_eql rfl rfl rfl) ?_
          refine gd_v (.free rfl) rfl rfl (qt_pick_t rfl rfl rfl) ?_
          refine gd_nil ?_
          refine gk_then (hK79 _ _ ?_)
          refine gc_cond rfl (fun hc5 => ?_) (fun hc5 => ?_)
          · try simp only [decide_eq_true_eq, decide_eq_false_iff_not, Bool.not_eq_true', Bool.not_eq_false', Bool.not_eq_eq_eq_not, Bool.not_true, Bool.not_false, ne_eq, Decidable.not_not, Classical.not_not] at hc5
            refine gc_seq fun K80 hK80 => ?_
            try simp only [List.nil_append, List.cons_append, List.append_assoc, List.set_cons_succ, List.set_cons_zero]
            refine ga_start _ (fun w M => M) ?_
            refine ga_v 0 rfl (by kernel_rfl) (by kernel_rfl) (by kernel_rfl) (.free rfl) rfl rfl (qt_loadS (n := 6) rfl rfl Try.underlying27 rfl (by kernel_rfl) rfl) (fun _ _ _ h => h) ?_
            refine ga_v 1 rfl (by kernel_rfl) (by kernel_rfl) (by kernel_rfl) (.free rfl) rfl rfl (qt_field (z := 0) (off := 1) rfl rfl Try.underlying27 rfl (by kernel_rfl) rfl) (fun _ _ _ h => h) ?_
            refine ga_v 2 rfl (by kernel_rfl) (by kernel_rfl) (by kernel_rfl) (.free rfl) rfl rfl (qt_loadB (n := 6) rfl rfl Try.underlying24 rfl rfl rfl) (fun _ _ _ h => h) ?_
            refine ga_v 3 rfl (by kernel_rfl) (by kernel_rfl) (by kernel_rfl) (.free rfl) rfl rfl (qt_move rfl rfl) (fun _ _ _ h => h) ?_
            refine ga_v 4 rfl (by kernel_rfl) (by kernel_rfl) (by kernel_rfl) (.free rfl) rfl rfl (qt_index rfl rfl rfl ulE1 szE1 (fun w M => lenA_own1 (n := 7) rfl M) (by omega) (by omega)) (fun _ _ _ h => h) ?_
            refine ga_v 5 rfl (by kernel_rfl) (by kernel_rfl) (by kernel_rfl) (.free rfl) rfl rfl (qt_load1 rfl rfl Try.underlying2 rfl (fun w M => (mem_own1 (n := 7) M rfl).rd) (by omega) (by omega)) (fun _ _ _ h => h) ?_
            refine ga_v 6 rfl (by kernel_rfl) (by kernel_rfl) (by kernel_rfl) (.free rfl) rfl rfl (qt_field (z := 0) (off := 2) rfl rfl Try.underlying27 rfl (by kernel_rfl) rfl) (fun _ _ _ h => h) ?_
            refine ga_v 7 rfl (by kernel_rfl) (by kernel_rfl) (by kernel_rfl) (.free rfl) rfl rfl (qt_loadB (n := 6) rfl rfl Try.underlying24 rfl rfl rfl) (fun _ _ _ h => h) ?_
            refine ga_v 8 rfl (by kernel_rfl) (by kernel_rfl) (by kernel_rfl) (.free rfl) rfl rfl (qt_move rfl rfl) (fun _ _ _ h => h) ?_
            refine ga_v 9 rfl (by kernel_rfl) (by kernel_rfl) (by kernel_rfl) (.free rfl) rfl rfl (qt_index rfl rfl rfl ulE1 szE1 (fun w M => lenA_own1 (n := 8) rfl M) (by omega) (by omega)) (fun _ _ _ h => h) ?_
            refine ga_v 10 rfl (by kernel_rfl) (by kernel_rfl) (by kernel_rfl) (.free rfl) rfl rfl (qt_load1 rfl rfl Try.underlying2 rfl (fun w M => (mem_own1 (n := 8) M rfl).rd) (by omega) (by omega)) (fun _ _ _ h => h) ?_
            refine ga_op 11 (by kernel_rfl) rfl (.free rfl) fun K82 hK82 => ?_
            refine go_callL rfl rfl rfl Try.func148 rfl (by decide) rfl (fun w M => specHom_any w _ _ _ _ (rdC_mk ((mem_own1 (n := 7) M rfl).rd) ((mem_own1 (n := 8) M rfl).rd) ((mem_own1 (n := 9) M rfl).rd) (mem_rdU (n := 10) M rfl)) (by first | assumption | omega)) ?_
            intro va81 vc81
            refine hK82 _ _ (fun w M => (mem_take 11 M :)) ?_
            refine ga_v 12 rfl (by kernel_rfl) (by kernel_rfl) (by kernel_rfl) (.free rfl) rfl rfl (qt_assign rfl rfl) (fun _ _ _ h => h) ?_
            refine ga_done (by kernel_rfl) ?_
            refine gk_then (hK80 _ _ ?_)
            have hle := homTo_len c (at0 c.s (rX0 : Int)) (at0 c.t (rX1 : Int)) c.s.length
            have hne := hom_neT hS (f := (rX0 : Int)) (g := (rX1 : Int)) (by omega) (by omega) (by omega) (by omega) (by assumption)
            have hrl : (row2 c.m (rX0 : Int)).length = c.s.length := by rw [row2_of, Int.toNat_natCast]; exact hS.rl _ (by omega)
            try simp only [List.nil_append, List.cons_append, List.append_assoc, List.set_cons_succ, List.set_cons_zero]
            refine ga_start _ (fun w M => mem_erase 0 (mem_erase 10 (M))) ?_
            refine ga_v 0 rfl (by kernel_rfl) (by kernel_rfl) (by kernel_rfl) (.free rfl) rfl rfl (qt_field (z := 0) (off := 4) rfl rfl Try.underlying27 rfl (by kernel_rfl) rfl) (fun _ _ _ h => h) ?_
            refine ga_v 1 rfl (by kernel_rfl) (by kernel_rfl) (by kernel_rfl) (.free rfl) rfl rfl (qt_loadB (n := 5) rfl rfl Try.underlying25 rfl rfl rfl) (fun _ _ _ h => h) ?_
            refine ga_v 2 rfl (by kernel_rfl) (by kernel_rfl) (by kernel_rfl) (.free rfl) rfl rfl (qt_move rfl rfl) (fun _ _ _ h => h) ?_
            refine ga_v 5 rfl (by kernel_rfl) (by kernel_rfl) (by kernel_rfl) (.free rfl) rfl rfl (qt_move rfl rfl) (fun _ _ _ h => h) ?_
            refine ga_v 6 rfl (by kernel_rfl) (by kernel_rfl) (by kernel_rfl) (.free rfl) rfl rfl (qt_move rfl rfl) (fun _ _ _ h => h) ?_
            refine ga_v 7 rfl (by kernel_rfl) (by kernel_rfl) (by kernel_rfl) (.free rfl) rfl rfl (qt_move rfl rfl) (fun _ _ _ h => h) ?_
            refine ga_v 8 rfl (by kernel_rfl) (by kernel_rfl) (by kernel_rfl) (.free rfl) rfl rfl (qt_move rfl rfl) (fun _ _ _ h => h) ?_
            refine ga_v 9 rfl (by kernel_rfl) (by kernel_rfl) (by kernel_rfl) (.free rfl) rfl rfl (qt_len rfl rfl ulE1 (fun w M => lenV_own1 (n := 9) rfl M)) (fun _ _ _ h => h) ?_
            refine ga_two 3 10 (by kernel_rfl) rfl rfl (.free rfl) (.free rfl) (fun K83 hK83 => ?_) (fun K83 hK83 => ?_)
            · refine go_v rfl rfl (qt_index rfl rfl rfl ulE2 szE2 (fun w M => lenA_U (n := 10) rfl M) (by omega) (by omega)) ?_
              refine hK83 _ _ (fun w M => (mem_erase 0 (mem_erase 10 (mem_take 12 M)) :)) ?_
              refine ga_two 4 10 (by kernel_rfl) rfl rfl (.free rfl) (.free rfl) (fun K85 hK85 => ?_) (fun K85 hK85 => ?_)
              · refine go_v rfl rfl (qt_loadU (n := 10) rfl rfl Try.underlying24 rfl rfl (by omega) (by omega)) ?_
                refine hK85 _ _ (fun w M => (mem_erase 0 (mem_erase 10 (mem_take 12 M)) :)) ?_
                refine ga_op 10 (by kernel_rfl) rfl (.free rfl) fun K88 hK88 => ?_
                refine go_srcNext (n := 0) rfl rfl rfl Try.func71 rfl (by decide) rfl h rfl (by omega) ?_
                intro rX0 hX0
                refine hK88 _ _ (fun w M => (mem_erase 0 (mem_erase 10 (mem_take 12 M)) :)) ?_
                refine ga_v 11 rfl (by kernel_rfl) (by kernel_rfl) (by kernel_rfl) (.free rfl) rfl rfl (qt_index rfl rfl rfl ulE1 szE1 (fun w M => lenA_own1 (n := 9) rfl M) (by omega) (by omega)) (fun _ _ _ h => h) ?_
                refine ga_v 12 rfl (by kernel_rfl) (by kernel_rfl) (by kernel_rfl) (.free rfl) rfl rfl (qt_load1 rfl rfl Try.underlying2 rfl (fun w M => (mem_own1 (n := 9) M rfl).rd) (by omega) (by omega)) (fun _ _ _ h => h) ?_
                refine ga_op 13 (by kernel_rfl) rfl (.free rfl) fun K89 hK89 => ?_
                refine go_v rfl rfl (qt_index rfl rfl rfl ulE1 szE1 (fun w M => lenA_row (n := 10) rfl (by omega) (by omega) M) (by omega) (by omega)) ?_
                refine hK89 _ _ (fun w M => (mem_erase 0 (mem_erase 10 (mem_take 12 M)) :)) ?_
                refine ga_op 14 (by kernel_rfl) rfl (.free rfl) fun K90 hK90 => ?_
                refine go_storeU (n := 10) rfl rfl rfl rfl (by kernel_rfl) rfl (by omega) (by omega) (by omega) (by omega) ?_
                refine hK90 _ _ (fun w M => (mem_erase 0 (mem_erase 10 (mem_take 12 M)) :)) ?_
                refine ga_done (by kernel_rfl) ?_
                refine gk_block ?_
                refine gk_then (hK13 _ _ ?_)
                refine gc_seq fun K91 hK91 => ?_
                refine gc_region ?_
                refine g_v (.free rfl) rfl rfl (qt_loadS (n := 6) rfl rfl Try.underlying27 rfl (by kernel_rfl) rfl) ?_
                refine g_op (.free rfl) fun K92 hK92 => ?_
                refine go_storeS (n := 1) rfl rfl rfl rfl (by kernel_rfl) rfl rfl rfl ?_
                refine hK92 _ _ ?_
                refine g_nil ?_
                refine gk_then (hK91 _ _ ?_)
                refine gc_ret ?_
                refine ret_S (n := 1) rfl rfl Try.underlying27 rfl (by kernel_rfl) rfl (fun w M => ?_)
                exact ⟨⟨_, _, _, _, _⟩, _, (), (by refine ⟨?_, ?_, ?_, ?_, ?_, ?_⟩ <;> (dsimp only; (try simp only [List.length_append, List.length_set, List.length_cons, List.length_nil]); omega)), rfl, M.1, mem_heldP (n := 0) (mem_packH [] (mem_take 4 (mem_pick (n := 10) (mem_pick (n := 10) (mem_pick (n := 10) (mem_pick (n := 10) (M) rfl) rfl) rfl) rfl))) rfl⟩
              · refine go_srcNext (n := 0) rfl rfl rfl Try.func71 rfl (by decide) rfl h rfl (by omega) ?_
                intro rX0 hX0
                refine hK85 _ _ (fun w M => (mem_erase 0 (mem_erase 10 (mem_take 12 M)) :)) ?_
                refine ga_v 11 rfl (by kernel_rfl) (by kernel_rfl) (by kernel_rfl) (.free rfl) rfl rfl (qt_index rfl rfl rfl ulE1 szE1 (fun w M => lenA_own1 (n := 9) rfl M) (by omega) (by omega)) (fun _ _ _ h => h) ?_
                refine ga_v 12 rfl (by kernel_rfl) (by kernel_rfl) (by kernel_rfl) (.free rfl) rfl rfl (qt_load1 rfl rfl Try.underlying2 rfl (fun w M => (mem_own1 (n := 9) M rfl).rd) (by omega) (by omega)) (fun _ _ _ h => h) ?_
                refine ga_op 4 (by kernel_rfl) rfl (.free rfl) fun K95 hK95 => ?_
                refine go_v rfl rfl (qt_loadU (n := 10) rfl rfl Try.underlying24 rfl rfl (by omega) (by omega)) ?_
                refine hK95 _ _ (fun w M => (mem_erase 0 (mem_erase 10 (mem_take 12 M)) :)) ?_
                refine ga_op 13 (by kernel_rfl) rfl (.free rfl) fun K96 hK96 => ?_
                refine go_v rfl rfl (qt_index rfl rfl rfl ulE1 szE1 (fun w M => lenA_row (n := 10) rfl (by omega) (by omega) M) (by omega) (by omega)) ?_
                refine hK96 _ _ (fun w M => (mem_erase 0 (mem_erase 10 (mem_take 12 M)) :)) ?_
                refine ga_op 14 (by kernel_rfl) rfl (.free rfl) fun K97 hK97 => ?_
                refine go_storeU (n := 10) rfl rfl rfl rfl (by kernel_rfl) rfl (by omega) (by omega) (by omega) (by omega) ?_
                refine hK97 _ _ (fun w M => (mem_erase 0 (mem_erase 10 (mem_take 12 M)) :)) ?_
                refine ga_done (by kernel_rfl) ?_
                refine gk_block ?_
                refine gk_then (hK13 _ _ ?_)
                refine gc_seq fun K98 hK98 => ?_
                refine gc_region ?_
                refine g_v (.free rfl) rfl rfl (qt_loadS (n := 6) rfl rfl Try.underlying27 rfl (by kernel_rfl) rfl) ?_
                refine g_op (.free rfl) fun K99 hK99 => ?_
                refine go_storeS (n := 1) rfl rfl rfl rfl (by kernel_rfl) rfl rfl rfl ?_
                refine hK99 _ _ ?_
                refine g_nil ?_
                refine gk_then (hK98 _ _ ?_)
                refine gc_ret ?_
                refine ret_S (n := 1) rfl rfl Try.underlying27 rfl (by kernel_rfl) rfl (fun w M => ?_)
                exact ⟨⟨_, _, _, _, _⟩, _, (), (by refine ⟨?_, ?_, ?_, ?_, ?_, ?_⟩ <;> (dsimp only; (try simp only [List.length_append, List.length_set, List.length_cons, List.length_nil]); omega)), rfl, M.1, mem_heldP (n := 0) (mem_packH [] (mem_take 4 (mem_pick (n := 10) (mem_pick (n := 10) (mem_pick (n := 10) (mem_pick (n := 10) (M) rfl) rfl) rfl) rfl))) rfl⟩
            · refine go_srcNext (n := 0) rfl rfl rfl Try.func71 rfl (by decide) rfl h rfl (by omega) ?_
              intro rX0 hX0
              refine hK83 _ _ (fun w M => (mem_erase 0 (mem_erase 10 (mem_take 12 M)) :)) ?_
              refine ga_v 11 rfl (by kernel_rfl) (by kernel_rfl) (by kernel_rfl) (.free rfl) rfl rfl (qt_index rfl rfl rfl ulE1 szE1 (fun w M => lenA_own1 (n := 9) rfl M) (by omega) (by omega)) (fun _ _ _ h => h) ?_
              refine ga_v 12 rfl (by kernel_rfl) (by kernel_rfl) (by kernel_rfl) (.free rfl) rfl rfl (qt_load1 rfl rfl Try.underlying2 rfl (fun w M => (mem_own1 (n := 9) M rfl).rd) (by omega) (by omega)) (fun _ _ _ h => h) ?_
              refine ga_op 3 (by kernel_rfl) rfl (.free rfl) fun K102 hK102 => ?_
              refine go_v rfl rfl (qt_index rfl rfl rfl ulE2 szE2 (fun w M => lenA_U (n := 10) rfl M) (by omega) (by omega)) ?_
              refine hK102 _ _ (fun w M => (mem_erase 0 (mem_erase 10 (mem_take 12 M)) :)) ?_
              refine ga_op 4 (by kernel_rfl) rfl (.free rfl) fun K103 hK103 => ?_
              refine go_v rfl rfl (qt_loadU (n := 10) rfl rfl Try.underlying24 rfl rfl (by omega) (by omega)) ?_
              refine hK103 _ _ (fun w M => (mem_erase 0 (mem_erase 10 (mem_take 12 M)) :)) ?_
              refine ga_op 13 (by kernel_rfl) rfl (.free rfl) fun K104 hK104 => ?_
              refine go_v rfl rfl (qt_index rfl rfl rfl ulE1 szE1 (fun w M => lenA_row (n := 10) rfl (by omega) (by omega) M) (by omega) (by omega)) ?_
              refine hK104 _ _ (fun w M => (mem_erase 0 (mem_erase 10 (mem_take 12 M)) :)) ?_
              refine ga_op 14 (by kernel_rfl) rfl (.free rfl) fun K105 hK105 => ?_
              refine go_storeU (n := 10) rfl rfl rfl rfl (by kernel_rfl) rfl (by omega) (by omega) (by omega) (by omega) ?_
              refine hK105 _ _ (fun w M => (mem_erase 0 (mem_erase 10 (mem_take 12 M)) :)) ?_
              refine ga_done (by kernel_rfl) ?_
              refine gk_block ?_
              refine gk_then (hK13 _ _ ?_)
              refine gc_seq fun K106 hK106 => ?_
              refine gc_region ?_
              refine g_v (.free rfl) rfl rfl (qt_loadS (n := 6) rfl rfl Try.underlying27 rfl (by kernel_rfl) rfl) ?_
              refine g_op (.free rfl) fun K107 hK107 => ?_
              refine go_storeS (n := 1) rfl rfl rfl rfl (by kernel_rfl) rfl rfl rfl ?_
              refine hK107 _ _ ?_
              refine g_nil ?_
              refine gk_then (hK106 _ _ ?_)
              refine gc_ret ?_
              refine ret_S (n := 1) rfl rfl Try.underlying27 rfl (by kernel_rfl) rfl (fun w M => ?_)
              exact ⟨⟨_, _, _, _, _⟩, _, (), (by refine ⟨?_, ?_, ?_, ?_, ?_, ?_⟩ <;> (dsimp only; (try simp only [List.length_append, List.length_set, List.length_cons, List.length_nil]); omega)), rfl, M.1, mem_heldP (n := 0) (mem_packH [] (mem_take 4 (mem_pick (n := 10) (mem_pick (n := 10) (mem_pick (n := 10) (mem_pick (n := 10) (M) rfl) rfl) rfl) rfl))) rfl⟩
          · try simp only [decide_eq_true_eq, decide_eq_false_iff_not, Bool.not_eq_true', Bool.not_eq_false', Bool.not_eq_eq_eq_not, Bool.not_true, Bool.not_false, ne_eq, Decidable.not_not, Classical.not_not] at hc5
            refine gc_skip ?_
            refine gk_block ?_
            refine gk_then (hK13 _ _ ?_)
            refine gc_seq fun K108 hK108 => ?_
            refine gc_region ?_
            refine g_v (.free rfl) rfl rfl (qt_loadS (n := 6) rfl rfl Try.underlying27 rfl (by kernel_rfl) rfl) ?_
            refine g_op (.free rfl) fun K109 hK109 => ?_
            refine go_storeS (n := 1) rfl rfl rfl rfl (by kernel_rfl) rfl rfl rfl ?_
            refine hK109 _ _ ?_
            refine g_nil ?_
            refine gk_then (hK108 _ _ ?_)
            refine gc_ret ?_
            refine ret_S (n := 1) rfl rfl Try.underlying27 rfl (by kernel_rfl) rfl (fun w M => ?_)
            exact ⟨⟨_, _, _, _, _⟩, _, (), (by refine ⟨?_, ?_, ?_, ?_, ?_, ?_⟩ <;> (dsimp only; (try simp only [List.length_append, List.length_set, List.length_cons, List.length_nil]); omega)), rfl, M.1, mem_heldP (n := 0) (mem_packH [] (mem_take 4 (mem_pick (n := 10) (mem_pick (n := 10) (mem_pick (n := 10) (mem_pick (n := 10) (M) rfl) rfl) rfl) rfl))) rfl⟩
        · try simp only [decide_eq_true_eq, decide_eq_false_iff_not, Bool.not_eq_true', Bool.not_eq_false', Bool.not_eq_eq_eq_not, Bool.not_true, Bool.not_false, ne_eq, Decidable.not_not, Classical.not_not] at hs11_2
          refine gd_skip (.not _ _ _ _ rfl rfl rfl rfl) rfl rfl ?_
          refine gd_skip (.not _ _ _ _ rfl rfl rfl rfl) rfl rfl ?_
          refine gd_skip (.not _ _ _ _ rfl rfl rfl rfl) rfl rfl ?_
          refine gd_skip (.not _ _ _ _ rfl rfl rfl rfl) rfl rfl ?_
          refine gd_skip (.not _ _ _ _ rfl rfl rfl rfl) rfl rfl ?_
          refine gd_skip (.not _ _ _ _ rfl rfl rfl rfl) rfl rfl ?_
          refine gd_skip (.not _ _ _ _ rfl rfl rfl rfl) rfl rfl ?_
          refine gd_skip (.not _ _ _ _ rfl rfl rfl rfl) rfl rfl ?_
          refine gd_skip (.not _ _ _ _ rfl rfl rfl rfl) rfl rfl ?_
          refine gd_skip (.not _ _ _ _ rfl rfl rfl rfl) rfl rfl ?_
          refine gd_skip (.not _ _ _ _ rfl rfl rfl rfl) rfl rfl ?_
          refine gd_v (.free rfl) rfl rfl (qt_pick_f rfl rfl rfl) ?_
          refine gd_nil ?_
          refine gk_then (hK79 _ _ ?_)
          refine gc_cond_f rfl ?_
          refine gc_skip ?_
          refine gk_block ?_
          refine gk_then (hK13 _ _ ?_)
          refine gc_seq fun K110 hK110 => ?_
          refine gc_region ?_
          refine g_v (.free rfl) rfl rfl (qt_loadS (n := 6) rfl rfl Try.underlying27 rfl (by kernel_rfl) rfl) ?_
          refine g_op (.free rfl) fun K111 hK111 => ?_
          refine go_storeS (n := 1) rfl rfl rfl rfl (by kernel_rfl) rfl rfl rfl ?_
          refine hK111 _ _ ?_
          refine g_nil ?_
          refine gk_then (hK110 _ _ ?_)
          refine gc_ret ?_
          refine ret_S (n := 1) rfl rfl Try.underlying27 rfl (by kernel_rfl) rfl (fun w M => ?_)
          exact ⟨⟨_, _, _, _, _⟩, _, (), (by refine ⟨?_, ?_, ?_, ?_, ?_, ?_⟩ <;> (dsimp only; (try simp only [List.length_append, List.length_set, List.length_cons, List.length_nil]); omega)), rfl, M.1, mem_heldP (n := 0) (mem_packH [] (mem_take 4 (mem_pick (n := 10) (mem_pick (n := 10) (mem_pick (n := 10) (mem_pick (n := 10) (M) rfl) rfl) rfl) rfl))) rfl⟩
      · try simp only [decide_eq_true_eq, decide_eq_false_iff_not, Bool.not_eq_true', Bool.not_eq_false', Bool.not_eq_eq_eq_not, Bool.not_true, Bool.not_false, ne_eq, Decidable.not_not, Classical.not_not] at hc4
        refine gc_skip ?_
        refine gk_block ?_
        refine gk_then (hK13 _ _ ?_)
        refine gc_seq fun K112 hK112 => ?_
        refine gc_region ?_
        refine g_v (.free rfl) rfl rfl (qt_loadS (n := 6) rfl rfl Try.underlying27 rfl (by kernel_rfl) rfl) ?_
        refine g_op (.free rfl) fun K113 hK113 => ?_
        refine go_storeS (n := 1) rfl rfl rfl rfl (by kernel_rfl) rfl rfl rfl ?_
        refine hK113 _ _ ?_
        refine g_nil ?_
        refine gk_then (hK112 _ _ ?_)
        refine gc_ret ?_
        refine ret_S (n := 1) rfl rfl Try.underlying27 rfl (by kernel_rfl) rfl (fun w M => ?_)
        exact ⟨⟨_, _, _, _, _⟩, _, (), (by refine ⟨?_, ?_, ?_, ?_, ?_, ?_⟩ <;> (dsimp only; (try simp only [List.length_append, List.length_set, List.length_cons, List.length_nil]); omega)), rfl, M.1, mem_heldP (n := 0) (mem_packH [] (mem_take 4 (mem_pick (n := 5) (mem_pick (n := 5) (mem_pick (n := 5) (mem_pick (n := 5) (M) rfl) rfl) rfl) rfl))) rfl⟩
end Go.Proofs.Ytpfcfhjpgngneac
