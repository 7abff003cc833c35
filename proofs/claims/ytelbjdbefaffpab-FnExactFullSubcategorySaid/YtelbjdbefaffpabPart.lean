
/- A part of a category, numbered anew: the model's and the program's. -/
import Derived.Test.YtelbjdbefaffpabEnts
import Derived.Test.YtelbjdbefaffpabSub
set_option linter.unusedSimpArgs false
set_option linter.unusedVariables false
set_option linter.unusedSectionVars false
namespace Go.Proofs.Ytelbjdbefaffpab
open Go.RowKit


def pIn (c : Cat) (xs : List Int) (x : Nat) : Prop := at0 c.e (x : Int) ∈ xs
noncomputable def pO (c : Cat) (xs : List Int) (k : Nat) : List Int := filTo (pIn c xs) (fun x => (x : Int)) k
noncomputable def pE (c : Cat) (xs : List Int) (k : Nat) : List Int := filTo (pIn c xs) (fun x => idxI xs (at0 c.e (x : Int))) k
noncomputable def pOb (c : Cat) (xs : List Int) : List Int := pO c xs c.e.length
noncomputable def partC (c : Cat) (xs : List Int) : Cat :=
  ⟨(pOb c xs).length, tabTo (fun i => idxI (pOb c xs) (at0 c.s (at0 xs (i : Int)))) xs.length, tabTo (fun i => idxI (pOb c xs) (at0 c.t (at0 xs (i : Int)))) xs.length, pE c xs c.e.length, rowsTo (fun i => tabTo (fun j => idxI xs (c.th (at0 xs (i : Int)) (at0 xs (j : Int)))) xs.length) xs.length⟩
theorem pO_len (c : Cat) (xs : List Int) (k : Nat) : (pO c xs k).length ≤ k := filTo_len _ _ _
theorem pE_len (c : Cat) (xs : List Int) (k : Nat) : (pE c xs k).length = (pO c xs k).length := filTo_lenEq _ _ _ _
theorem pO_t {c : Cat} {xs : List Int} {k : Nat} (h : at0 c.e (k : Int) ∈ xs) : pO c xs k ++ [(k : Int)] = pO c xs (k + 1) := filTo_t (p := pIn c xs) h
theorem pO_f {c : Cat} {xs : List Int} {k : Nat} (h : ¬ at0 c.e (k : Int) ∈ xs) : pO c xs k = pO c xs (k + 1) := filTo_f (p := pIn c xs) h
theorem pE_t {c : Cat} {xs : List Int} {k : Nat} (h : at0 c.e (k : Int) ∈ xs) : pE c xs k ++ [idxI xs (at0 c.e (k : Int))] = pE c xs (k + 1) := filTo_t (p := pIn c xs) h
theorem pE_f {c : Cat} {xs : List Int} {k : Nat} (h : ¬ at0 c.e (k : Int) ∈ xs) : pE c xs k = pE c xs (k + 1) := filTo_f (p := pIn c xs) h
theorem pE_eq (c : Cat) (xs : List Int) : tabTo (fun i => idxI xs (at0 c.e (at0 (pOb c xs) (i : Int)))) (pOb c xs).length = pE c xs c.e.length := by
  rw [tab_map (fun y => idxI xs (at0 c.e y)) (pOb c xs)]
  exact filTo_map (pIn c xs) (fun x => (x : Int)) (fun y => idxI xs (at0 c.e y)) c.e.length
theorem pO_at {c : Cat} {xs : List Int} {k : Nat} (h : k < (pOb c xs).length) : 0 ≤ at0 (pOb c xs) (k : Int) ∧ at0 (pOb c xs) (k : Int) < c.e.length := by
  obtain ⟨j, h1, _, h2⟩ := filTo_mem.1 (at0_mem h)
  have h3 : at0 (pOb c xs) (k : Int) = j := h2.symm
  rw [h3]; omega
theorem allP_k {n : Int} {xs : List Int} (h : AllP n xs) {k : Nat} (hk : k < xs.length) : 0 ≤ at0 xs (k : Int) ∧ at0 xs (k : Int) < n := allP_at h hk

set_option maxHeartbeats 1000000 in
set_option maxRecDepth 100000 in
theorem specPart_any (w : World) (v u : Value) (c : Cat) (xs : List Int) (h : RdC w v c) (hS : ShapeP c) (hu : Rd w u xs) (hx : AllP c.s.length xs) (hl : xs.length ≤ 40) :
    Calls Try.prog 68 #[v, u] w (RetC w (partC c xs)) := by
  have h0 := h
  obtain ⟨va, vb, vc, vd, ve, vf, vg, vh, rfl, h1, h2, h3, h4, _⟩ := h.lists
  obtain ⟨ua, uc, rfl⟩ := rd_form hu
  have hn40 := hS.n40; have htl := hS.tl; have hel := hS.el; have hob0 := hS.ob0; have hob8 := hS.ob8; have hml := hS.ml
  have hoL := pO_len c xs c.e.length
  have hoB : (pOb c xs).length ≤ c.e.length := hoL
  go_enter Try.func68, Try.ntmps68
  refine gc_enter (N := 127) rfl (look_cons (k := 0) rfl (look_cons (k := 1) rfl (look_nil _))) ?_
  refine gc_seq fun K1 hK1 => ?_
  refine gc_region ?_
  refine g_op (.free rfl) fun K3 hK3 => ?_
  refine go_box rfl rfl rfl rfl rfl ?_
  intro B2
  refine hK3 _ _ ?_
  refine g_op (.free rfl) fun K5 hK5 => ?_
  refine go_alloc (z := (.agg #[.int .i64 0, .slice none 0 0, .slice none 0 0, .slice none 0 0, .slice none 0 0])) (cs := [.int .i64 0, .slice none 0 0, .slice none 0 0, .slice none 0 0, .slice none 0 0]) rfl rfl rfl (fun w => by kernel_rfl) rfl ?_
  intro B4
  refine hK5 _ _ ?_
  refine g_nil ?_
  refine gk_then (hK1 _ _ ?_)
  refine gc_seq fun K6 hK6 => ?_
  refine gc_region ?_
  refine g_op (.free rfl) fun K8 hK8 => ?_
  refine go_slice0 rfl rfl rfl Try.underlying22 ?_
  intro B7
  refine hK8 _ _ ?_
  refine g_v (.free rfl) rfl rfl (qt_assign rfl rfl) ?_
  refine g_nil ?_
  refine gk_then (hK6 _ _ ?_)
  refine gc_seq fun K9 hK9 => ?_
  refine gc_seq fun K10 hK10 => ?_
  refine gc_region ?_
  refine g_v (.free rfl) rfl rfl (qt_assign rfl rfl) ?_
  refine g_nil ?_
  refine gk_then (hK10 _ _ ?_)
  refine gc_block ?_
  try simp only [List.nil_append, List.cons_append, List.append_assoc, List.set_cons_succ, List.set_cons_zero]
  refine gc_loop ([(0, _), (1, _), (2, _), (4, _)] : Env) (fun s : Nat × (Option Addr) × Nat => (fun (k : Nat) (a : Option Addr) (q : Nat) => ([(5, .slice a (pO c xs k).length q), (6, .int .i64 (k : Int))] : Env)) s.1 s.2.1 s.2.2) (fun s : Nat × (Option Addr) × Nat => (fun (k : Nat) (a : Option Addr) (q : Nat) => ([(2, own1I (.slice a (pO c xs k).length q) (pO c xs k))] : List (Nat × Itm))) s.1 s.2.1 s.2.2) (fun s : Nat × (Option Addr) × Nat => (fun (k : Nat) (a : Option Addr) (q : Nat) => k ≤ c.e.length) s.1 s.2.1 s.2.2) (fun s : Nat × (Option Addr) × Nat => (fun (k : Nat) (a : Option Addr) (q : Nat) => c.e.length - k) s.1 s.2.1 s.2.2) (0, _, _) (sub_cons rfl (sub_cons rfl (sub_cons rfl (sub_cons rfl (sub_cons rfl (sub_cons rfl sub_nil)))))) rfl (Nat.zero_le _) ?_
  rintro ⟨k, a, q⟩ hinv KL11 hKL11
  simp only [updL, List.foldl_cons, List.foldl_nil, List.set_cons_succ, List.set_cons_zero, List.cons_append, List.nil_append] at hinv hKL11 ⊢
  have hk := hinv
  have hl1 := pO_len c xs k
  refine gc_seq fun K12 hK12 => ?_
  refine gc_seq fun K13 hK13 => ?_
  refine gc_region ?_
  refine g_v (.free rfl) rfl rfl (qt_move rfl rfl) ?_
  refine g_v (.free rfl) rfl rfl (qt_field (z := 0) (off := 0) rfl rfl Try.underlying28 rfl (by kernel_rfl) rfl) ?_
  refine g_v (.free rfl) rfl rfl (qt_loadB (n := 0) rfl rfl Try.underlying2 rfl rfl rfl) ?_
  refine g_v (.free rfl) rfl rfl (qt_lss rfl rfl rfl) ?_
  refine g_nil ?_
  refine gk_then (hK13 _ _ ?_)
  refine gc_cond rfl (fun hc0 => ?_) (fun hc0 => ?_)
  · try simp only [decide_eq_true_eq, decide_eq_false_iff_not, Bool.not_eq_true', Bool.not_eq_false', Bool.not_eq_eq_eq_not, Bool.not_true, Bool.not_false, ne_eq, Decidable.not_not, Classical.not_not] at hc0
    refine gc_skip ?_
    refine gk_then (hK12 _ _ ?_)
    refine gc_seq fun K14 hK14 => ?_
    refine gc_block ?_
    refine gc_seq fun K15 hK15 => ?_
    refine gc_region ?_
    refine g_v (.free rfl) rfl rfl (qt_move rfl rfl) ?_
    refine g_v (.free rfl) rfl rfl (qt_field (z := 0) (off := 3) rfl rfl Try.underlying28 rfl (by kernel_rfl) rfl) ?_
    refine g_v (.free rfl) rfl rfl (qt_loadB (n := 0) rfl rfl Try.underlying22 rfl rfl rfl) ?_
    refine g_v (.free rfl) rfl rfl (qt_move rfl rfl) ?_
    refine g_v (.free rfl) rfl rfl (qt_index rfl rfl rfl ulE1 szE1 (fun w M => lenA_rd h3) (by omega) (by omega)) ?_
    refine g_v (.free rfl) rfl rfl (qt_load1 rfl rfl Try.underlying2 rfl (fun w M => mem_rd M h3) (by omega) (by omega)) ?_
    refine g_q (.free rfl) rfl rfl (qt_call rfl Try.func92 rfl (by decide) rfl (fun w M => specHas2_any w _ _ _ (mem_rd M hu))) ?_
    refine g_nil ?_
    refine gk_then (hK15 _ _ ?_)
    refine gc_cond rfl (fun hc1 => ?_) (fun hc1 => ?_)
    · try simp only [decide_eq_true_eq, decide_eq_false_iff_not, Bool.not_eq_true', Bool.not_eq_false', Bool.not_eq_eq_eq_not, Bool.not_true, Bool.not_false, ne_eq, Decidable.not_not, Classical.not_not] at hc1
      refine gc_region ?_
      refine g_v (.free rfl) rfl rfl (qt_move rfl rfl) ?_
      refine g_v (.free rfl) rfl rfl (qt_move rfl rfl) ?_
      refine g_op (.free rfl) fun K17 hK17 => ?_
      refine go_slice1 rfl rfl rfl rfl Try.underlying22 ?_
      intro B16
      refine hK17 _ _ ?_
      refine g_op (.free rfl) fun K19 hK19 => ?_
      refine go_append (n := 2) (m := 3) rfl rfl rfl Try.underlying22 rfl rfl rfl rfl (by omega) ?_
      intro va18 vc18
      refine hK19 _ _ ?_
      refine g_v (.free rfl) rfl rfl (qt_assign rfl rfl) ?_
      refine g_nil ?_
      refine gk_block ?_
      refine gk_then (hK14 _ _ ?_)
      refine gc_region ?_
      refine g_v (.free rfl) rfl rfl (qt_move rfl rfl) ?_
      refine g_v (.free rfl) rfl rfl (qt_add rfl rfl rfl (by omega)) ?_
      refine g_v (.free rfl) rfl rfl (qt_assign rfl rfl) ?_
      refine g_nil ?_
      simp only [pO_t (bP_t' hc1)]
      refine gk_then (gk_take 3 ?_)
      refine gk_sub ?hs_20 (hKL11 (k + 1, _, _) ?hi_20 ?hm_20)
      case hs_20 => exact (sub_cons rfl (sub_cons rfl (sub_cons rfl (sub_cons rfl (sub_cons rfl (sub_cons rfl sub_nil))))))
      case hi_20 => omega
      case hm_20 => omega
    · try simp only [decide_eq_true_eq, decide_eq_false_iff_not, Bool.not_eq_true', Bool.not_eq_false', Bool.not_eq_eq_eq_not, Bool.not_true, Bool.not_false, ne_eq, Decidable.not_not, Classical.not_not] at hc1
      refine gc_skip ?_
      refine gk_block ?_
      refine gk_then (hK14 _ _ ?_)
      refine gc_region ?_
      refine g_v (.free rfl) rfl rfl (qt_move rfl rfl) ?_
      refine g_v (.free rfl) rfl rfl (qt_add rfl rfl rfl (by omega)) ?_
      refine g_v (.free rfl) rfl rfl (qt_assign rfl rfl) ?_
      refine g_nil ?_
      rw [pO_f (bP_f' hc1)]
      refine gk_then (gk_take 3 ?_)
      refine gk_sub ?hs_21 (hKL11 (k + 1, _, _) ?hi_21 ?hm_21)
      case hs_21 => exact (sub_cons rfl (sub_cons rfl (sub_cons rfl (sub_cons rfl (sub_cons rfl (sub_cons rfl sub_nil))))))
      case hi_21 => omega
      case hm_21 => omega
  · try simp only [decide_eq_true_eq, decide_eq_false_iff_not, Bool.not_eq_true', Bool.not_eq_false', Bool.not_eq_eq_eq_not, Bool.not_true, Bool.not_false, ne_eq, Decidable.not_not, Classical.not_not] at hc0
    refine gc_exit ?_
    refine gk_then_exit ?_
    refine gk_then_exit ?_
    refine gk_block_hit ?_
    refine gk_then (hK9 _ _ ?_)
    refine gc_seq fun K22 hK22 => ?_
    obtain rfl : k = c.e.length := by omega
    refine gc_region ?_
    refine g_v (.free rfl) rfl rfl (qt_move rfl rfl) ?_
    refine g_v (.free rfl) rfl rfl (qt_len rfl rfl ulE1 (fun w M => lenV_own1 (n := 2) rfl M)) ?_
    refine g_op (.free rfl) fun K24 hK24 => ?_
    refine go_slice0 rfl rfl rfl Try.underlying22 ?_
    intro B23
    refine hK24 _ _ ?_
    refine g_op (.free rfl) fun K26 hK26 => ?_
    refine go_slice0 rfl rfl rfl Try.underlying22 ?_
    intro B25
    refine hK26 _ _ ?_
    refine g_op (.free rfl) fun K28 hK28 => ?_
    refine go_slice0 rfl rfl rfl Try.underlying22 ?_
    intro B27
    refine hK28 _ _ ?_
    refine g_op (.free rfl) fun K30 hK30 => ?_
    refine go_sliceR0 rfl rfl rfl Try.underlying23 ?_
    intro B29
    refine hK30 _ _ ?_
    refine g_v (.free rfl) rfl rfl (qt_build rfl rfl bt_Category) ?_
    refine g_op (.free rfl) fun K32 hK32 => ?_
    refine go_alloc (z := (.agg #[.int .i64 0, .slice none 0 0, .slice none 0 0, .slice none 0 0, .slice none 0 0])) (cs := [.int .i64 0, .slice none 0 0, .slice none 0 0, .slice none 0 0, .slice none 0 0]) rfl rfl rfl (fun w => by kernel_rfl) rfl ?_
    intro B31
    refine hK32 _ _ ?_
    refine g_op (.free rfl) fun K33 hK33 => ?_
    refine go_storeS (n := 7) rfl rfl rfl rfl (by kernel_rfl) rfl rfl rfl ?_
    refine hK33 _ _ ?_
    refine g_nil ?_
    refine gk_then (hK22 _ _ ?_)
    refine gc_seq fun K34 hK34 => ?_
    refine gc_seq fun K35 hK35 => ?_
    refine gc_region ?_
    refine g_v (.free rfl) rfl rfl (qt_assign rfl rfl) ?_
    refine g_nil ?_
    refine gk_then (hK35 _ _ ?_)
    refine gc_block ?_
    simp only [show pO c xs c.e.length = pOb c xs from rfl]
    try simp only [List.nil_append, List.cons_append, List.append_assoc, List.set_cons_succ, List.set_cons_zero]
    refine gc_loop ([(0, _), (1, _), (2, _), (4, _), (5, _), (6, _), (7, _), (16, _)] : Env) (fun s : Nat × (Option Addr) × Nat => (fun (k : Nat) (b : Option Addr) (r : Nat) => ([(8, .int .i64 (k : Int))] : Env)) s.1 s.2.1 s.2.2) (fun s : Nat × (Option Addr) × Nat => (fun (k : Nat) (b : Option Addr) (r : Nat) => ([(5, own1I (.slice b (tabTo (fun i => idxI xs (at0 c.e (at0 (pOb c xs) (i : Int)))) k).length r) (tabTo (fun i => idxI xs (at0 c.e (at0 (pOb c xs) (i : Int)))) k)), (7, bxI B31 28 [.int .i64 (pOb c xs).length, .slice (some ⟨B23, 0, none⟩) 0 0, .slice (some ⟨B25, 0, none⟩) 0 0, .slice b (tabTo (fun i => idxI xs (at0 c.e (at0 (pOb c xs) (i : Int)))) k).length r, .slice (some ⟨B29, 0, none⟩) 0 0])] : List (Nat × Itm))) s.1 s.2.1 s.2.2) (fun s : Nat × (Option Addr) × Nat => (fun (k : Nat) (b : Option Addr) (r : Nat) => k ≤ (pOb c xs).length) s.1 s.2.1 s.2.2) (fun s : Nat × (Option Addr) × Nat => (fun (k : Nat) (b : Option Addr) (r : Nat) => (pOb c xs).length - k) s.1 s.2.1 s.2.2) (0, _, _) (sub_cons rfl (sub_cons rfl (sub_cons rfl (sub_cons rfl (sub_cons rfl (sub_cons rfl (sub_cons rfl (sub_cons rfl (sub_cons rfl sub_nil))))))))) rfl (Nat.zero_le _) ?_
    rintro ⟨k, b, r⟩ hinv KL36 hKL36
    simp only [updL, List.foldl_cons, List.foldl_nil, List.set_cons_succ, List.set_cons_zero, List.cons_append, List.nil_append] at hinv hKL36 ⊢
    have hk := hinv
    have hl2 := tabTo_len (fun i => idxI xs (at0 c.e (at0 (pOb c xs) (i : Int)))) k
    refine gc_seq fun K37 hK37 => ?_
    refine gc_seq fun K38 hK38 => ?_
    refine gc_region ?_
    refine g_v (.free rfl) rfl rfl (qt_move rfl rfl) ?_
    refine g_v (.free rfl) rfl rfl (qt_move rfl rfl) ?_
    refine g_v (.free rfl) rfl rfl (qt_len rfl rfl ulE1 (fun w M => lenV_own1 (n := 2) rfl M)) ?_
    refine g_v (.free rfl) rfl rfl (qt_lss rfl rfl rfl) ?_
    refine g_nil ?_
    refine gk_then (hK38 _ _ ?_)
    refine gc_cond rfl (fun hc2 => ?_) (fun hc2 => ?_)
    · try simp only [decide_eq_true_eq, decide_eq_false_iff_not, Bool.not_eq_true', Bool.not_eq_false', Bool.not_eq_eq_eq_not, Bool.not_true, Bool.not_false, ne_eq, Decidable.not_not, Classical.not_not] at hc2
      refine gc_skip ?_
      refine gk_then (hK37 _ _ ?_)
      refine gc_seq fun K39 hK39 => ?_
      refine gc_block ?_
      have ho := pO_at (c := c) (xs := xs) (k := k) (by omega)
      have o1 := ho.1; have o2 := ho.2
      try simp only [List.nil_append, List.cons_append, List.append_assoc, List.set_cons_succ, List.set_cons_zero]
      refine ga_start _ (fun w M => mem_erase 5 (mem_erase 7 (M))) ?_
      refine ga_v 0 rfl (by kernel_rfl) (by kernel_rfl) (by kernel_rfl) (.free rfl) rfl rfl (qt_field (z := 0) (off := 3) rfl rfl Try.underlying28 rfl (by kernel_rfl) rfl) (fun _ _ _ h => h) ?_
      refine ga_v 2 rfl (by kernel_rfl) (by kernel_rfl) (by kernel_rfl) (.free rfl) rfl rfl (qt_move rfl rfl) (fun _ _ _ h => h) ?_
      refine ga_v 3 rfl (by kernel_rfl) (by kernel_rfl) (by kernel_rfl) (.free rfl) rfl rfl (qt_field (z := 0) (off := 3) rfl rfl Try.underlying28 rfl (by kernel_rfl) rfl) (fun _ _ _ h => h) ?_
      refine ga_v 4 rfl (by kernel_rfl) (by kernel_rfl) (by kernel_rfl) (.free rfl) rfl rfl (qt_loadB (n := 0) rfl rfl Try.underlying22 rfl rfl rfl) (fun _ _ _ h => h) ?_
      refine ga_v 5 rfl (by kernel_rfl) (by kernel_rfl) (by kernel_rfl) (.free rfl) rfl rfl (qt_move rfl rfl) (fun _ _ _ h => h) ?_
      refine ga_v 6 rfl (by kernel_rfl) (by kernel_rfl) (by kernel_rfl) (.free rfl) rfl rfl (qt_move rfl rfl) (fun _ _ _ h => h) ?_
      refine ga_v 7 rfl (by kernel_rfl) (by kernel_rfl) (by kernel_rfl) (.free rfl) rfl rfl (qt_index rfl rfl rfl ulE1 szE1 (fun w M => lenA_own1 (n := 2) rfl M) (by omega) (by omega)) (fun _ _ _ h => h) ?_
      refine ga_v 8 rfl (by kernel_rfl) (by kernel_rfl) (by kernel_rfl) (.free rfl) rfl rfl (qt_load1 rfl rfl Try.underlying2 rfl (fun w M => (mem_own1 (n := 2) M rfl).rd) (by omega) (by omega)) (fun _ _ _ h => h) ?_
      refine ga_v 9 rfl (by kernel_rfl) (by kernel_rfl) (by kernel_rfl) (.free rfl) rfl rfl (qt_index rfl rfl rfl ulE1 szE1 (fun w M => lenA_rd h3) (by omega) (by omega)) (fun _ _ _ h => h) ?_
      refine ga_v 10 rfl (by kernel_rfl) (by kernel_rfl) (by kernel_rfl) (.free rfl) rfl rfl (qt_load1 rfl rfl Try.underlying2 rfl (fun w M => mem_rd M h3) (by omega) (by omega)) (fun _ _ _ h => h) ?_
      refine ga_two 1 11 (by kernel_rfl) rfl rfl (.free rfl) (.free rfl) (fun K40 hK40 => ?_) (fun K40 hK40 => ?_)
      · refine go_v rfl rfl (qt_loadB (n := 7) rfl rfl Try.underlying22 rfl rfl rfl) ?_
        refine hK40 _ _ (fun w M => (mem_erase 5 (mem_erase 7 (mem_take 8 M)) :)) ?_
        refine ga_op 11 (by kernel_rfl) rfl (.free rfl) fun K42 hK42 => ?_
        refine go_q rfl rfl (qt_call rfl Try.func93 rfl (by decide) rfl (fun w M => specIndex_any w _ _ _ (mem_rd M hu))) ?_
        refine hK42 _ _ (fun w M => (mem_erase 5 (mem_erase 7 (mem_take 8 M)) :)) ?_
        refine ga_op 12 (by kernel_rfl) rfl (.free rfl) fun K44 hK44 => ?_
        refine go_slice1 rfl rfl rfl rfl Try.underlying22 ?_
        intro B43
        refine hK44 _ _ (fun w M => (mem_erase 5 (mem_erase 7 (mem_take 8 M)) :)) ?_
        refine ga_op 13 (by kernel_rfl) rfl (.free rfl) fun K46 hK46 => ?_
        refine go_append (n := 5) (m := 8) rfl rfl rfl Try.underlying22 rfl rfl rfl rfl (by omega) ?_
        intro va45 vc45
        refine hK46 _ _ (fun w M => (mem_erase 5 (mem_erase 7 (mem_take 8 M)) :)) ?_
        refine ga_v 14 rfl (by kernel_rfl) (by kernel_rfl) (by kernel_rfl) (.free rfl) rfl rfl (qt_field (z := 0) (off := 3) rfl rfl Try.underlying28 rfl (by kernel_rfl) rfl) (fun _ _ _ h => h) ?_
        refine ga_op 15 (by kernel_rfl) rfl (.free rfl) fun K47 hK47 => ?_
        refine go_storeB (n := 7) rfl rfl rfl rfl (by kernel_rfl) rfl rfl rfl (by first | decide | simp) ?_
        refine hK47 _ _ (fun w M => (mem_erase 5 (mem_erase 7 (mem_take 8 M)) :)) ?_
        refine ga_done (by kernel_rfl) ?_
        refine gk_block ?_
        refine gk_then (hK39 _ _ ?_)
        refine gc_region ?_
        refine g_v (.free rfl) rfl rfl (qt_move rfl rfl) ?_
        refine g_v (.free rfl) rfl rfl (qt_add rfl rfl rfl (by omega)) ?_
        refine g_v (.free rfl) rfl rfl (qt_assign rfl rfl) ?_
        refine g_nil ?_
        simp only [tabTo_succ]
        refine gk_then (gk_take 8 ?_)
        refine gk_sub ?hs_48 (hKL36 (k + 1, _, _) ?hi_48 ?hm_48)
        case hs_48 => exact (sub_cons rfl (sub_cons rfl (sub_cons rfl (sub_cons rfl (sub_cons rfl (sub_cons rfl (sub_cons rfl (sub_cons rfl (sub_cons rfl sub_nil)))))))))
        case hi_48 => omega
        case hm_48 => omega
      · refine go_q rfl rfl (qt_call rfl Try.func93 rfl (by decide) rfl (fun w M => specIndex_any w _ _ _ (mem_rd M hu))) ?_
        refine hK40 _ _ (fun w M => (mem_erase 5 (mem_erase 7 (mem_take 8 M)) :)) ?_
        refine ga_two 1 12 (by kernel_rfl) rfl rfl (.free rfl) (.free rfl) (fun K50 hK50 => ?_) (fun K50 hK50 => ?_)
        · refine go_v rfl rfl (qt_loadB (n := 7) rfl rfl Try.underlying22 rfl rfl rfl) ?_
          refine hK50 _ _ (fun w M => (mem_erase 5 (mem_erase 7 (mem_take 8 M)) :)) ?_
          refine ga_op 12 (by kernel_rfl) rfl (.free rfl) fun K53 hK53 => ?_
          refine go_slice1 rfl rfl rfl rfl Try.underlying22 ?_
          intro B52
          refine hK53 _ _ (fun w M => (mem_erase 5 (mem_erase 7 (mem_take 8 M)) :)) ?_
          refine ga_op 13 (by kernel_rfl) rfl (.free rfl) fun K55 hK55 => ?_
          refine go_append (n := 5) (m := 8) rfl rfl rfl Try.underlying22 rfl rfl rfl rfl (by omega) ?_
          intro va54 vc54
          refine hK55 _ _ (fun w M => (mem_erase 5 (mem_erase 7 (mem_take 8 M)) :)) ?_
          refine ga_v 14 rfl (by kernel_rfl) (by kernel_rfl) (by kernel_rfl) (.free rfl) rfl rfl (qt_field (z := 0) (off := 3) rfl rfl Try.underlying28 rfl (by kernel_rfl) rfl) (fun _ _ _ h => h) ?_
          refine ga_op 15 (by kernel_rfl) rfl (.free rfl) fun K56 hK56 => ?_
          refine go_storeB (n := 7) rfl rfl rfl rfl (by kernel_rfl) rfl rfl rfl (by first | decide | simp) ?_
          refine hK56 _ _ (fun w M => (mem_erase 5 (mem_erase 7 (mem_take 8 M)) :)) ?_
          refine ga_done (by kernel_rfl) ?_
          refine gk_block ?_
          refine gk_then (hK39 _ _ ?_)
          refine gc_region ?_
          refine g_v (.free rfl) rfl rfl (qt_move rfl rfl) ?_
          refine g_v (.free rfl) rfl rfl (qt_add rfl rfl rfl (by omega)) ?_
          refine g_v (.free rfl) rfl rfl (qt_assign rfl rfl) ?_
          refine g_nil ?_
          simp only [tabTo_succ]
          refine gk_then (gk_take 8 ?_)
          refine gk_sub ?hs_57 (hKL36 (k + 1, _, _) ?hi_57 ?hm_57)
          case hs_57 => exact (sub_cons rfl (sub_cons rfl (sub_cons rfl (sub_cons rfl (sub_cons rfl (sub_cons rfl (sub_cons rfl (sub_cons rfl (sub_cons rfl sub_nil)))))))))
          case hi_57 => omega
          case hm_57 => omega
        · refine go_slice1 rfl rfl rfl rfl Try.underlying22 ?_
          intro B58
          refine hK50 _ _ (fun w M => (mem_erase 5 (mem_erase 7 (mem_take 8 M)) :)) ?_
          refine ga_op 1 (by kernel_rfl) rfl (.free rfl) fun K60 hK60 => ?_
          refine go_v rfl rfl (qt_loadB (n := 7) rfl rfl Try.underlying22 rfl rfl rfl) ?_
          refine hK60 _ _ (fun w M => (mem_erase 5 (mem_erase 7 (mem_take 8 M)) :)) ?_
          refine ga_op 13 (by kernel_rfl) rfl (.free rfl) fun K62 hK62 => ?_
          refine go_append (n := 5) (m := 8) rfl rfl rfl Try.underlying22 rfl rfl rfl rfl (by omega) ?_
          intro va61 vc61
          refine hK62 _ _ (fun w M => (mem_erase 5 (mem_erase 7 (mem_take 8 M)) :)) ?_
          refine ga_v 14 rfl (by kernel_rfl) (by kernel_rfl) (by kernel_rfl) (.free rfl) rfl rfl (qt_field (z := 0) (off := 3) rfl rfl Try.underlying28 rfl (by kernel_rfl) rfl) (fun _ _ _ h => h) ?_
          refine ga_op 15 (by kernel_rfl) rfl (.free rfl) fun K63 hK63 => ?_
          refine go_storeB (n := 7) rfl rfl rfl rfl (by kernel_rfl) rfl rfl rfl (by first | decide | simp) ?_
          refine hK63 _ _ (fun w M => (mem_erase 5 (mem_erase 7 (mem_take 8 M)) :)) ?_
          refine ga_done (by kernel_rfl) ?_
          refine gk_block ?_
          refine gk_then (hK39 _ _ ?_)
          refine gc_region ?_
          refine g_v (.free rfl) rfl rfl (qt_move rfl rfl) ?_
          refine g_v (.free rfl) rfl rfl (qt_add rfl rfl rfl (by omega)) ?_
          refine g_v (.free rfl) rfl rfl (qt_assign rfl rfl) ?_
          refine g_nil ?_
          simp only [tabTo_succ]
          refine gk_then (gk_take 8 ?_)
          refine gk_sub ?hs_64 (hKL36 (k + 1, _, _) ?hi_64 ?hm_64)
          case hs_64 => exact (sub_cons rfl (sub_cons rfl (sub_cons rfl (sub_cons rfl (sub_cons rfl (sub_cons rfl (sub_cons rfl (sub_cons rfl (sub_cons rfl sub_nil)))))))))
          case hi_64 => omega
          case hm_64 => omega
    · try simp only [decide_eq_true_eq, decide_eq_false_iff_not, Bool.not_eq_true', Bool.not_eq_false', Bool.not_eq_eq_eq_not, Bool.not_true, Bool.not_false, ne_eq, Decidable.not_not, Classical.not_not] at hc2
      refine gc_exit ?_
      refine gk_then_exit ?_
      refine gk_then_exit ?_
      refine gk_block_hit ?_
      refine gk_then (hK34 _ _ ?_)
      refine gc_seq fun K65 hK65 => ?_
      refine gc_seq fun K66 hK66 => ?_
      refine gc_region ?_
      refine g_v (.free rfl) rfl rfl (qt_assign rfl rfl) ?_
      refine g_nil ?_
      refine gk_then (hK66 _ _ ?_)
      refine gc_block ?_
      obtain rfl : k = (pOb c xs).length := by omega
      try simp only [List.nil_append, List.cons_append, List.append_assoc, List.set_cons_succ, List.set_cons_zero]
      refine gc_loop ([(0, _), (1, _), (2, _), (4, _), (5, _), (6, _), (7, _), (8, _), (16, _), (40, _)] : Env) (fun s : Nat × (Option Addr) × Nat × (Option Addr) × Nat × (Option Addr) × Nat × (List Value) => (fun (k : Nat) (a1 : Option Addr) (q1 : Nat) (a2 : Option Addr) (q2 : Nat) (a4 : Option Addr) (q4 : Nat) (us : List Value) => ([(9, .int .i64 (k : Int))] : Env)) s.1 s.2.1 s.2.2.1 s.2.2.2.1 s.2.2.2.2.1 s.2.2.2.2.2.1 s.2.2.2.2.2.2.1 s.2.2.2.2.2.2.2) (fun s : Nat × (Option Addr) × Nat × (Option Addr) × Nat × (Option Addr) × Nat × (List Value) => (fun (k : Nat) (a1 : Option Addr) (q1 : Nat) (a2 : Option Addr) (q2 : Nat) (a4 : Option Addr) (q4 : Nat) (us : List Value) => ([(3, own1I (.slice a1 (tabTo (fun i => idxI (pOb c xs) (at0 c.s (at0 xs (i : Int)))) k).length q1) (tabTo (fun i => idxI (pOb c xs) (at0 c.s (at0 xs (i : Int)))) k)), (4, own1I (.slice a2 (tabTo (fun i => idxI (pOb c xs) (at0 c.t (at0 xs (i : Int)))) k).length q2) (tabTo (fun i => idxI (pOb c xs) (at0 c.t (at0 xs (i : Int)))) k)), (6, own2U (.slice a4 (rowsTo (fun i => tabTo (fun j => idxI xs (c.th (at0 xs (i : Int)) (at0 xs (j : Int)))) xs.length) k).length q4) us (rowsTo (fun i => tabTo (fun j => idxI xs (c.th (at0 xs (i : Int)) (at0 xs (j : Int)))) xs.length) k)), (7, bxI B31 28 [.int .i64 (pOb c xs).length, .slice a1 (tabTo (fun i => idxI (pOb c xs) (at0 c.s (at0 xs (i : Int)))) k).length q1, .slice a2 (tabTo (fun i => idxI (pOb c xs) (at0 c.t (at0 xs (i : Int)))) k).length q2, .slice b (tabTo (fun i => idxI xs (at0 c.e (at0 (pOb c xs) (i : Int)))) (pOb c xs).length).length r, .slice a4 (rowsTo (fun i => tabTo (fun j => idxI xs (c.th (at0 xs (i : Int)) (at0 xs (j : Int)))) xs.length) k).length q4])] : List (Nat × Itm))) s.1 s.2.1 s.2.2.1 s.2.2.2.1 s.2.2.2.2.1 s.2.2.2.2.2.1 s.2.2.2.2.2.2.1 s.2.2.2.2.2.2.2) (fun s : Nat × (Option Addr) × Nat × (Option Addr) × Nat × (Option Addr) × Nat × (List Value) => (fun (k : Nat) (a1 : Option Addr) (q1 : Nat) (a2 : Option Addr) (q2 : Nat) (a4 : Option Addr) (q4 : Nat) (us : List Value) => k ≤ xs.length) s.1 s.2.1 s.2.2.1 s.2.2.2.1 s.2.2.2.2.1 s.2.2.2.2.2.1 s.2.2.2.2.2.2.1 s.2.2.2.2.2.2.2) (fun s : Nat × (Option Addr) × Nat × (Option Addr) × Nat × (Option Addr) × Nat × (List Value) => (fun (k : Nat) (a1 : Option Addr) (q1 : Nat) (a2 : Option Addr) (q2 : Nat) (a4 : Option Addr) (q4 : Nat) (us : List Value) => xs.length - k) s.1 s.2.1 s.2.2.1 s.2.2.2.1 s.2.2.2.2.1 s.2.2.2.2.2.1 s.2.2.2.2.2.2.1 s.2.2.2.2.2.2.2) (0, _, _, _, _, _, _, _) (sub_cons rfl (sub_cons rfl (sub_cons rfl (sub_cons rfl (sub_cons rfl (sub_cons rfl (sub_cons rfl (sub_cons rfl (sub_cons rfl (sub_cons rfl (sub_cons rfl sub_nil))))))))))) rfl (Nat.zero_le _) ?_
      rintro ⟨k, a1, q1, a2, q2, a4, q4, us⟩ hinv KL67 hKL67
      simp only [updL, List.foldl_cons, List.foldl_nil, List.set_cons_succ, List.set_cons_zero, List.cons_append, List.nil_append] at hinv hKL67 ⊢
      have hk := hinv
      have hm1 := tabTo_len (fun i => idxI (pOb c xs) (at0 c.s (at0 xs (i : Int)))) k
      have hm2 := tabTo_len (fun i => idxI (pOb c xs) (at0 c.t (at0 xs (i : Int)))) k
      have hm4 := rowsTo_len (fun i => tabTo (fun j => idxI xs (c.th (at0 xs (i : Int)) (at0 xs (j : Int)))) xs.length) k
      refine gc_seq fun K68 hK68 => ?_
      refine gc_seq fun K69 hK69 => ?_
      refine gc_region ?_
      refine g_v (.free rfl) rfl rfl (qt_move rfl rfl) ?_
      refine g_v (.free rfl) rfl rfl (qt_move rfl rfl) ?_
      refine g_v (.free rfl) rfl rfl (qt_len rfl rfl ulE1 (fun w M => lenV_rd hu)) ?_
      refine g_v (.free rfl) rfl rfl (qt_lss rfl rfl rfl) ?_
      refine g_nil ?_
      refine gk_then (hK69 _ _ ?_)
      refine gc_cond rfl (fun hc3 => ?_) (fun hc3 => ?_)
      · try simp only [decide_eq_true_eq, decide_eq_false_iff_not, Bool.not_eq_true', Bool.not_eq_false', Bool.not_eq_eq_eq_not, Bool.not_true, Bool.not_false, ne_eq, Decidable.not_not, Classical.not_not] at hc3
        refine gc_skip ?_
        refine gk_then (hK68 _ _ ?_)
        refine gc_seq fun K70 hK70 => ?_
        refine gc_block ?_
        refine gc_seq fun K71 hK71 => ?_
        have hk1 := allP_k hx (k := k) (by omega)
        have hA := arrP hS hk1.1 hk1.2
        have a0 := hk1.1; have a1 := hk1.2; have a2 := hA.fs; have a3 := hA.fm; have a4 := hA.row; have a5 := hA.ft
        try simp only [List.nil_append, List.cons_append, List.append_assoc, List.set_cons_succ, List.set_cons_zero]
        refine ga_start _ (fun w M => mem_erase 3 (mem_erase 7 (M))) ?_
        refine ga_v 0 rfl (by kernel_rfl) (by kernel_rfl) (by kernel_rfl) (.free rfl) rfl rfl (qt_field (z := 0) (off := 1) rfl rfl Try.underlying28 rfl (by kernel_rfl) rfl) (fun _ _ _ h => h) ?_
        refine ga_v 2 rfl (by kernel_rfl) (by kernel_rfl) (by kernel_rfl) (.free rfl) rfl rfl (qt_move rfl rfl) (fun _ _ _ h => h) ?_
        refine ga_v 3 rfl (by kernel_rfl) (by kernel_rfl) (by kernel_rfl) (.free rfl) rfl rfl (qt_field (z := 0) (off := 1) rfl rfl Try.underlying28 rfl (by kernel_rfl) rfl) (fun _ _ _ h => h) ?_
        refine ga_v 4 rfl (by kernel_rfl) (by kernel_rfl) (by kernel_rfl) (.free rfl) rfl rfl (qt_loadB (n := 0) rfl rfl Try.underlying22 rfl rfl rfl) (fun _ _ _ h => h) ?_
        refine ga_v 5 rfl (by kernel_rfl) (by kernel_rfl) (by kernel_rfl) (.free rfl) rfl rfl (qt_move rfl rfl) (fun _ _ _ h => h) ?_
        refine ga_v 6 rfl (by kernel_rfl) (by kernel_rfl) (by kernel_rfl) (.free rfl) rfl rfl (qt_move rfl rfl) (fun _ _ _ h => h) ?_
        refine ga_v 7 rfl (by kernel_rfl) (by kernel_rfl) (by kernel_rfl) (.free rfl) rfl rfl (qt_index rfl rfl rfl ulE1 szE1 (fun w M => lenA_rd hu) (by omega) (by omega)) (fun _ _ _ h => h) ?_
        refine ga_v 8 rfl (by kernel_rfl) (by kernel_rfl) (by kernel_rfl) (.free rfl) rfl rfl (qt_load1 rfl rfl Try.underlying2 rfl (fun w M => mem_rd M hu) (by omega) (by omega)) (fun _ _ _ h => h) ?_
        refine ga_v 9 rfl (by kernel_rfl) (by kernel_rfl) (by kernel_rfl) (.free rfl) rfl rfl (qt_index rfl rfl rfl ulE1 szE1 (fun w M => lenA_rd h1) (by omega) (by omega)) (fun _ _ _ h => h) ?_
        refine ga_v 10 rfl (by kernel_rfl) (by kernel_rfl) (by kernel_rfl) (.free rfl) rfl rfl (qt_load1 rfl rfl Try.underlying2 rfl (fun w M => mem_rd M h1) (by omega) (by omega)) (fun _ _ _ h => h) ?_
        refine ga_two 1 11 (by kernel_rfl) rfl rfl (.free rfl) (.free rfl) (fun K72 hK72 => ?_) (fun K72 hK72 => ?_)
        · refine go_v rfl rfl (qt_loadB (n := 7) rfl rfl Try.underlying22 rfl rfl rfl) ?_
          refine hK72 _ _ (fun w M => (mem_erase 3 (mem_erase 7 (mem_take 8 M)) :)) ?_
          refine ga_op 11 (by kernel_rfl) rfl (.free rfl) fun K74 hK74 => ?_
          refine go_q rfl rfl (qt_call rfl Try.func93 rfl (by decide) rfl (fun w M => specIndex_any w _ _ _ ((mem_own1 (n := 2) M rfl).rd))) ?_
          refine hK74 _ _ (fun w M => (mem_erase 3 (mem_erase 7 (mem_take 8 M)) :)) ?_
          refine ga_op 12 (by kernel_rfl) rfl (.free rfl) fun K76 hK76 => ?_
          refine go_slice1 rfl rfl rfl rfl Try.underlying22 ?_
          intro B75
          refine hK76 _ _ (fun w M => (mem_erase 3 (mem_erase 7 (mem_take 8 M)) :)) ?_
          refine ga_op 13 (by kernel_rfl) rfl (.free rfl) fun K78 hK78 => ?_
          refine go_append (n := 3) (m := 8) rfl rfl rfl Try.underlying22 rfl rfl rfl rfl (by omega) ?_
          intro va77 vc77
          refine hK78 _ _ (fun w M => (mem_erase 3 (mem_erase 7 (mem_take 8 M)) :)) ?_
          refine ga_v 14 rfl (by kernel_rfl) (by kernel_rfl) (by kernel_rfl) (.free rfl) rfl rfl (qt_field (z := 0) (off := 1) rfl rfl Try.underlying28 rfl (by kernel_rfl) rfl) (fun _ _ _ h => h) ?_
          refine ga_op 15 (by kernel_rfl) rfl (.free rfl) fun K79 hK79 => ?_
          refine go_storeB (n := 7) rfl rfl rfl rfl (by kernel_rfl) rfl rfl rfl (by first | decide | simp) ?_
          refine hK79 _ _ (fun w M => (mem_erase 3 (mem_erase 7 (mem_take 8 M)) :)) ?_
          refine ga_done (by kernel_rfl) ?_
          refine gk_then (hK71 _ _ ?_)
          refine gc_seq fun K80 hK80 => ?_
          try simp only [List.nil_append, List.cons_append, List.append_assoc, List.set_cons_succ, List.set_cons_zero]
          refine ga_start _ (fun w M => mem_erase 4 (mem_erase 7 (M))) ?_
          refine ga_v 0 rfl (by kernel_rfl) (by kernel_rfl) (by kernel_rfl) (.free rfl) rfl rfl (qt_field (z := 0) (off := 2) rfl rfl Try.underlying28 rfl (by kernel_rfl) rfl) (fun _ _ _ h => h) ?_
          refine ga_v 2 rfl (by kernel_rfl) (by kernel_rfl) (by kernel_rfl) (.free rfl) rfl rfl (qt_move rfl rfl) (fun _ _ _ h => h) ?_
          refine ga_v 3 rfl (by kernel_rfl) (by kernel_rfl) (by kernel_rfl) (.free rfl) rfl rfl (qt_field (z := 0) (off := 2) rfl rfl Try.underlying28 rfl (by kernel_rfl) rfl) (fun _ _ _ h => h) ?_
          refine ga_v 4 rfl (by kernel_rfl) (by kernel_rfl) (by kernel_rfl) (.free rfl) rfl rfl (qt_loadB (n := 0) rfl rfl Try.underlying22 rfl rfl rfl) (fun _ _ _ h => h) ?_
          refine ga_v 5 rfl (by kernel_rfl) (by kernel_rfl) (by kernel_rfl) (.free rfl) rfl rfl (qt_move rfl rfl) (fun _ _ _ h => h) ?_
          refine ga_v 6 rfl (by kernel_rfl) (by kernel_rfl) (by kernel_rfl) (.free rfl) rfl rfl (qt_move rfl rfl) (fun _ _ _ h => h) ?_
          refine ga_v 7 rfl (by kernel_rfl) (by kernel_rfl) (by kernel_rfl) (.free rfl) rfl rfl (qt_index rfl rfl rfl ulE1 szE1 (fun w M => lenA_rd hu) (by omega) (by omega)) (fun _ _ _ h => h) ?_
          refine ga_v 8 rfl (by kernel_rfl) (by kernel_rfl) (by kernel_rfl) (.free rfl) rfl rfl (qt_load1 rfl rfl Try.underlying2 rfl (fun w M => mem_rd M hu) (by omega) (by omega)) (fun _ _ _ h => h) ?_
          refine ga_v 9 rfl (by kernel_rfl) (by kernel_rfl) (by kernel_rfl) (.free rfl) rfl rfl (qt_index rfl rfl rfl ulE1 szE1 (fun w M => lenA_rd h2) (by omega) (by omega)) (fun _ _ _ h => h) ?_
          refine ga_v 10 rfl (by kernel_rfl) (by kernel_rfl) (by kernel_rfl) (.free rfl) rfl rfl (qt_load1 rfl rfl Try.underlying2 rfl (fun w M => mem_rd M h2) (by omega) (by omega)) (fun _ _ _ h => h) ?_
          refine ga_two 1 11 (by kernel_rfl) rfl rfl (.free rfl) (.free rfl) (fun K81 hK81 => ?_) (fun K81 hK81 => ?_)
          · refine go_v rfl rfl (qt_loadB (n := 7) rfl rfl Try.underlying22 rfl rfl rfl) ?_
            refine hK81 _ _ (fun w M => (mem_erase 4 (mem_erase 7 (mem_take 9 M)) :)) ?_
            refine ga_op 11 (by kernel_rfl) rfl (.free rfl) fun K83 hK83 => ?_
            refine go_q rfl rfl (qt_call rfl Try.func93 rfl (by decide) rfl (fun w M => specIndex_any w _ _ _ ((mem_own1 (n := 2) M rfl).rd))) ?_
            refine hK83 _ _ (fun w M => (mem_erase 4 (mem_erase 7 (mem_take 9 M)) :)) ?_
            refine ga_op 12 (by kernel_rfl) rfl (.free rfl) fun K85 hK85 => ?_
            refine go_slice1 rfl rfl rfl rfl Try.underlying22 ?_
            intro B84
            refine hK85 _ _ (fun w M => (mem_erase 4 (mem_erase 7 (mem_take 9 M)) :)) ?_
            refine ga_op 13 (by kernel_rfl) rfl (.free rfl) fun K87 hK87 => ?_
            refine go_append (n := 4) (m := 9) rfl rfl rfl Try.underlying22 rfl rfl rfl rfl (by omega) ?_
            intro va86 vc86
            refine hK87 _ _ (fun w M => (mem_erase 4 (mem_erase 7 (mem_take 9 M)) :)) ?_
            refine ga_v 14 rfl (by kernel_rfl) (by kernel_rfl) (by kernel_rfl) (.free rfl) rfl rfl (qt_field (z := 0) (off := 2) rfl rfl Try.underlying28 rfl (by kernel_rfl) rfl) (fun _ _ _ h => h) ?_
            refine ga_op 15 (by kernel_rfl) rfl (.free rfl) fun K88 hK88 => ?_
            refine go_storeB (n := 7) rfl rfl rfl rfl (by kernel_rfl) rfl rfl rfl (by first | decide | simp) ?_
            refine hK88 _ _ (fun w M => (mem_erase 4 (mem_erase 7 (mem_take 9 M)) :)) ?_
            refine ga_done (by kernel_rfl) ?_
            refine gk_then (hK80 _ _ ?_)
            refine gc_seq fun K89 hK89 => ?_
            refine gc_region ?_
            refine g_op (.free rfl) fun K91 hK91 => ?_
            refine go_slice0 rfl rfl rfl Try.underlying22 ?_
            intro B90
            refine hK91 _ _ ?_
            refine g_v (.free rfl) rfl rfl (qt_assign rfl rfl) ?_
            refine g_nil ?_
            refine gk_then (hK89 _ _ ?_)
            refine gc_seq fun K92 hK92 => ?_
            refine gc_seq fun K93 hK93 => ?_
            refine gc_region ?_
            refine g_v (.free rfl) rfl rfl (qt_assign rfl rfl) ?_
            refine g_nil ?_
            refine gk_then (hK93 _ _ ?_)
            refine gc_block ?_
            simp only [tabTo_succ]
            try simp only [List.nil_append, List.cons_append, List.append_assoc, List.set_cons_succ, List.set_cons_zero]
            refine gc_loop ([(0, _), (1, _), (2, _), (4, _), (5, _), (6, _), (7, _), (8, _), (9, _), (16, _), (40, _), (61, _)] : Env) (fun s : Nat × (Option Addr) × Nat => (fun (l : Nat) (e : Option Addr) (z : Nat) => ([(10, .slice e (tabTo (fun j => idxI xs (c.th (at0 xs (k : Int)) (at0 xs (j : Int)))) l).length z), (11, .int .i64 (l : Int))] : Env)) s.1 s.2.1 s.2.2) (fun s : Nat × (Option Addr) × Nat => (fun (l : Nat) (e : Option Addr) (z : Nat) => ([(10, own1I (.slice e (tabTo (fun j => idxI xs (c.th (at0 xs (k : Int)) (at0 xs (j : Int)))) l).length z) (tabTo (fun j => idxI xs (c.th (at0 xs (k : Int)) (at0 xs (j : Int)))) l))] : List (Nat × Itm))) s.1 s.2.1 s.2.2) (fun s : Nat × (Option Addr) × Nat => (fun (l : Nat) (e : Option Addr) (z : Nat) => l ≤ xs.length) s.1 s.2.1 s.2.2) (fun s : Nat × (Option Addr) × Nat => (fun (l : Nat) (e : Option Addr) (z : Nat) => xs.length - l) s.1 s.2.1 s.2.2) (0, _, _) (sub_cons rfl (sub_cons rfl (sub_cons rfl (sub_cons rfl (sub_cons rfl (sub_cons rfl (sub_cons rfl (sub_cons rfl (sub_cons rfl (sub_cons rfl (sub_cons rfl (sub_cons rfl (sub_cons rfl (sub_cons rfl sub_nil)))))))))))))) rfl (Nat.zero_le _) ?_
            rintro ⟨l, e, z⟩ hinv KL94 hKL94
            simp only [updL, List.foldl_cons, List.foldl_nil, List.set_cons_succ, List.set_cons_zero, List.cons_append, List.nil_append] at hinv hKL94 ⊢
            have hl3 := hinv
            have hl4 := tabTo_len (fun j => idxI xs (c.th (at0 xs (k : Int)) (at0 xs (j : Int)))) l
            refine gc_seq fun K95 hK95 => ?_
            refine gc_seq fun K96 hK96 => ?_
            refine gc_region ?_
            refine g_v (.free rfl) rfl rfl (qt_move rfl rfl) ?_
            refine g_v (.free rfl) rfl rfl (qt_move rfl rfl) ?_
            refine g_v (.free rfl) rfl rfl (qt_len rfl rfl ulE1 (fun w M => lenV_rd hu)) ?_
            refine g_v (.free rfl) rfl rfl (qt_lss rfl rfl rfl) ?_
            refine g_nil ?_
            refine gk_then (hK96 _ _ ?_)
            refine gc_cond rfl (fun hc4 => ?_) (fun hc4 => ?_)
            · try simp only [decide_eq_true_eq, decide_eq_false_iff_not, Bool.not_eq_true', Bool.not_eq_false', Bool.not_eq_eq_eq_not, Bool.not_true, Bool.not_false, ne_eq, Decidable.not_not, Classical.not_not] at hc4
              refine gc_skip ?_
              refine gk_then (hK95 _ _ ?_)
              refine gc_seq fun K97 hK97 => ?_
              refine gc_block ?_
              have hk1 := allP_k hx (k := k) (by omega)
              have hA := arrP hS hk1.1 hk1.2
              have a0 := hk1.1; have a1 := hk1.2; have a2 := hA.fs; have a3 := hA.fm; have a4 := hA.row; have a5 := hA.ft
              have hl1 := allP_k hx (k := l) (by omega)
              have b0 := hl1.1; have b1 := hl1.2
              try simp only [List.nil_append, List.cons_append, List.append_assoc, List.set_cons_succ, List.set_cons_zero]
              refine ga_start _ (fun w M => mem_erase 10 (M)) ?_
              refine ga_v 0 rfl (by kernel_rfl) (by kernel_rfl) (by kernel_rfl) (.free rfl) rfl rfl (qt_move rfl rfl) (fun _ _ _ h => h) ?_
              refine ga_v 1 rfl (by kernel_rfl) (by kernel_rfl) (by kernel_rfl) (.free rfl) rfl rfl (qt_move rfl rfl) (fun _ _ _ h => h) ?_
              refine ga_v 2 rfl (by kernel_rfl) (by kernel_rfl) (by kernel_rfl) (.free rfl) rfl rfl (qt_field (z := 0) (off := 4) rfl rfl Try.underlying28 rfl (by kernel_rfl) rfl) (fun _ _ _ h => h) ?_
              refine ga_v 3 rfl (by kernel_rfl) (by kernel_rfl) (by kernel_rfl) (.free rfl) rfl rfl (qt_loadB (n := 0) rfl rfl Try.underlying23 rfl rfl rfl) (fun _ _ _ h => h) ?_
              refine ga_v 4 rfl (by kernel_rfl) (by kernel_rfl) (by kernel_rfl) (.free rfl) rfl rfl (qt_move rfl rfl) (fun _ _ _ h => h) ?_
              refine ga_v 5 rfl (by kernel_rfl) (by kernel_rfl) (by kernel_rfl) (.free rfl) rfl rfl (qt_move rfl rfl) (fun _ _ _ h => h) ?_
              refine ga_v 6 rfl (by kernel_rfl) (by kernel_rfl) (by kernel_rfl) (.free rfl) rfl rfl (qt_index rfl rfl rfl ulE1 szE1 (fun w M => lenA_rd hu) (by omega) (by omega)) (fun _ _ _ h => h) ?_
              refine ga_v 7 rfl (by kernel_rfl) (by kernel_rfl) (by kernel_rfl) (.free rfl) rfl rfl (qt_load1 rfl rfl Try.underlying2 rfl (fun w M => mem_rd M hu) (by omega) (by omega)) (fun _ _ _ h => h) ?_
              refine ga_v 8 rfl (by kernel_rfl) (by kernel_rfl) (by kernel_rfl) (.free rfl) rfl rfl (qt_index rfl rfl rfl ulE2 szE2 (fun w M => lenA_rd2 h4) (by omega) (by omega)) (fun _ _ _ h => h) ?_
              refine ga_load2 9 rfl (by kernel_rfl) (by kernel_rfl) (by kernel_rfl) (.free rfl) rfl rfl rfl rfl Try.underlying22 rfl h4 (by omega) (by omega) (fun _ _ _ _ h => h) ?_
              intro ra98 rc98 hr98
              refine ga_v 10 rfl (by kernel_rfl) (by kernel_rfl) (by kernel_rfl) (.free rfl) rfl rfl (qt_move rfl rfl) (fun _ _ _ h => h) ?_
              refine ga_v 11 rfl (by kernel_rfl) (by kernel_rfl) (by kernel_rfl) (.free rfl) rfl rfl (qt_move rfl rfl) (fun _ _ _ h => h) ?_
              refine ga_v 12 rfl (by kernel_rfl) (by kernel_rfl) (by kernel_rfl) (.free rfl) rfl rfl (qt_index rfl rfl rfl ulE1 szE1 (fun w M => lenA_rd hu) (by omega) (by omega)) (fun _ _ _ h => h) ?_
              refine ga_v 13 rfl (by kernel_rfl) (by kernel_rfl) (by kernel_rfl) (.free rfl) rfl rfl (qt_load1 rfl rfl Try.underlying2 rfl (fun w M => mem_rd M hu) (by omega) (by omega)) (fun _ _ _ h => h) ?_
              refine ga_v 14 rfl (by kernel_rfl) (by kernel_rfl) (by kernel_rfl) (.free rfl) rfl rfl (qt_index rfl rfl rfl ulE1 szE1 (fun w M => lenA_rd hr98) (by omega) (by omega)) (fun _ _ _ h => h) ?_
              refine ga_v 15 rfl (by kernel_rfl) (by kernel_rfl) (by kernel_rfl) (.free rfl) rfl rfl (qt_load1 rfl rfl Try.underlying2 rfl (fun w M => mem_rd M hr98) (by omega) (by omega)) (fun _ _ _ h => h) ?_
              refine ga_op 16 (by kernel_rfl) rfl (.free rfl) fun K99 hK99 => ?_
              refine go_q rfl rfl (qt_call rfl Try.func93 rfl (by decide) rfl (fun w M => specIndex_any w _ _ _ (mem_rd M hu))) ?_
              refine hK99 _ _ (fun w M => (mem_erase 10 (mem_take 11 M) :)) ?_
              refine ga_op 17 (by kernel_rfl) rfl (.free rfl) fun K101 hK101 => ?_
              refine go_slice1 rfl rfl rfl rfl Try.underlying22 ?_
              intro B100
              refine hK101 _ _ (fun w M => (mem_erase 10 (mem_take 11 M) :)) ?_
              refine ga_op 18 (by kernel_rfl) rfl (.free rfl) fun K103 hK103 => ?_
              refine go_append (n := 10) (m := 11) rfl rfl rfl Try.underlying22 rfl rfl rfl rfl (by omega) ?_
              intro va102 vc102
              refine hK103 _ _ (fun w M => (mem_erase 10 (mem_take 11 M) :)) ?_
              refine ga_v 19 rfl (by kernel_rfl) (by kernel_rfl) (by kernel_rfl) (.free rfl) rfl rfl (qt_assign rfl rfl) (fun _ _ _ h => h) ?_
              refine ga_done (by kernel_rfl) ?_
              refine gk_block ?_
              refine gk_then (hK97 _ _ ?_)
              refine gc_region ?_
              refine g_v (.free rfl) rfl rfl (qt_move rfl rfl) ?_
              refine g_v (.free rfl) rfl rfl (qt_add rfl rfl rfl (by omega)) ?_
              refine g_v (.free rfl) rfl rfl (qt_assign rfl rfl) ?_
              refine g_nil ?_
              simp only [show ∀ f g, at0 (row2 c.m f) g = c.th f g from fun _ _ => rfl, tabTo_succ]
              refine gk_then (gk_take 11 ?_)
              refine gk_sub ?hs_104 (hKL94 (l + 1, _, _) ?hi_104 ?hm_104)
              case hs_104 => exact (sub_cons rfl (sub_cons rfl (sub_cons rfl (sub_cons rfl (sub_cons rfl (sub_cons rfl (sub_cons rfl (sub_cons rfl (sub_cons rfl (sub_cons rfl (sub_cons rfl (sub_cons rfl (sub_cons rfl (sub_cons rfl sub_nil))))))))))))))
              case hi_104 => omega
              case hm_104 => omega
            · try simp only [decide_eq_true_eq, decide_eq_false_iff_not, Bool.not_eq_true', Bool.not_eq_false', Bool.not_eq_eq_eq_not, Bool.not_true, Bool.not_false, ne_eq, Decidable.not_not, Classical.not_not] at hc4
              refine gc_exit ?_
              refine gk_then_exit ?_
              refine gk_then_exit ?_
              refine gk_block_hit ?_
              refine gk_then (hK92 _ _ ?_)
              refine gc_region ?_
              refine g_v (.free rfl) rfl rfl (qt_field (z := 0) (off := 4) rfl rfl Try.underlying28 rfl (by kernel_rfl) rfl) ?_
              refine g_v (.free rfl) rfl rfl (qt_loadB (n := 7) rfl rfl Try.underlying23 rfl rfl rfl) ?_
              refine g_v (.free rfl) rfl rfl (qt_move rfl rfl) ?_
              refine g_op (.free rfl) fun K106 hK106 => ?_
              refine go_sliceR1 (m := 10) rfl rfl rfl rfl Try.underlying23 rfl ?_
              intro B105
              refine hK106 _ _ ?_
              refine g_op (.free rfl) fun K108 hK108 => ?_
              refine go_appendRow (n := 6) (m := 10) (m' := 9) rfl rfl rfl Try.underlying23 rfl rfl rfl rfl rfl (by omega) ?_
              intro va107 vc107
              refine hK108 _ _ ?_
              refine g_v (.free rfl) rfl rfl (qt_field (z := 0) (off := 4) rfl rfl Try.underlying28 rfl (by kernel_rfl) rfl) ?_
              refine g_op (.free rfl) fun K109 hK109 => ?_
              refine go_storeB (n := 7) rfl rfl rfl rfl (by kernel_rfl) rfl rfl rfl (by first | decide | simp) ?_
              refine hK109 _ _ ?_
              refine g_nil ?_
              refine gk_block ?_
              refine gk_then (hK70 _ _ ?_)
              refine gc_region ?_
              refine g_v (.free rfl) rfl rfl (qt_move rfl rfl) ?_
              refine g_v (.free rfl) rfl rfl (qt_add rfl rfl rfl (by omega)) ?_
              refine g_v (.free rfl) rfl rfl (qt_assign rfl rfl) ?_
              refine g_nil ?_
              obtain rfl : l = xs.length := by omega
              simp only [rowsTo_succ]
              refine gk_then (gk_take 8 ?_)
              refine gk_sub ?hs_110 (hKL67 (k + 1, _, _, _, _, _, _, _) ?hi_110 ?hm_110)
              case hs_110 => exact (sub_cons rfl (sub_cons rfl (sub_cons rfl (sub_cons rfl (sub_cons rfl (sub_cons rfl (sub_cons rfl (sub_cons rfl (sub_cons rfl (sub_cons rfl (sub_cons rfl sub_nil)))))))))))
              case hi_110 => omega
              case hm_110 => omega
          · refine go_q rfl rfl (qt_call rfl Try.func93 rfl (by decide) rfl (fun w M => specIndex_any w _ _ _ ((mem_own1 (n := 2) M rfl).rd))) ?_
            refine hK81 _ _ (fun w M => (mem_erase 4 (mem_erase 7 (mem_take 9 M)) :)) ?_
            refine ga_two 1 12 (by kernel_rfl) rfl rfl (.free rfl) (.free rfl) (fun K112 hK112 => ?_) (fun K112 hK112 => ?_)
            · refine go_v rfl rfl (qt_loadB (n := 7) rfl rfl Try.underlying22 rfl rfl rfl) ?_
              refine hK112 _ _ (fun w M => (mem_erase 4 (mem_erase 7 (mem_take 9 M)) :)) ?_
              refine ga_op 12 (by kernel_rfl) rfl (.free rfl) fun K115 hK115 => ?_
              refine go_slice1 rfl rfl rfl rfl Try.underlying22 ?_
              intro B114
              refine hK115 _ _ (fun w M => (mem_erase 4 (mem_erase 7 (mem_take 9 M)) :)) ?_
              refine ga_op 13 (by kernel_rfl) rfl (.free rfl) fun K117 hK117 => ?_
              refine go_append (n := 4) (m := 9) rfl rfl rfl Try.underlying22 rfl rfl rfl rfl (by omega) ?_
              intro va116 vc116
              refine hK117 _ _ (fun w M => (mem_erase 4 (mem_erase 7 (mem_take 9 M)) :)) ?_
              refine ga_v 14 rfl (by kernel_rfl) (by kernel_rfl) (by kernel_rfl) (.free rfl) rfl rfl (qt_field (z := 0) (off := 2) rfl rfl Try.underlying28 rfl (by kernel_rfl) rfl) (fun _ _ _ h => h) ?_
              refine ga_op 15 (by kernel_rfl) rfl (.free rfl) fun K118 hK118 => ?_
              refine go_storeB (n := 7) rfl rfl rfl rfl (by kernel_rfl) rfl rfl rfl (by first | decide | simp) ?_
              refine hK118 _ _ (fun w M => (mem_erase 4 (mem_erase 7 (mem_take 9 M)) :)) ?_
              refine ga_done (by kernel_rfl) ?_
              refine gk_then (hK80 _ _ ?_)
              refine gc_seq fun K119 hK119 => ?_
              refine gc_region ?_
              refine g_op (.free rfl) fun K121 hK121 => ?_
              refine go_slice0 rfl rfl rfl Try.underlying22 ?_
              intro B120
              refine hK121 _ _ ?_
              refine g_v (.free rfl) rfl rfl (qt_assign rfl rfl) ?_
              refine g_nil ?_
              refine gk_then (hK119 _ _ ?_)
              refine gc_seq fun K122 hK122 => ?_
              refine gc_seq fun K123 hK123 => ?_
              refine gc_region ?_
              refine g_v (.free rfl) rfl rfl (qt_assign rfl rfl) ?_
              refine g_nil ?_
              refine gk_then (hK123 _ _ ?_)
              refine gc_block ?_
              simp only [tabTo_succ]
              try simp only [List.nil_append, List.cons_append, List.append_assoc, List.set_cons_succ, List.set_cons_zero]
              refine gc_loop ([(0, _), (1, _), (2, _), (4, _), (5, _), (6, _), (7, _), (8, _), (9, _), (16, _), (40, _), (61, _)] : Env) (fun s : Nat × (Option Addr) × Nat => (fun (l : Nat) (e : Option Addr) (z : Nat) => ([(10, .slice e (tabTo (fun j => idxI xs (c.th (at0 xs (k : Int)) (at0 xs (j : Int)))) l).length z), (11, .int .i64 (l : Int))] : Env)) s.1 s.2.1 s.2.2) (fun s : Nat × (Option Addr) × Nat => (fun (l : Nat) (e : Option Addr) (z : Nat) => ([(10, own1I (.slice e (tabTo (fun j => idxI xs (c.th (at0 xs (k : Int)) (at0 xs (j : Int)))) l).length z) (tabTo (fun j => idxI xs (c.th (at0 xs (k : Int)) (at0 xs (j : Int)))) l))] : List (Nat × Itm))) s.1 s.2.1 s.2.2) (fun s : Nat × (Option Addr) × Nat => (fun (l : Nat) (e : Option Addr) (z : Nat) => l ≤ xs.length) s.1 s.2.1 s.2.2) (fun s : Nat × (Option Addr) × Nat => (fun (l : Nat) (e : Option Addr) (z : Nat) => xs.length - l) s.1 s.2.1 s.2.2) (0, _, _) (sub_cons rfl (sub_cons rfl (sub_cons rfl (sub_cons rfl (sub_cons rfl (sub_cons rfl (sub_cons rfl (sub_cons rfl (sub_cons rfl (sub_cons rfl (sub_cons rfl (sub_cons rfl (sub_cons rfl (sub_cons rfl sub_nil)))))))))))))) rfl (Nat.zero_le _) ?_
              rintro ⟨l, e, z⟩ hinv KL124 hKL124
              simp only [updL, List.foldl_cons, List.foldl_nil, List.set_cons_succ, List.set_cons_zero, List.cons_append, List.nil_append] at hinv hKL124 ⊢
              have hl3 := hinv
              have hl4 := tabTo_len (fun j => idxI xs (c.th (at0 xs (k : Int)) (at0 xs (j : Int)))) l
              refine gc_seq fun K125 hK125 => ?_
              refine gc_seq fun K126 hK126 => ?_
              refine gc_region ?_
              refine g_v (.free rfl) rfl rfl (qt_move rfl rfl) ?_
              refine g_v (.free rfl) rfl rfl (qt_move rfl rfl) ?_
              refine g_v (.free rfl) rfl rfl (qt_len rfl rfl ulE1 (fun w M => lenV_rd hu)) ?_
              refine g_v (.free rfl) rfl rfl (qt_lss rfl rfl rfl) ?_
              refine g_nil ?_
              refine gk_then (hK126 _ _ ?_)
              refine gc_cond rfl (fun hc5 => ?_) (fun hc5 => ?_)
              · try simp only [decide_eq_true_eq, decide_eq_false_iff_not, Bool.not_eq_true', Bool.not_eq_false', Bool.not_eq_eq_eq_not, Bool.not_true, Bool.not_false, ne_eq, Decidable.not_not, Classical.not_not] at hc5
                refine gc_skip ?_
                refine gk_then (hK125 _ _ ?_)
                refine gc_seq fun K127 hK127 => ?_
                refine gc_block ?_
                have hk1 := allP_k hx (k := k) (by omega)
                have hA := arrP hS hk1.1 hk1.2
                have a0 := hk1.1; have a1 := hk1.2; have a2 := hA.fs; have a3 := hA.fm; have a4 := hA.row; have a5 := hA.ft
                have hl1 := allP_k hx (k := l) (by omega)
                have b0 := hl1.1; have b1 := hl1.2
                try simp only [List.nil_append, List.cons_append, List.append_assoc, List.set_cons_succ, List.set_cons_zero]
                refine ga_start _ (fun w M => mem_erase 10 (M)) ?_
                refine ga_v 0 rfl (by kernel_rfl) (by kernel_rfl) (by kernel_rfl) (.free rfl) rfl rfl (qt_move rfl rfl) (fun _ _ _ h => h) ?_
                refine ga_v 1 rfl (by kernel_rfl) (by kernel_rfl) (by kernel_rfl) (.free rfl) rfl rfl (qt_move rfl rfl) (fun _ _ _ h => h) ?_
                refine ga_v 2 rfl (by kernel_rfl) (by kernel_rfl) (by kernel_rfl) (.free rfl) rfl rfl (qt_field (z := 0) (off := 4) rfl rfl Try.underlying28 rfl (by kernel_rfl) rfl) (fun _ _ _ h => h) ?_
                refine ga_v 3 rfl (by kernel_rfl) (by kernel_rfl) (by kernel_rfl) (.free rfl) rfl rfl (qt_loadB (n := 0) rfl rfl Try.underlying23 rfl rfl rfl) (fun _ _ _ h => h) ?_
                refine ga_v 4 rfl (by kernel_rfl) (by kernel_rfl) (by kernel_rfl) (.free rfl) rfl rfl (qt_move rfl rfl) (fun _ _ _ h => h) ?_
                refine ga_v 5 rfl (by kernel_rfl) (by kernel_rfl) (by kernel_rfl) (.free rfl) rfl rfl (qt_move rfl rfl) (fun _ _ _ h => h) ?_
                refine ga_v 6 rfl (by kernel_rfl) (by kernel_rfl) (by kernel_rfl) (.free rfl) rfl rfl (qt_index rfl rfl rfl ulE1 szE1 (fun w M => lenA_rd hu) (by omega) (by omega)) (fun _ _ _ h => h) ?_
                refine ga_v 7 rfl (by kernel_rfl) (by kernel_rfl) (by kernel_rfl) (.free rfl) rfl rfl (qt_load1 rfl rfl Try.underlying2 rfl (fun w M => mem_rd M hu) (by omega) (by omega)) (fun _ _ _ h => h) ?_
                refine ga_v 8 rfl (by kernel_rfl) (by kernel_rfl) (by kernel_rfl) (.free rfl) rfl rfl (qt_index rfl rfl rfl ulE2 szE2 (fun w M => lenA_rd2 h4) (by omega) (by omega)) (fun _ _ _ h => h) ?_
                refine ga_load2 9 rfl (by kernel_rfl) (by kernel_rfl) (by kernel_rfl) (.free rfl) rfl rfl rfl rfl Try.underlying22 rfl h4 (by omega) (by omega) (fun _ _ _ _ h => h) ?_
                intro ra128 rc128 hr128
                refine ga_v 10 rfl (by kernel_rfl) (by kernel_rfl) (by kernel_rfl) (.free rfl) rfl rfl (qt_move rfl rfl) (fun _ _ _ h => h) ?_
                refine ga_v 11 rfl (by kernel_rfl) (by kernel_rfl) (by kernel_rfl) (.free rfl) rfl rfl (qt_move rfl rfl) (fun _ _ _ h => h) ?_
                refine ga_v 12 rfl (by kernel_rfl) (by kernel_rfl) (by kernel_rfl) (.free rfl) rfl rfl (qt_index rfl rfl rfl ulE1 szE1 (fun w M => lenA_rd hu) (by omega) (by omega)) (fun _ _ _ h => h) ?_
                refine ga_v 13 rfl (by kernel_rfl) (by kernel_rfl) (by kernel_rfl) (.free rfl) rfl rfl (qt_load1 rfl rfl Try.underlying2 rfl (fun w M => mem_rd M hu) (by omega) (by omega)) (fun _ _ _ h => h) ?_
                refine ga_v 14 rfl (by kernel_rfl) (by kernel_rfl) (by kernel_rfl) (.free rfl) rfl rfl (qt_index rfl rfl rfl ulE1 szE1 (fun w M => lenA_rd hr128) (by omega) (by omega)) (fun _ _ _ h => h) ?_
                refine ga_v 15 rfl (by kernel_rfl) (by kernel_rfl) (by kernel_rfl) (.free rfl) rfl rfl (qt_load1 rfl rfl Try.underlying2 rfl (fun w M => mem_rd M hr128) (by omega) (by omega)) (fun _ _ _ h => h) ?_
                refine ga_op 16 (by kernel_rfl) rfl (.free rfl) fun K129 hK129 => ?_
                refine go_q rfl rfl (qt_call rfl Try.func93 rfl (by decide) rfl (fun w M => specIndex_any w _ _ _ (mem_rd M hu))) ?_
                refine hK129 _ _ (fun w M => (mem_erase 10 (mem_take 11 M) :)) ?_
                refine ga_op 17 (by kernel_rfl) rfl (.free rfl) fun K131 hK131 => ?_
                refine go_slice1 rfl rfl rfl rfl Try.underlying22 ?_
                intro B130
                refine hK131 _ _ (fun w M => (mem_erase 10 (mem_take 11 M) :)) ?_
                refine ga_op 18 (by kernel_rfl) rfl (.free rfl) fun K133 hK133 => ?_
                refine go_append (n := 10) (m := 11) rfl rfl rfl Try.underlying22 rfl rfl rfl rfl (by omega) ?_
                intro va132 vc132
                refine hK133 _ _ (fun w M => (mem_erase 10 (mem_take 11 M) :)) ?_
                refine ga_v 19 rfl (by kernel_rfl) (by kernel_rfl) (by kernel_rfl) (.free rfl) rfl rfl (qt_assign rfl rfl) (fun _ _ _ h => h) ?_
                refine ga_done (by kernel_rfl) ?_
                refine gk_block ?_
                refine gk_then (hK127 _ _ ?_)
                refine gc_region ?_
                refine g_v (.free rfl) rfl rfl (qt_move rfl rfl) ?_
                refine g_v (.free rfl) rfl rfl (qt_add rfl rfl rfl (by omega)) ?_
                refine g_v (.free rfl) rfl rfl (qt_assign rfl rfl) ?_
                refine g_nil ?_
                simp only [show ∀ f g, at0 (row2 c.m f) g = c.th f g from fun _ _ => rfl, tabTo_succ]
                refine gk_then (gk_take 11 ?_)
                refine gk_sub ?hs_134 (hKL124 (l + 1, _, _) ?hi_134 ?hm_134)
                case hs_134 => exact (sub_cons rfl (sub_cons rfl (sub_cons rfl (sub_cons rfl (sub_cons rfl (sub_cons rfl (sub_cons rfl (sub_cons rfl (sub_cons rfl (sub_cons rfl (sub_cons rfl (sub_cons rfl (sub_cons rfl (sub_cons rfl sub_nil))))))))))))))
                case hi_134 => omega
                case hm_134 => omega
              · try simp only [decide_eq_true_eq, decide_eq_false_iff_not, Bool.not_eq_true', Bool.not_eq_false', Bool.not_eq_eq_eq_not, Bool.not_true, Bool.not_false, ne_eq, Decidable.not_not, Classical.not_not] at hc5
                refine gc_exit ?_
                refine gk_then_exit ?_
                refine gk_then_exit ?_
                refine gk_block_hit ?_
                refine gk_then (hK122 _ _ ?_)
                refine gc_region ?_
                refine g_v (.free rfl) rfl rfl (qt_field (z := 0) (off := 4) rfl rfl Try.underlying28 rfl (by kernel_rfl) rfl) ?_
                refine g_v (.free rfl) rfl rfl (qt_loadB (n := 7) rfl rfl Try.underlying23 rfl rfl rfl) ?_
                refine g_v (.free rfl) rfl rfl (qt_move rfl rfl) ?_
                refine g_op (.free rfl) fun K136 hK136 => ?_
                refine go_sliceR1 (m := 10) rfl rfl rfl rfl Try.underlying23 rfl ?_
                intro B135
                refine hK136 _ _ ?_
                refine g_op (.free rfl) fun K138 hK138 => ?_
                refine go_appendRow (n := 6) (m := 10) (m' := 9) rfl rfl rfl Try.underlying23 rfl rfl rfl rfl rfl (by omega) ?_
                intro va137 vc137
                refine hK138 _ _ ?_
                refine g_v (.free rfl) rfl rfl (qt_field (z := 0) (off := 4) rfl rfl Try.underlying28 rfl (by kernel_rfl) rfl) ?_
                refine g_op (.free rfl) fun K139 hK139 => ?_
                refine go_storeB (n := 7) rfl rfl rfl rfl (by kernel_rfl) rfl rfl rfl (by first | decide | simp) ?_
                refine hK139 _ _ ?_
                refine g_nil ?_
                refine gk_block ?_
                refine gk_then (hK70 _ _ ?_)
                refine gc_region ?_
                refine g_v (.free rfl) rfl rfl (qt_move rfl rfl) ?_
                refine g_v (.free rfl) rfl rfl (qt_add rfl rfl rfl (by omega)) ?_
                refine g_v (.free rfl) rfl rfl (qt_assign rfl rfl) ?_
                refine g_nil ?_
                obtain rfl : l = xs.length := by omega
                simp only [rowsTo_succ]
                refine gk_then (gk_take 8 ?_)
                refine gk_sub ?hs_140 (hKL67 (k + 1, _, _, _, _, _, _, _) ?hi_140 ?hm_140)
                case hs_140 => exact (sub_cons rfl (sub_cons rfl (sub_cons rfl (sub_cons rfl (sub_cons rfl (sub_cons rfl (sub_cons rfl (sub_cons rfl (sub_cons rfl (sub_cons rfl (sub_cons rfl sub_nil)))))))))))
                case hi_140 => omega
                case hm_140 => omega
            · refine go_slice1 rfl rfl rfl rfl Try.underlying22 ?_
              intro B141
              refine hK112 _ _ (fun w M => (mem_erase 4 (mem_erase 7 (mem_take 9 M)) :)) ?_
              refine ga_op 1 (by kernel_rfl) rfl (.free rfl) fun K143 hK143 => ?_
              refine go_v rfl rfl (qt_loadB (n := 7) rfl rfl Try.underlying22 rfl rfl rfl) ?_
              refine hK143 _ _ (fun w M => (mem_erase 4 (mem_erase 7 (mem_take 9 M)) :)) ?_
              refine ga_op 13 (by kernel_rfl) rfl (.free rfl) fun K145 hK145 => ?_
              refine go_append (n := 4) (m := 9) rfl rfl rfl Try.underlying22 rfl rfl rfl rfl (by omega) ?_
              intro va144 vc144
              refine hK145 _ _ (fun w M => (mem_erase 4 (mem_erase 7 (mem_take 9 M)) :)) ?_
              refine ga_v 14 rfl (by kernel_rfl) (by kernel_rfl) (by kernel_rfl) (.free rfl) rfl rfl (qt_field (z := 0) (off := 2) rfl rfl Try.underlying28 rfl (by kernel_rfl) rfl) (fun _ _ _ h => h) ?_
              refine ga_op 15 (by kernel_rfl) rfl (.free rfl) fun K146 hK146 => ?_
              refine go_storeB (n := 7) rfl rfl rfl rfl (by kernel_rfl) rfl rfl rfl (by first | decide | simp) ?_
              refine hK146 _ _ (fun w M => (mem_erase 4 (mem_erase 7 (mem_take 9 M)) :)) ?_
              refine ga_done (by kernel_rfl) ?_
              refine gk_then (hK80 _ _ ?_)
              refine gc_seq fun K147 hK147 => ?_
              refine gc_region ?_
              refine g_op (.free rfl) fun K149 hK149 => ?_
              refine go_slice0 rfl rfl rfl Try.underlying22 ?_
              intro B148
              refine hK149 _ _ ?_
              refine g_v (.free rfl) rfl rfl (qt_assign rfl rfl) ?_
              refine g_nil ?_
              refine gk_then (hK147 _ _ ?_)
              refine gc_seq fun K150 hK150 => ?_
              refine gc_seq fun K151 hK151 => ?_
              refine gc_region ?_
              refine g_v (.free rfl) rfl rfl (qt_assign rfl rfl) ?_
              refine g_nil ?_
              refine gk_then (hK151 _ _ ?_)
              refine gc_block ?_
              simp only [tabTo_succ]
              try simp only [List.nil_append, List.cons_append, List.append_assoc, List.set_cons_succ, List.set_cons_zero]
              refine gc_loop ([(0, _), (1, _), (2, _), (4, _), (5, _), (6, _), (7, _), (8, _), (9, _), (16, _), (40, _), (61, _)] : Env) (fun s : Nat × (Option Addr) × Nat => (fun (l : Nat) (e : Option Addr) (z : Nat) => ([(10, .slice e (tabTo (fun j => idxI xs (c.th (at0 xs (k : Int)) (at0 xs (j : Int)))) l).length z), (11, .int .i64 (l : Int))] : Env)) s.1 s.2.1 s.2.2) (fun s : Nat × (Option Addr) × Nat => (fun (l : Nat) (e : Option Addr) (z : Nat) => ([(10, own1I (.slice e (tabTo (fun j => idxI xs (c.th (at0 xs (k : Int)) (at0 xs (j : Int)))) l).length z) (tabTo (fun j => idxI xs (c.th (at0 xs (k : Int)) (at0 xs (j : Int)))) l))] : List (Nat × Itm))) s.1 s.2.1 s.2.2) (fun s : Nat × (Option Addr) × Nat => (fun (l : Nat) (e : Option Addr) (z : Nat) => l ≤ xs.length) s.1 s.2.1 s.2.2) (fun s : Nat × (Option Addr) × Nat => (fun (l : Nat) (e : Option Addr) (z : Nat) => xs.length - l) s.1 s.2.1 s.2.2) (0, _, _) (sub_cons rfl (sub_cons rfl (sub_cons rfl (sub_cons rfl (sub_cons rfl (sub_cons rfl (sub_cons rfl (sub_cons rfl (sub_cons rfl (sub_cons rfl (sub_cons rfl (sub_cons rfl (sub_cons rfl (sub_cons rfl sub_nil)))))))))))))) rfl (Nat.zero_le _) ?_
              rintro ⟨l, e, z⟩ hinv KL152 hKL152
              simp only [updL, List.foldl_cons, List.foldl_nil, List.set_cons_succ, List.set_cons_zero, List.cons_append, List.nil_append] at hinv hKL152 ⊢
              have hl3 := hinv
              have hl4 := tabTo_len (fun j => idxI xs (c.th (at0 xs (k : Int)) (at0 xs (j : Int)))) l
              refine gc_seq fun K153 hK153 => ?_
              refine gc_seq fun K154 hK154 => ?_
              refine gc_region ?_
              refine g_v (.free rfl) rfl rfl (qt_move rfl rfl) ?_
              refine g_v (.free rfl) rfl rfl (qt_move rfl rfl) ?_
              refine g_v (.free rfl) rfl rfl (qt_len rfl rfl ulE1 (fun w M => lenV_rd hu)) ?_
              refine g_v (.free rfl) rfl rfl (qt_lss rfl rfl rfl) ?_
              refine g_nil ?_
              refine gk_then (hK154 _ _ ?_)
              refine gc_cond rfl (fun hc6 => ?_) (fun hc6 => ?_)
              · try simp only [decide_eq_true_eq, decide_eq_false_iff_not, Bool.not_eq_true', Bool.not_eq_false', Bool.not_eq_eq_eq_not, Bool.not_true, Bool.not_false, ne_eq, Decidable.not_not, Classical.not_not] at hc6
                refine gc_skip ?_
                refine gk_then (hK153 _ _ ?_)
                refine gc_seq fun K155 hK155 => ?_
                refine gc_block ?_
                have hk1 := allP_k hx (k := k) (by omega)
                have hA := arrP hS hk1.1 hk1.2
                have a0 := hk1.1; have a1 := hk1.2; have a2 := hA.fs; have a3 := hA.fm; have a4 := hA.row; have a5 := hA.ft
                have hl1 := allP_k hx (k := l) (by omega)
                have b0 := hl1.1; have b1 := hl1.2
                try simp only [List.nil_append, List.cons_append, List.append_assoc, List.set_cons_succ, List.set_cons_zero]
                refine ga_start _ (fun w M => mem_erase 10 (M)) ?_
                refine ga_v 0 rfl (by kernel_rfl) (by kernel_rfl) (by kernel_rfl) (.free rfl) rfl rfl (qt_move rfl rfl) (fun _ _ _ h => h) ?_
                refine ga_v 1 rfl (by kernel_rfl) (by kernel_rfl) (by kernel_rfl) (.free rfl) rfl rfl (qt_move rfl rfl) (fun _ _ _ h => h) ?_
                refine ga_v 2 rfl (by kernel_rfl) (by kernel_rfl) (by kernel_rfl) (.free rfl) rfl rfl (qt_field (z := 0) (off := 4) rfl rfl Try.underlying28 rfl (by kernel_rfl) rfl) (fun _ _ _ h => h) ?_
                refine ga_v 3 rfl (by kernel_rfl) (by kernel_rfl) (by kernel_rfl) (.free rfl) rfl rfl (qt_loadB (n := 0) rfl rfl Try.underlying23 rfl rfl rfl) (fun _ _ _ h => h) ?_
                refine ga_v 4 rfl (by kernel_rfl) (by kernel_rfl) (by kernel_rfl) (.free rfl) rfl rfl (qt_move rfl rfl) (fun _ _ _ h => h) ?_
                refine ga_v 5 rfl (by kernel_rfl) (by kernel_rfl) (by kernel_rfl) (.free rfl) rfl rfl (qt_move rfl rfl) (fun _ _ _ h => h) ?_
                refine ga_v 6 rfl (by kernel_rfl) (by kernel_rfl) (by kernel_rfl) (.free rfl) rfl rfl (qt_index rfl rfl rfl ulE1 szE1 (fun w M => lenA_rd hu) (by omega) (by omega)) (fun _ _ _ h => h) ?_
                refine ga_v 7 rfl (by kernel_rfl) (by kernel_rfl) (by kernel_rfl) (.free rfl) rfl rfl (qt_load1 rfl rfl Try.underlying2 rfl (fun w M => mem_rd M hu) (by omega) (by omega)) (fun _ _ _ h => h) ?_
                refine ga_v 8 rfl (by kernel_rfl) (by kernel_rfl) (by kernel_rfl) (.free rfl) rfl rfl (qt_index rfl rfl rfl ulE2 szE2 (fun w M => lenA_rd2 h4) (by omega) (by omega)) (fun _ _ _ h => h) ?_
                refine ga_load2 9 rfl (by kernel_rfl) (by kernel_rfl) (by kernel_rfl) (.free rfl) rfl rfl rfl rfl Try.underlying22 rfl h4 (by omega) (by omega) (fun _ _ _ _ h => h) ?_
                intro ra156 rc156 hr156
                refine ga_v 10 rfl (by kernel_rfl) (by kernel_rfl) (by kernel_rfl) (.free rfl) rfl rfl (qt_move rfl rfl) (fun _ _ _ h => h) ?_
                refine ga_v 11 rfl (by kernel_rfl) (by kernel_rfl) (by kernel_rfl) (.free rfl) rfl rfl (qt_move rfl rfl) (fun _ _ _ h => h) ?_
                refine ga_v 12 rfl (by kernel_rfl) (by kernel_rfl) (by kernel_rfl) (.free rfl) rfl rfl (qt_index rfl rfl rfl ulE1 szE1 (fun w M => lenA_rd hu) (by omega) (by omega)) (fun _ _ _ h => h) ?_
                refine ga_v 13 rfl (by kernel_rfl) (by kernel_rfl) (by kernel_rfl) (.free rfl) rfl rfl (qt_load1 rfl rfl Try.underlying2 rfl (fun w M => mem_rd M hu) (by omega) (by omega)) (fun _ _ _ h => h) ?_
                refine ga_v 14 rfl (by kernel_rfl) (by kernel_rfl) (by kernel_rfl) (.free rfl) rfl rfl (qt_index rfl rfl rfl ulE1 szE1 (fun w M => lenA_rd hr156) (by omega) (by omega)) (fun _ _ _ h => h) ?_
                refine ga_v 15 rfl (by kernel_rfl) (by kernel_rfl) (by kernel_rfl) (.free rfl) rfl rfl (qt_load1 rfl rfl Try.underlying2 rfl (fun w M => mem_rd M hr156) (by omega) (by omega)) (fun _ _ _ h => h) ?_
                refine ga_op 16 (by kernel_rfl) rfl (.free rfl) fun K157 hK157 => ?_
                refine go_q rfl rfl (qt_call rfl Try.func93 rfl (by decide) rfl (fun w M => specIndex_any w _ _ _ (mem_rd M hu))) ?_
                refine hK157 _ _ (fun w M => (mem_erase 10 (mem_take 11 M) :)) ?_
                refine ga_op 17 (by kernel_rfl) rfl (.free rfl) fun K159 hK159 => ?_
                refine go_slice1 rfl rfl rfl rfl Try.underlying22 ?_
                intro B158
                refine hK159 _ _ (fun w M => (mem_erase 10 (mem_take 11 M) :)) ?_
                refine ga_op 18 (by kernel_rfl) rfl (.free rfl) fun K161 hK161 => ?_
                refine go_append (n := 10) (m := 11) rfl rfl rfl Try.underlying22 rfl rfl rfl rfl (by omega) ?_
                intro va160 vc160
                refine hK161 _ _ (fun w M => (mem_erase 10 (mem_take 11 M) :)) ?_
                refine ga_v 19 rfl (by kernel_rfl) (by kernel_rfl) (by kernel_rfl) (.free rfl) rfl rfl (qt_assign rfl rfl) (fun _ _ _ h => h) ?_
                refine ga_done (by kernel_rfl) ?_
                refine gk_block ?_
                refine gk_then (hK155 _ _ ?_)
                refine gc_region ?_
                refine g_v (.free rfl) rfl rfl (qt_move rfl rfl) ?_
                refine g_v (.free rfl) rfl rfl (qt_add rfl rfl rfl (by omega)) ?_
                refine g_v (.free rfl) rfl rfl (qt_assign rfl rfl) ?_
                refine g_nil ?_
                simp only [show ∀ f g, at0 (row2 c.m f) g = c.th f g from fun _ _ => rfl, tabTo_succ]
                refine gk_then (gk_take 11 ?_)
                refine gk_sub ?hs_162 (hKL152 (l + 1, _, _) ?hi_162 ?hm_162)
                case hs_162 => exact (sub_cons rfl (sub_cons rfl (sub_cons rfl (sub_cons rfl (sub_cons rfl (sub_cons rfl (sub_cons rfl (sub_cons rfl (sub_cons rfl (sub_cons rfl (sub_cons rfl (sub_cons rfl (sub_cons rfl (sub_cons rfl sub_nil))))))))))))))
                case hi_162 => omega
                case hm_162 => omega
              · try simp only [decide_eq_true_eq, decide_eq_false_iff_not, Bool.not_eq_true', Bool.not_eq_false', Bool.not_eq_eq_eq_not, Bool.not_true, Bool.not_false, ne_eq, Decidable.not_not, Classical.not_not] at hc6
                refine gc_exit ?_
                refine gk_then_exit ?_
                refine gk_then_exit ?_
                refine gk_block_hit ?_
                refine gk_then (hK150 _ _ ?_)
                refine gc_region ?_
                refine g_v (.free rfl) rfl rfl (qt_field (z := 0) (off := 4) rfl rfl Try.underlying28 rfl (by kernel_rfl) rfl) ?_
                refine g_v (.free rfl) rfl rfl (qt_loadB (n := 7) rfl rfl Try.underlying23 rfl rfl rfl) ?_
                refine g_v (.free rfl) rfl rfl (qt_move rfl rfl) ?_
                refine g_op (.free rfl) fun K164 hK164 => ?_
                refine go_sliceR1 (m := 10) rfl rfl rfl rfl Try.underlying23 rfl ?_
                intro B163
                refine hK164 _ _ ?_
                refine g_op (.free rfl) fun K166 hK166 => ?_
                refine go_appendRow (n := 6) (m := 10) (m' := 9) rfl rfl rfl Try.underlying23 rfl rfl rfl rfl rfl (by omega) ?_
                intro va165 vc165
                refine hK166 _ _ ?_
                refine g_v (.free rfl) rfl rfl (qt_field (z := 0) (off := 4) rfl rfl Try.underlying28 rfl (by kernel_rfl) rfl) ?_
                refine g_op (.free rfl) fun K167 hK167 => ?_
                refine go_storeB (n := 7) rfl rfl rfl rfl (by kernel_rfl) rfl rfl rfl (by first | decide | simp) ?_
                refine hK167 _ _ ?_
                refine g_nil ?_
                refine gk_block ?_
                refine gk_then (hK70 _ _ ?_)
                refine gc_region ?_
                refine g_v (.free rfl) rfl rfl (qt_move rfl rfl) ?_
                refine g_v (.free rfl) rfl rfl (qt_add rfl rfl rfl (by omega)) ?_
                refine g_v (.free rfl) rfl rfl (qt_assign rfl rfl) ?_
                refine g_nil ?_
                obtain rfl : l = xs.length := by omega
                simp only [rowsTo_succ]
                refine gk_then (gk_take 8 ?_)
                refine gk_sub ?hs_168 (hKL67 (k + 1, _, _, _, _, _, _, _) ?hi_168 ?hm_168)
                case hs_168 => exact (sub_cons rfl (sub_cons rfl (sub_cons rfl (sub_cons rfl (sub_cons rfl (sub_cons rfl (sub_cons rfl (sub_cons rfl (sub_cons rfl (sub_cons rfl (sub_cons rfl sub_nil)))))))))))
                case hi_168 => omega
                case hm_168 => omega
        · refine go_q rfl rfl (qt_call rfl Try.func93 rfl (by decide) rfl (fun w M => specIndex_any w _ _ _ ((mem_own1 (n := 2) M rfl).rd))) ?_
          refine hK72 _ _ (fun w M => (mem_erase 3 (mem_erase 7 (mem_take 8 M)) :)) ?_
          refine ga_two 1 12 (by kernel_rfl) rfl rfl (.free rfl) (.free rfl) (fun K170 hK170 => ?_) (fun K170 hK170 => ?_)
          · refine go_v rfl rfl (qt_loadB (n := 7) rfl rfl Try.underlying22 rfl rfl rfl) ?_
            refine hK170 _ _ (fun w M => (mem_erase 3 (mem_erase 7 (mem_take 8 M)) :)) ?_
            refine ga_op 12 (by kernel_rfl) rfl (.free rfl) fun K173 hK173 => ?_
            refine go_slice1 rfl rfl rfl rfl Try.underlying22 ?_
            intro B172
            refine hK173 _ _ (fun w M => (mem_erase 3 (mem_erase 7 (mem_take 8 M)) :)) ?_
            refine ga_op 13 (by kernel_rfl) rfl (.free rfl) fun K175 hK175 => ?_
            refine go_append (n := 3) (m := 8) rfl rfl rfl Try.underlying22 rfl rfl rfl rfl (by omega) ?_
            intro va174 vc174
            refine hK175 _ _ (fun w M => (mem_erase 3 (mem_erase 7 (mem_take 8 M)) :)) ?_
            refine ga_v 14 rfl (by kernel_rfl) (by kernel_rfl) (by kernel_rfl) (.free rfl) rfl rfl (qt_field (z := 0) (off := 1) rfl rfl Try.underlying28 rfl (by kernel_rfl) rfl) (fun _ _ _ h => h) ?_
            refine ga_op 15 (by kernel_rfl) rfl (.free rfl) fun K176 hK176 => ?_
            refine go_storeB (n := 7) rfl rfl rfl rfl (by kernel_rfl) rfl rfl rfl (by first | decide | simp) ?_
            refine hK176 _ _ (fun w M => (mem_erase 3 (mem_erase 7 (mem_take 8 M)) :)) ?_
            refine ga_done (by kernel_rfl) ?_
            refine gk_then (hK71 _ _ ?_)
            refine gc_seq fun K177 hK177 => ?_
            try simp only [List.nil_append, List.cons_append, List.append_assoc, List.set_cons_succ, List.set_cons_zero]
            refine ga_start _ (fun w M => mem_erase 4 (mem_erase 7 (M))) ?_
            refine ga_v 0 rfl (by kernel_rfl) (by kernel_rfl) (by kernel_rfl) (.free rfl) rfl rfl (qt_field (z := 0) (off := 2) rfl rfl Try.underlying28 rfl (by kernel_rfl) rfl) (fun _ _ _ h => h) ?_
            refine ga_v 2 rfl (by kernel_rfl) (by kernel_rfl) (by kernel_rfl) (.free rfl) rfl rfl (qt_move rfl rfl) (fun _ _ _ h => h) ?_
            refine ga_v 3 rfl (by kernel_rfl) (by kernel_rfl) (by kernel_rfl) (.free rfl) rfl rfl (qt_field (z := 0) (off := 2) rfl rfl Try.underlying28 rfl (by kernel_rfl) rfl) (fun _ _ _ h => h) ?_
            refine ga_v 4 rfl (by kernel_rfl) (by kernel_rfl) (by kernel_rfl) (.free rfl) rfl rfl (qt_loadB (n := 0) rfl rfl Try.underlying22 rfl rfl rfl) (fun _ _ _ h => h) ?_
            refine ga_v 5 rfl (by kernel_rfl) (by kernel_rfl) (by kernel_rfl) (.free rfl) rfl rfl (qt_move rfl rfl) (fun _ _ _ h => h) ?_
            refine ga_v 6 rfl (by kernel_rfl) (by kernel_rfl) (by kernel_rfl) (.free rfl) rfl rfl (qt_move rfl rfl) (fun _ _ _ h => h) ?_
            refine ga_v 7 rfl (by kernel_rfl) (by kernel_rfl) (by kernel_rfl) (.free rfl) rfl rfl (qt_index rfl rfl rfl ulE1 szE1 (fun w M => lenA_rd hu) (by omega) (by omega)) (fun _ _ _ h => h) ?_
            refine ga_v 8 rfl (by kernel_rfl) (by kernel_rfl) (by kernel_rfl) (.free rfl) rfl rfl (qt_load1 rfl rfl Try.underlying2 rfl (fun w M => mem_rd M hu) (by omega) (by omega)) (fun _ _ _ h => h) ?_
            refine ga_v 9 rfl (by kernel_rfl) (by kernel_rfl) (by kernel_rfl) (.free rfl) rfl rfl (qt_index rfl rfl rfl ulE1 szE1 (fun w M => lenA_rd h2) (by omega) (by omega)) (fun _ _ _ h => h) ?_
            refine ga_v 10 rfl (by kernel_rfl) (by kernel_rfl) (by kernel_rfl) (.free rfl) rfl rfl (qt_load1 rfl rfl Try.underlying2 rfl (fun w M => mem_rd M h2) (by omega) (by omega)) (fun _ _ _ h => h) ?_
            refine ga_two 1 11 (by kernel_rfl) rfl rfl (.free rfl) (.free rfl) (fun K178 hK178 => ?_) (fun K178 hK178 => ?_)
            · refine go_v rfl rfl (qt_loadB (n := 7) rfl rfl Try.underlying22 rfl rfl rfl) ?_
              refine hK178 _ _ (fun w M => (mem_erase 4 (mem_erase 7 (mem_take 9 M)) :)) ?_
              refine ga_op 11 (by kernel_rfl) rfl (.free rfl) fun K180 hK180 => ?_
              refine go_q rfl rfl (qt_call rfl Try.func93 rfl (by decide) rfl (fun w M => specIndex_any w _ _ _ ((mem_own1 (n := 2) M rfl).rd))) ?_
              refine hK180 _ _ (fun w M => (mem_erase 4 (mem_erase 7 (mem_take 9 M)) :)) ?_
              refine ga_op 12 (by kernel_rfl) rfl (.free rfl) fun K182 hK182 => ?_
              refine go_slice1 rfl rfl rfl rfl Try.underlying22 ?_
              intro B181
              refine hK182 _ _ (fun w M => (mem_erase 4 (mem_erase 7 (mem_take 9 M)) :)) ?_
              refine ga_op 13 (by kernel_rfl) rfl (.free rfl) fun K184 hK184 => ?_
              refine go_append (n := 4) (m := 9) rfl rfl rfl Try.underlying22 rfl rfl rfl rfl (by omega) ?_
              intro va183 vc183
              refine hK184 _ _ (fun w M => (mem_erase 4 (mem_erase 7 (mem_take 9 M)) :)) ?_
              refine ga_v 14 rfl (by kernel_rfl) (by kernel_rfl) (by kernel_rfl) (.free rfl) rfl rfl (qt_field (z := 0) (off := 2) rfl rfl Try.underlying28 rfl (by kernel_rfl) rfl) (fun _ _ _ h => h) ?_
              refine ga_op 15 (by kernel_rfl) rfl (.free rfl) fun K185 hK185 => ?_
              refine go_storeB (n := 7) rfl rfl rfl rfl (by kernel_rfl) rfl rfl rfl (by first | decide | simp) ?_
              refine hK185 _ _ (fun w M => (mem_erase 4 (mem_erase 7 (mem_take 9 M)) :)) ?_
              refine ga_done (by kernel_rfl) ?_
              refine gk_then (hK177 _ _ ?_)
              refine gc_seq fun K186 hK186 => ?_
              refine gc_region ?_
              refine g_op (.free rfl) fun K188 hK188 => ?_
              refine go_slice0 rfl rfl rfl Try.underlying22 ?_
              intro B187
              refine hK188 _ _ ?_
              refine g_v (.free rfl) rfl rfl (qt_assign rfl rfl) ?_
              refine g_nil ?_
              refine gk_then (hK186 _ _ ?_)
              refine gc_seq fun K189 hK189 => ?_
              refine gc_seq fun K190 hK190 => ?_
              refine gc_region ?_
              refine g_v (.free rfl) rfl rfl (qt_assign rfl rfl) ?_
              refine g_nil ?_
              refine gk_then (hK190 _ _ ?_)
              refine gc_block ?_
              simp only [tabTo_succ]
              try simp only [List.nil_append, List.cons_append, List.append_assoc, List.set_cons_succ, List.set_cons_zero]
              refine gc_loop ([(0, _), (1, _), (2, _), (4, _), (5, _), (6, _), (7, _), (8, _), (9, _), (16, _), (40, _), (61, _)] : Env) (fun s : Nat × (Option Addr) × Nat => (fun (l : Nat) (e : Option Addr) (z : Nat) => ([(10, .slice e (tabTo (fun j => idxI xs (c.th (at0 xs (k : Int)) (at0 xs (j : Int)))) l).length z), (11, .int .i64 (l : Int))] : Env)) s.1 s.2.1 s.2.2) (fun s : Nat × (Option Addr) × Nat => (fun (l : Nat) (e : Option Addr) (z : Nat) => ([(10, own1I (.slice e (tabTo (fun j => idxI xs (c.th (at0 xs (k : Int)) (at0 xs (j : Int)))) l).length z) (tabTo (fun j => idxI xs (c.th (at0 xs (k : Int)) (at0 xs (j : Int)))) l))] : List (Nat × Itm))) s.1 s.2.1 s.2.2) (fun s : Nat × (Option Addr) × Nat => (fun (l : Nat) (e : Option Addr) (z : Nat) => l ≤ xs.length) s.1 s.2.1 s.2.2) (fun s : Nat × (Option Addr) × Nat => (fun (l : Nat) (e : Option Addr) (z : Nat) => xs.length - l) s.1 s.2.1 s.2.2) (0, _, _) (sub_cons rfl (sub_cons rfl (sub_cons rfl (sub_cons rfl (sub_cons rfl (sub_cons rfl (sub_cons rfl (sub_cons rfl (sub_cons rfl (sub_cons rfl (sub_cons rfl (sub_cons rfl (sub_cons rfl (sub_cons rfl sub_nil)))))))))))))) rfl (Nat.zero_le _) ?_
              rintro ⟨l, e, z⟩ hinv KL191 hKL191
              simp only [updL, List.foldl_cons, List.foldl_nil, List.set_cons_succ, List.set_cons_zero, List.cons_append, List.nil_append] at hinv hKL191 ⊢
              have hl3 := hinv
              have hl4 := tabTo_len (fun j => idxI xs (c.th (at0 xs (k : Int)) (at0 xs (j : Int)))) l
              refine gc_seq fun K192 hK192 => ?_
              refine gc_seq fun K193 hK193 => ?_
              refine gc_region ?_
              refine g_v (.free rfl) rfl rfl (qt_move rfl rfl) ?_
              refine g_v (.free rfl) rfl rfl (qt_move rfl rfl) ?_
              refine g_v (.free rfl) rfl rfl (qt_len rfl rfl ulE1 (fun w M => lenV_rd hu)) ?_
              refine g_v (.free rfl) rfl rfl (qt_lss rfl rfl rfl) ?_
              refine g_nil ?_
              refine gk_then (hK193 _ _ ?_)
              refine gc_cond rfl (fun hc7 => ?_) (fun hc7 => ?_)
              · try simp only [decide_eq_true_eq, decide_eq_false_iff_not, Bool.not_eq_true', Bool.not_eq_false', Bool.not_eq_eq_eq_not, Bool.not_true, Bool.not_false, ne_eq, Decidable.not_not, Classical.not_not] at hc7
                refine gc_skip ?_
                refine gk_then (hK192 _ _ ?_)
                refine gc_seq fun K194 hK194 => ?_
                refine gc_block ?_
                have hk1 := allP_k hx (k := k) (by omega)
                have hA := arrP hS hk1.1 hk1.2
                have a0 := hk1.1; have a1 := hk1.2; have a2 := hA.fs; have a3 := hA.fm; have a4 := hA.row; have a5 := hA.ft
                have hl1 := allP_k hx (k := l) (by omega)
                have b0 := hl1.1; have b1 := hl1.2
                try simp only [List.nil_append, List.cons_append, List.append_assoc, List.set_cons_succ, List.set_cons_zero]
                refine ga_start _ (fun w M => mem_erase 10 (M)) ?_
                refine ga_v 0 rfl (by kernel_rfl) (by kernel_rfl) (by kernel_rfl) (.free rfl) rfl rfl (qt_move rfl rfl) (fun _ _ _ h => h) ?_
                refine ga_v 1 rfl (by kernel_rfl) (by kernel_rfl) (by kernel_rfl) (.free rfl) rfl rfl (qt_move rfl rfl) (fun _ _ _ h => h) ?_
                refine ga_v 2 rfl (by kernel_rfl) (by kernel_rfl) (by kernel_rfl) (.free rfl) rfl rfl (qt_field (z := 0) (off := 4) rfl rfl Try.underlying28 rfl (by kernel_rfl) rfl) (fun _ _ _ h => h) ?_
                refine ga_v 3 rfl (by kernel_rfl) (by kernel_rfl) (by kernel_rfl) (.free rfl) rfl rfl (qt_loadB (n := 0) rfl rfl Try.underlying23 rfl rfl rfl) (fun _ _ _ h => h) ?_
                refine ga_v 4 rfl (by kernel_rfl) (by kernel_rfl) (by kernel_rfl) (.free rfl) rfl rfl (qt_move rfl rfl) (fun _ _ _ h => h) ?_
                refine ga_v 5 rfl (by kernel_rfl) (by kernel_rfl) (by kernel_rfl) (.free rfl) rfl rfl (qt_move rfl rfl) (fun _ _ _ h => h) ?_
                refine ga_v 6 rfl (by kernel_rfl) (by kernel_rfl) (by kernel_rfl) (.free rfl) rfl rfl (qt_index rfl rfl rfl ulE1 szE1 (fun w M => lenA_rd hu) (by omega) (by omega)) (fun _ _ _ h => h) ?_
                refine ga_v 7 rfl (by kernel_rfl) (by kernel_rfl) (by kernel_rfl) (.free rfl) rfl rfl (qt_load1 rfl rfl Try.underlying2 rfl (fun w M => mem_rd M hu) (by omega) (by omega)) (fun _ _ _ h => h) ?_
                refine ga_v 8 rfl (by kernel_rfl) (by kernel_rfl) (by kernel_rfl) (.free rfl) rfl rfl (qt_index rfl rfl rfl ulE2 szE2 (fun w M => lenA_rd2 h4) (by omega) (by omega)) (fun _ _ _ h => h) ?_
                refine ga_load2 9 rfl (by kernel_rfl) (by kernel_rfl) (by kernel_rfl) (.free rfl) rfl rfl rfl rfl Try.underlying22 rfl h4 (by omega) (by omega) (fun _ _ _ _ h => h) ?_
                intro ra195 rc195 hr195
                refine ga_v 10 rfl (by kernel_rfl) (by kernel_rfl) (by kernel_rfl) (.free rfl) rfl rfl (qt_move rfl rfl) (fun _ _ _ h => h) ?_
                refine ga_v 11 rfl (by kernel_rfl) (by kernel_rfl) (by kernel_rfl) (.free rfl) rfl rfl (qt_move rfl rfl) (fun _ _ _ h => h) ?_
                refine ga_v 12 rfl (by kernel_rfl) (by kernel_rfl) (by kernel_rfl) (.free rfl) rfl rfl (qt_index rfl rfl rfl ulE1 szE1 (fun w M => lenA_rd hu) (by omega) (by omega)) (fun _ _ _ h => h) ?_
                refine ga_v 13 rfl (by kernel_rfl) (by kernel_rfl) (by kernel_rfl) (.free rfl) rfl rfl (qt_load1 rfl rfl Try.underlying2 rfl (fun w M => mem_rd M hu) (by omega) (by omega)) (fun _ _ _ h => h) ?_
                refine ga_v 14 rfl (by kernel_rfl) (by kernel_rfl) (by kernel_rfl) (.free rfl) rfl rfl (qt_index rfl rfl rfl ulE1 szE1 (fun w M => lenA_rd hr195) (by omega) (by omega)) (fun _ _ _ h => h) ?_
                refine ga_v 15 rfl (by kernel_rfl) (by kernel_rfl) (by kernel_rfl) (.free rfl) rfl rfl (qt_load1 rfl rfl Try.underlying2 rfl (fun w M => mem_rd M hr195) (by omega) (by omega)) (fun _ _ _ h => h) ?_
                refine ga_op 16 (by kernel_rfl) rfl (.free rfl) fun K196 hK196 => ?_
                refine go_q rfl rfl (qt_call rfl Try.func93 rfl (by decide) rfl (fun w M => specIndex_any w _ _ _ (mem_rd M hu))) ?_
                refine hK196 _ _ (fun w M => (mem_erase 10 (mem_take 11 M) :)) ?_
                refine ga_op 17 (by kernel_rfl) rfl (.free rfl) fun K198 hK198 => ?_
                refine go_slice1 rfl rfl rfl rfl Try.underlying22 ?_
                intro B197
                refine hK198 _ _ (fun w M => (mem_erase 10 (mem_take 11 M) :)) ?_
                refine ga_op 18 (by kernel_rfl) rfl (.free rfl) fun K200 hK200 => ?_
                refine go_append (n := 10) (m := 11) rfl rfl rfl Try.underlying22 rfl rfl rfl rfl (by omega) ?_
                intro va199 vc199
                refine hK200 _ _ (fun w M => (mem_erase 10 (mem_take 11 M) :)) ?_
                refine ga_v 19 rfl (by kernel_rfl) (by kernel_rfl) (by kernel_rfl) (.free rfl) rfl rfl (qt_assign rfl rfl) (fun _ _ _ h => h) ?_
                refine ga_done (by kernel_rfl) ?_
                refine gk_block ?_
                refine gk_then (hK194 _ _ ?_)
                refine gc_region ?_
                refine g_v (.free rfl) rfl rfl (qt_move rfl rfl) ?_
                refine g_v (.free rfl) rfl rfl (qt_add rfl rfl rfl (by omega)) ?_
                refine g_v (.free rfl) rfl rfl (qt_assign rfl rfl) ?_
                refine g_nil ?_
                simp only [show ∀ f g, at0 (row2 c.m f) g = c.th f g from fun _ _ => rfl, tabTo_succ]
                refine gk_then (gk_take 11 ?_)
                refine gk_sub ?hs_201 (hKL191 (l + 1, _, _) ?hi_201 ?hm_201)
                case hs_201 => exact (sub_cons rfl (sub_cons rfl (sub_cons rfl (sub_cons rfl (sub_cons rfl (sub_cons rfl (sub_cons rfl (sub_cons rfl (sub_cons rfl (sub_cons rfl (sub_cons rfl (sub_cons rfl (sub_cons rfl (sub_cons rfl sub_nil))))))))))))))
                case hi_201 => omega
                case hm_201 => omega
              · try simp only [decide_eq_true_eq, decide_eq_false_iff_not, Bool.not_eq_true', Bool.not_eq_false', Bool.not_eq_eq_eq_not, Bool.not_true, Bool.not_false, ne_eq, Decidable.not_not, Classical.not_not] at hc7
                refine gc_exit ?_
                refine gk_then_exit ?_
                refine gk_then_exit ?_
                refine gk_block_hit ?_
                refine gk_then (hK189 _ _ ?_)
                refine gc_region ?_
                refine g_v (.free rfl) rfl rfl (qt_field (z := 0) (off := 4) rfl rfl Try.underlying28 rfl (by kernel_rfl) rfl) ?_
                refine g_v (.free rfl) rfl rfl (qt_loadB (n := 7) rfl rfl Try.underlying23 rfl rfl rfl) ?_
                refine g_v (.free rfl) rfl rfl (qt_move rfl rfl) ?_
                refine g_op (.free rfl) fun K203 hK203 => ?_
                refine go_sliceR1 (m := 10) rfl rfl rfl rfl Try.underlying23 rfl ?_
                intro B202
                refine hK203 _ _ ?_
                refine g_op (.free rfl) fun K205 hK205 => ?_
                refine go_appendRow (n := 6) (m := 10) (m' := 9) rfl rfl rfl Try.underlying23 rfl rfl rfl rfl rfl (by omega) ?_
                intro va204 vc204
                refine hK205 _ _ ?_
                refine g_v (.free rfl) rfl rfl (qt_field (z := 0) (off := 4) rfl rfl Try.underlying28 rfl (by kernel_rfl) rfl) ?_
                refine g_op (.free rfl) fun K206 hK206 => ?_
                refine go_storeB (n := 7) rfl rfl rfl rfl (by kernel_rfl) rfl rfl rfl (by first | decide | simp) ?_
                refine hK206 _ _ ?_
                refine g_nil ?_
                refine gk_block ?_
                refine gk_then (hK70 _ _ ?_)
                refine gc_region ?_
                refine g_v (.free rfl) rfl rfl (qt_move rfl rfl) ?_
                refine g_v (.free rfl) rfl rfl (qt_add rfl rfl rfl (by omega)) ?_
                refine g_v (.free rfl) rfl rfl (qt_assign rfl rfl) ?_
                refine g_nil ?_
                obtain rfl : l = xs.length := by omega
                simp only [rowsTo_succ]
                refine gk_then (gk_take 8 ?_)
                refine gk_sub ?hs_207 (hKL67 (k + 1, _, _, _, _, _, _, _) ?hi_207 ?hm_207)
                case hs_207 => exact (sub_cons rfl (sub_cons rfl (sub_cons rfl (sub_cons rfl (sub_cons rfl (sub_cons rfl (sub_cons rfl (sub_cons rfl (sub_cons rfl (sub_cons rfl (sub_cons rfl sub_nil)))))))))))
                case hi_207 => omega
                case hm_207 => omega
            · refine go_q rfl rfl (qt_call rfl Try.func93 rfl (by decide) rfl (fun w M => specIndex_any w _ _ _ ((mem_own1 (n := 2) M rfl).rd))) ?_
              refine hK178 _ _ (fun w M => (mem_erase 4 (mem_erase 7 (mem_take 9 M)) :)) ?_
              refine ga_two 1 12 (by kernel_rfl) rfl rfl (.free rfl) (.free rfl) (fun K209 hK209 => ?_) (fun K209 hK209 => ?_)
              · refine go_v rfl rfl (qt_loadB (n := 7) rfl rfl Try.underlying22 rfl rfl rfl) ?_
                refine hK209 _ _ (fun w M => (mem_erase 4 (mem_erase 7 (mem_take 9 M)) :)) ?_
                refine ga_op 12 (by kernel_rfl) rfl (.free rfl) fun K212 hK212 => ?_
                refine go_slice1 rfl rfl rfl rfl Try.underlying22 ?_
                intro B211
                refine hK212 _ _ (fun w M => (mem_erase 4 (mem_erase 7 (mem_take 9 M)) :)) ?_
                refine ga_op 13 (by kernel_rfl) rfl (.free rfl) fun K214 hK214 => ?_
                refine go_append (n := 4) (m := 9) rfl rfl rfl Try.underlying22 rfl rfl rfl rfl (by omega) ?_
                intro va213 vc213
                refine hK214 _ _ (fun w M => (mem_erase 4 (mem_erase 7 (mem_take 9 M)) :)) ?_
                refine ga_v 14 rfl (by kernel_rfl) (by kernel_rfl) (by kernel_rfl) (.free rfl) rfl rfl (qt_field (z := 0) (off := 2) rfl rfl Try.underlying28 rfl (by kernel_rfl) rfl) (fun _ _ _ h => h) ?_
                refine ga_op 15 (by kernel_rfl) rfl (.free rfl) fun K215 hK215 => ?_
                refine go_storeB (n := 7) rfl rfl rfl rfl (by kernel_rfl) rfl rfl rfl (by first | decide | simp) ?_
                refine hK215 _ _ (fun w M => (mem_erase 4 (mem_erase 7 (mem_take 9 M)) :)) ?_
                refine ga_done (by kernel_rfl) ?_
                refine gk_then (hK177 _ _ ?_)
                refine gc_seq fun K216 hK216 => ?_
                refine gc_region ?_
                refine g_op (.free rfl) fun K218 hK218 => ?_
                refine go_slice0 rfl rfl rfl Try.underlying22 ?_
                intro B217
                refine hK218 _ _ ?_
                refine g_v (.free rfl) rfl rfl (qt_assign rfl rfl) ?_
                refine g_nil ?_
                refine gk_then (hK216 _ _ ?_)
                refine gc_seq fun K219 hK219 => ?_
                refine gc_seq fun K220 hK220 => ?_
                refine gc_region ?_
                refine g_v (.free rfl) rfl rfl (qt_assign rfl rfl) ?_
                refine g_nil ?_
                refine gk_then (hK220 _ _ ?_)
                refine gc_block ?_
                simp only [tabTo_succ]
                try simp only [List.nil_append, List.cons_append, List.append_assoc, List.set_cons_succ, List.set_cons_zero]
                refine gc_loop ([(0, _), (1, _), (2, _), (4, _), (5, _), (6, _), (7, _), (8, _), (9, _), (16, _), (40, _), (61, _)] : Env) (fun s : Nat × (Option Addr) × Nat => (fun (l : Nat) (e : Option Addr) (z : Nat) => ([(10, .slice e (tabTo (fun j => idxI xs (c.th (at0 xs (k : Int)) (at0 xs (j : Int)))) l).length z), (11, .int .i64 (l : Int))] : Env)) s.1 s.2.1 s.2.2) (fun s : Nat × (Option Addr) × Nat => (fun (l : Nat) (e : Option Addr) (z : Nat) => ([(10, own1I (.slice e (tabTo (fun j => idxI xs (c.th (at0 xs (k : Int)) (at0 xs (j : Int)))) l).length z) (tabTo (fun j => idxI xs (c.th (at0 xs (k : Int)) (at0 xs (j : Int)))) l))] : List (Nat × Itm))) s.1 s.2.1 s.2.2) (fun s : Nat × (Option Addr) × Nat => (fun (l : Nat) (e : Option Addr) (z : Nat) => l ≤ xs.length) s.1 s.2.1 s.2.2) (fun s : Nat × (Option Addr) × Nat => (fun (l : Nat) (e : Option Addr) (z : Nat) => xs.length - l) s.1 s.2.1 s.2.2) (0, _, _) (sub_cons rfl (sub_cons rfl (sub_cons rfl (sub_cons rfl (sub_cons rfl (sub_cons rfl (sub_cons rfl (sub_cons rfl (sub_cons rfl (sub_cons rfl (sub_cons rfl (sub_cons rfl (sub_cons rfl (sub_cons rfl sub_nil)))))))))))))) rfl (Nat.zero_le _) ?_
                rintro ⟨l, e, z⟩ hinv KL221 hKL221
                simp only [updL, List.foldl_cons, List.foldl_nil, List.set_cons_succ, List.set_cons_zero, List.cons_append, List.nil_append] at hinv hKL221 ⊢
                have hl3 := hinv
                have hl4 := tabTo_len (fun j => idxI xs (c.th (at0 xs (k : Int)) (at0 xs (j : Int)))) l
                refine gc_seq fun K222 hK222 => ?_
                refine gc_seq fun K223 hK223 => ?_
                refine gc_region ?_
                refine g_v (.free rfl) rfl rfl (qt_move rfl rfl) ?_
                refine g_v (.free rfl) rfl rfl (qt_move rfl rfl) ?_
                refine g_v (.free rfl) rfl rfl (qt_len rfl rfl ulE1 (fun w M => lenV_rd hu)) ?_
                refine g_v (.free rfl) rfl rfl (qt_lss rfl rfl rfl) ?_
                refine g_nil ?_
                refine gk_then (hK223 _ _ ?_)
                refine gc_cond rfl (fun hc8 => ?_) (fun hc8 => ?_)
                · try simp only [decide_eq_true_eq, decide_eq_false_iff_not, Bool.not_eq_true', Bool.not_eq_false', Bool.not_eq_eq_eq_not, Bool.not_true, Bool.not_false, ne_eq, Decidable.not_not, Classical.not_not] at hc8
                  refine gc_skip ?_
                  refine gk_then (hK222 _ _ ?_)
                  refine gc_seq fun K224 hK224 => ?_
                  refine gc_block ?_
                  have hk1 := allP_k hx (k := k) (by omega)
                  have hA := arrP hS hk1.1 hk1.2
                  have a0 := hk1.1; have a1 := hk1.2; have a2 := hA.fs; have a3 := hA.fm; have a4 := hA.row; have a5 := hA.ft
                  have hl1 := allP_k hx (k := l) (by omega)
                  have b0 := hl1.1; have b1 := hl1.2
                  try simp only [List.nil_append, List.cons_append, List.append_assoc, List.set_cons_succ, List.set_cons_zero]
                  refine ga_start _ (fun w M => mem_erase 10 (M)) ?_
                  refine ga_v 0 rfl (by kernel_rfl) (by kernel_rfl) (by kernel_rfl) (.free rfl) rfl rfl (qt_move rfl rfl) (fun _ _ _ h => h) ?_
                  refine ga_v 1 rfl (by kernel_rfl) (by kernel_rfl) (by kernel_rfl) (.free rfl) rfl rfl (qt_move rfl rfl) (fun _ _ _ h => h) ?_
                  refine ga_v 2 rfl (by kernel_rfl) (by kernel_rfl) (by kernel_rfl) (.free rfl) rfl rfl (qt_field (z := 0) (off := 4) rfl rfl Try.underlying28 rfl (by kernel_rfl) rfl) (fun _ _ _ h => h) ?_
                  refine ga_v 3 rfl (by kernel_rfl) (by kernel_rfl) (by kernel_rfl) (.free rfl) rfl rfl (qt_loadB (n := 0) rfl rfl Try.underlying23 rfl rfl rfl) (fun _ _ _ h => h) ?_
                  refine ga_v 4 rfl (by kernel_rfl) (by kernel_rfl) (by kernel_rfl) (.free rfl) rfl rfl (qt_move rfl rfl) (fun _ _ _ h => h) ?_
                  refine ga_v 5 rfl (by kernel_rfl) (by kernel_rfl) (by kernel_rfl) (.free rfl) rfl rfl (qt_move rfl rfl) (fun _ _ _ h => h) ?_
                  refine ga_v 6 rfl (by kernel_rfl) (by kernel_rfl) (by kernel_rfl) (.free rfl) rfl rfl (qt_index rfl rfl rfl ulE1 szE1 (fun w M => lenA_rd hu) (by omega) (by omega)) (fun _ _ _ h => h) ?_
                  refine ga_v 7 rfl (by kernel_rfl) (by kernel_rfl) (by kernel_rfl) (.free rfl) rfl rfl (qt_load1 rfl rfl Try.underlying2 rfl (fun w M => mem_rd M hu) (by omega) (by omega)) (fun _ _ _ h => h) ?_
                  refine ga_v 8 rfl (by kernel_rfl) (by kernel_rfl) (by kernel_rfl) (.free rfl) rfl rfl (qt_index rfl rfl rfl ulE2 szE2 (fun w M => lenA_rd2 h4) (by omega) (by omega)) (fun _ _ _ h => h) ?_
                  refine ga_load2 9 rfl (by kernel_rfl) (by kernel_rfl) (by kernel_rfl) (.free rfl) rfl rfl rfl rfl Try.underlying22 rfl h4 (by omega) (by omega) (fun _ _ _ _ h => h) ?_
                  intro ra225 rc225 hr225
                  refine ga_v 10 rfl (by kernel_rfl) (by kernel_rfl) (by kernel_rfl) (.free rfl) rfl rfl (qt_move rfl rfl) (fun _ _ _ h => h) ?_
                  refine ga_v 11 rfl (by kernel_rfl) (by kernel_rfl) (by kernel_rfl) (.free rfl) rfl rfl (qt_move rfl rfl) (fun _ _ _ h => h) ?_
                  refine ga_v 12 rfl (by kernel_rfl) (by kernel_rfl) (by kernel_rfl) (.free rfl) rfl rfl (qt_index rfl rfl rfl ulE1 szE1 (fun w M => lenA_rd hu) (by omega) (by omega)) (fun _ _ _ h => h) ?_
                  refine ga_v 13 rfl (by kernel_rfl) (by kernel_rfl) (by kernel_rfl) (.free rfl) rfl rfl (qt_load1 rfl rfl Try.underlying2 rfl (fun w M => mem_rd M hu) (by omega) (by omega)) (fun _ _ _ h => h) ?_
                  refine ga_v 14 rfl (by kernel_rfl) (by kernel_rfl) (by kernel_rfl) (.free rfl) rfl rfl (qt_index rfl rfl rfl ulE1 szE1 (fun w M => lenA_rd hr225) (by omega) (by omega)) (fun _ _ _ h => h) ?_
                  refine ga_v 15 rfl (by kernel_rfl) (by kernel_rfl) (by kernel_rfl) (.free rfl) rfl rfl (qt_load1 rfl rfl Try.underlying2 rfl (fun w M => mem_rd M hr225) (by omega) (by omega)) (fun _ _ _ h => h) ?_
                  refine ga_op 16 (by kernel_rfl) rfl (.free rfl) fun K226 hK226 => ?_
                  refine go_q rfl rfl (qt_call rfl Try.func93 rfl (by decide) rfl (fun w M => specIndex_any w _ _ _ (mem_rd M hu))) ?_
                  refine hK226 _ _ (fun w M => (mem_erase 10 (mem_take 11 M) :)) ?_
                  refine ga_op 17 (by kernel_rfl) rfl (.free rfl) fun K228 hK228 => ?_
                  refine go_slice1 rfl rfl rfl rfl Try.underlying22 ?_
                  intro B227
                  refine hK228 _ _ (fun w M => (mem_erase 10 (mem_take 11 M) :)) ?_
                  refine ga_op 18 (by kernel_rfl) rfl (.free rfl) fun K230 hK230 => ?_
                  refine go_append (n := 10) (m := 11) rfl rfl rfl Try.underlying22 rfl rfl rfl rfl (by omega) ?_
                  intro va229 vc229
                  refine hK230 _ _ (fun w M => (mem_erase 10 (mem_take 11 M) :)) ?_
                  refine ga_v 19 rfl (by kernel_rfl) (by kernel_rfl) (by kernel_rfl) (.free rfl) rfl rfl (qt_assign rfl rfl) (fun _ _ _ h => h) ?_
                  refine ga_done (by kernel_rfl) ?_
                  refine gk_block ?_
                  refine gk_then (hK224 _ _ ?_)
                  refine gc_region ?_
                  refine g_v (.free rfl) rfl rfl (qt_move rfl rfl) ?_
                  refine g_v (.free rfl) rfl rfl (qt_add rfl rfl rfl (by omega)) ?_
                  refine g_v (.free rfl) rfl rfl (qt_assign rfl rfl) ?_
                  refine g_nil ?_
                  simp only [show ∀ f g, at0 (row2 c.m f) g = c.th f g from fun _ _ => rfl, tabTo_succ]
                  refine gk_then (gk_take 11 ?_)
                  refine gk_sub ?hs_231 (hKL221 (l + 1, _, _) ?hi_231 ?hm_231)
                  case hs_231 => exact (sub_cons rfl (sub_cons rfl (sub_cons rfl (sub_cons rfl (sub_cons rfl (sub_cons rfl (sub_cons rfl (sub_cons rfl (sub_cons rfl (sub_cons rfl (sub_cons rfl (sub_cons rfl (sub_cons rfl (sub_cons rfl sub_nil))))))))))))))
                  case hi_231 => omega
                  case hm_231 => omega
                · try simp only [decide_eq_true_eq, decide_eq_false_iff_not, Bool.not_eq_true', Bool.not_eq_false', Bool.not_eq_eq_eq_not, Bool.not_true, Bool.not_false, ne_eq, Decidable.not_not, Classical.not_not] at hc8
                  refine gc_exit ?_
                  refine gk_then_exit ?_
                  refine gk_then_exit ?_
                  refine gk_block_hit ?_
                  refine gk_then (hK219 _ _ ?_)
                  refine gc_region ?_
                  refine g_v (.free rfl) rfl rfl (qt_field (z := 0) (off := 4) rfl rfl Try.underlying28 rfl (by kernel_rfl) rfl) ?_
                  refine g_v (.free rfl) rfl rfl (qt_loadB (n := 7) rfl rfl Try.underlying23 rfl rfl rfl) ?_
                  refine g_v (.free rfl) rfl rfl (qt_move rfl rfl) ?_
                  refine g_op (.free rfl) fun K233 hK233 => ?_
                  refine go_sliceR1 (m := 10) rfl rfl rfl rfl Try.underlying23 rfl ?_
                  intro B232
                  refine hK233 _ _ ?_
                  refine g_op (.free rfl) fun K235 hK235 => ?_
                  refine go_appendRow (n := 6) (m := 10) (m' := 9) rfl rfl rfl Try.underlying23 rfl rfl rfl rfl rfl (by omega) ?_
                  intro va234 vc234
                  refine hK235 _ _ ?_
                  refine g_v (.free rfl) rfl rfl (qt_field (z := 0) (off := 4) rfl rfl Try.underlying28 rfl (by kernel_rfl) rfl) ?_
                  refine g_op (.free rfl) fun K236 hK236 => ?_
                  refine go_storeB (n := 7) rfl rfl rfl rfl (by kernel_rfl) rfl rfl rfl (by first | decide | simp) ?_
                  refine hK236 _ _ ?_
                  refine g_nil ?_
                  refine gk_block ?_
                  refine gk_then (hK70 _ _ ?_)
                  refine gc_region ?_
                  refine g_v (.free rfl) rfl rfl (qt_move rfl rfl) ?_
                  refine g_v (.free rfl) rfl rfl (qt_add rfl rfl rfl (by omega)) ?_
                  refine g_v (.free rfl) rfl rfl (qt_assign rfl rfl) ?_
                  refine g_nil ?_
                  obtain rfl : l = xs.length := by omega
                  simp only [rowsTo_succ]
                  refine gk_then (gk_take 8 ?_)
                  refine gk_sub ?hs_237 (hKL67 (k + 1, _, _, _, _, _, _, _) ?hi_237 ?hm_237)
                  case hs_237 => exact (sub_cons rfl (sub_cons rfl (sub_cons rfl (sub_cons rfl (sub_cons rfl (sub_cons rfl (sub_cons rfl (sub_cons rfl (sub_cons rfl (sub_cons rfl (sub_cons rfl sub_nil)))))))))))
                  case hi_237 => omega
                  case hm_237 => omega
              · refine go_slice1 rfl rfl rfl rfl Try.underlying22 ?_
                intro B238
                refine hK209 _ _ (fun w M => (mem_erase 4 (mem_erase 7 (mem_take 9 M)) :)) ?_
                refine ga_op 1 (by kernel_rfl) rfl (.free rfl) fun K240 hK240 => ?_
                refine go_v rfl rfl (qt_loadB (n := 7) rfl rfl Try.underlying22 rfl rfl rfl) ?_
                refine hK240 _ _ (fun w M => (mem_erase 4 (mem_erase 7 (mem_take 9 M)) :)) ?_
                refine ga_op 13 (by kernel_rfl) rfl (.free rfl) fun K242 hK242 => ?_
                refine go_append (n := 4) (m := 9) rfl rfl rfl Try.underlying22 rfl rfl rfl rfl (by omega) ?_
                intro va241 vc241
                refine hK242 _ _ (fun w M => (mem_erase 4 (mem_erase 7 (mem_take 9 M)) :)) ?_
                refine ga_v 14 rfl (by kernel_rfl) (by kernel_rfl) (by kernel_rfl) (.free rfl) rfl rfl (qt_field (z := 0) (off := 2) rfl rfl Try.underlying28 rfl (by kernel_rfl) rfl) (fun _ _ _ h => h) ?_
                refine ga_op 15 (by kernel_rfl) rfl (.free rfl) fun K243 hK243 => ?_
                refine go_storeB (n := 7) rfl rfl rfl rfl (by kernel_rfl) rfl rfl rfl (by first | decide | simp) ?_
                refine hK243 _ _ (fun w M => (mem_erase 4 (mem_erase 7 (mem_take 9 M)) :)) ?_
                refine ga_done (by kernel_rfl) ?_
                refine gk_then (hK177 _ _ ?_)
                refine gc_seq fun K244 hK244 => ?_
                refine gc_region ?_
                refine g_op (.free rfl) fun K246 hK246 => ?_
                refine go_slice0 rfl rfl rfl Try.underlying22 ?_
                intro B245
                refine hK246 _ _ ?_
                refine g_v (.free rfl) rfl rfl (qt_assign rfl rfl) ?_
                refine g_nil ?_
                refine gk_then (hK244 _ _ ?_)
                refine gc_seq fun K247 hK247 => ?_
                refine gc_seq fun K248 hK248 => ?_
                refine gc_region ?_
                refine g_v (.free rfl) rfl rfl (qt_assign rfl rfl) ?_
                refine g_nil ?_
                refine gk_then (hK248 _ _ ?_)
                refine gc_block ?_
                simp only [tabTo_succ]
                try simp only [List.nil_append, List.cons_append, List.append_assoc, List.set_cons_succ, List.set_cons_zero]
                refine gc_loop ([(0, _), (1, _), (2, _), (4, _), (5, _), (6, _), (7, _), (8, _), (9, _), (16, _), (40, _), (61, _)] : Env) (fun s : Nat × (Option Addr) × Nat => (fun (l : Nat) (e : Option Addr) (z : Nat) => ([(10, .slice e (tabTo (fun j => idxI xs (c.th (at0 xs (k : Int)) (at0 xs (j : Int)))) l).length z), (11, .int .i64 (l : Int))] : Env)) s.1 s.2.1 s.2.2) (fun s : Nat × (Option Addr) × Nat => (fun (l : Nat) (e : Option Addr) (z : Nat) => ([(10, own1I (.slice e (tabTo (fun j => idxI xs (c.th (at0 xs (k : Int)) (at0 xs (j : Int)))) l).length z) (tabTo (fun j => idxI xs (c.th (at0 xs (k : Int)) (at0 xs (j : Int)))) l))] : List (Nat × Itm))) s.1 s.2.1 s.2.2) (fun s : Nat × (Option Addr) × Nat => (fun (l : Nat) (e : Option Addr) (z : Nat) => l ≤ xs.length) s.1 s.2.1 s.2.2) (fun s : Nat × (Option Addr) × Nat => (fun (l : Nat) (e : Option Addr) (z : Nat) => xs.length - l) s.1 s.2.1 s.2.2) (0, _, _) (sub_cons rfl (sub_cons rfl (sub_cons rfl (sub_cons rfl (sub_cons rfl (sub_cons rfl (sub_cons rfl (sub_cons rfl (sub_cons rfl (sub_cons rfl (sub_cons rfl (sub_cons rfl (sub_cons rfl (sub_cons rfl sub_nil)))))))))))))) rfl (Nat.zero_le _) ?_
                rintro ⟨l, e, z⟩ hinv KL249 hKL249
                simp only [updL, List.foldl_cons, List.foldl_nil, List.set_cons_succ, List.set_cons_zero, List.cons_append, List.nil_append] at hinv hKL249 ⊢
                have hl3 := hinv
                have hl4 := tabTo_len (fun j => idxI xs (c.th (at0 xs (k : Int)) (at0 xs (j : Int)))) l
                refine gc_seq fun K250 hK250 => ?_
                refine gc_seq fun K251 hK251 => ?_
                refine gc_region ?_
                refine g_v (.free rfl) rfl rfl (qt_move rfl rfl) ?_
                refine g_v (.free rfl) rfl rfl (qt_move rfl rfl) ?_
                refine g_v (.free rfl) rfl rfl (qt_len rfl rfl ulE1 (fun w M => lenV_rd hu)) ?_
                refine g_v (.free rfl) rfl rfl (qt_lss rfl rfl rfl) ?_
                refine g_nil ?_
                refine gk_then (hK251 _ _ ?_)
                refine gc_cond rfl (fun hc9 => ?_) (fun hc9 => ?_)
                · try simp only [decide_eq_true_eq, decide_eq_false_iff_not, Bool.not_eq_true', Bool.not_eq_false', Bool.not_eq_eq_eq_not, Bool.not_true, Bool.not_false, ne_eq, Decidable.not_not, Classical.not_not] at hc9
                  refine gc_skip ?_
                  refine gk_then (hK250 _ _ ?_)
                  refine gc_seq fun K252 hK252 => ?_
                  refine gc_block ?_
                  have hk1 := allP_k hx (k := k) (by omega)
                  have hA := arrP hS hk1.1 hk1.2
                  have a0 := hk1.1; have a1 := hk1.2; have a2 := hA.fs; have a3 := hA.fm; have a4 := hA.row; have a5 := hA.ft
                  have hl1 := allP_k hx (k := l) (by omega)
                  have b0 := hl1.1; have b1 := hl1.2
                  try simp only [List.nil_append, List.cons_append, List.append_assoc, List.set_cons_succ, List.set_cons_zero]
                  refine ga_start _ (fun w M => mem_erase 10 (M)) ?_
                  refine ga_v 0 rfl (by kernel_rfl) (by kernel_rfl) (by kernel_rfl) (.free rfl) rfl rfl (qt_move rfl rfl) (fun _ _ _ h => h) ?_
                  refine ga_v 1 rfl (by kernel_rfl) (by kernel_rfl) (by kernel_rfl) (.free rfl) rfl rfl (qt_move rfl rfl) (fun _ _ _ h => h) ?_
                  refine ga_v 2 rfl (by kernel_rfl) (by kernel_rfl) (by kernel_rfl) (.free rfl) rfl rfl (qt_field (z := 0) (off := 4) rfl rfl Try.underlying28 rfl (by kernel_rfl) rfl) (fun _ _ _ h => h) ?_
                  refine ga_v 3 rfl (by kernel_rfl) (by kernel_rfl) (by kernel_rfl) (.free rfl) rfl rfl (qt_loadB (n := 0) rfl rfl Try.underlying23 rfl rfl rfl) (fun _ _ _ h => h) ?_
                  refine ga_v 4 rfl (by kernel_rfl) (by kernel_rfl) (by kernel_rfl) (.free rfl) rfl rfl (qt_move rfl rfl) (fun _ _ _ h => h) ?_
                  refine ga_v 5 rfl (by kernel_rfl) (by kernel_rfl) (by kernel_rfl) (.free rfl) rfl rfl (qt_move rfl rfl) (fun _ _ _ h => h) ?_
                  refine ga_v 6 rfl (by kernel_rfl) (by kernel_rfl) (by kernel_rfl) (.free rfl) rfl rfl (qt_index rfl rfl rfl ulE1 szE1 (fun w M => lenA_rd hu) (by omega) (by omega)) (fun _ _ _ h => h) ?_
                  refine ga_v 7 rfl (by kernel_rfl) (by kernel_rfl) (by kernel_rfl) (.free rfl) rfl rfl (qt_load1 rfl rfl Try.underlying2 rfl (fun w M => mem_rd M hu) (by omega) (by omega)) (fun _ _ _ h => h) ?_
                  refine ga_v 8 rfl (by kernel_rfl) (by kernel_rfl) (by kernel_rfl) (.free rfl) rfl rfl (qt_index rfl rfl rfl ulE2 szE2 (fun w M => lenA_rd2 h4) (by omega) (by omega)) (fun _ _ _ h => h) ?_
                  refine ga_load2 9 rfl (by kernel_rfl) (by kernel_rfl) (by kernel_rfl) (.free rfl) rfl rfl rfl rfl Try.underlying22 rfl h4 (by omega) (by omega) (fun _ _ _ _ h => h) ?_
                  intro ra253 rc253 hr253
                  refine ga_v 10 rfl (by kernel_rfl) (by kernel_rfl) (by kernel_rfl) (.free rfl) rfl rfl (qt_move rfl rfl) (fun _ _ _ h => h) ?_
                  refine ga_v 11 rfl (by kernel_rfl) (by kernel_rfl) (by kernel_rfl) (.free rfl) rfl rfl (qt_move rfl rfl) (fun _ _ _ h => h) ?_
                  refine ga_v 12 rfl (by kernel_rfl) (by kernel_rfl) (by kernel_rfl) (.free rfl) rfl rfl (qt_index rfl rfl rfl ulE1 szE1 (fun w M => lenA_rd hu) (by omega) (by omega)) (fun _ _ _ h => h) ?_
                  refine ga_v 13 rfl (by kernel_rfl) (by kernel_rfl) (by kernel_rfl) (.free rfl) rfl rfl (qt_load1 rfl rfl Try.underlying2 rfl (fun w M => mem_rd M hu) (by omega) (by omega)) (fun _ _ _ h => h) ?_
                  refine ga_v 14 rfl (by kernel_rfl) (by kernel_rfl) (by kernel_rfl) (.free rfl) rfl rfl (qt_index rfl rfl rfl ulE1 szE1 (fun w M => lenA_rd hr253) (by omega) (by omega)) (fun _ _ _ h => h) ?_
                  refine ga_v 15 rfl (by kernel_rfl) (by kernel_rfl) (by kernel_rfl) (.free rfl) rfl rfl (qt_load1 rfl rfl Try.underlying2 rfl (fun w M => mem_rd M hr253) (by omega) (by omega)) (fun _ _ _ h => h) ?_
                  refine ga_op 16 (by kernel_rfl) rfl (.free rfl) fun K254 hK254 => ?_
                  refine go_q rfl rfl (qt_call rfl Try.func93 rfl (by decide) rfl (fun w M => specIndex_any w _ _ _ (mem_rd M hu))) ?_
                  refine hK254 _ _ (fun w M => (mem_erase 10 (mem_take 11 M) :)) ?_
                  refine ga_op 17 (by kernel_rfl) rfl (.free rfl) fun K256 hK256 => ?_
                  refine go_slice1 rfl rfl rfl rfl Try.underlying22 ?_
                  intro B255
                  refine hK256 _ _ (fun w M => (mem_erase 10 (mem_take 11 M) :)) ?_
                  refine ga_op 18 (by kernel_rfl) rfl (.free rfl) fun K258 hK258 => ?_
                  refine go_append (n := 10) (m := 11) rfl rfl rfl Try.underlying22 rfl rfl rfl rfl (by omega) ?_
                  intro va257 vc257
                  refine hK258 _ _ (fun w M => (mem_erase 10 (mem_take 11 M) :)) ?_
                  refine ga_v 19 rfl (by kernel_rfl) (by kernel_rfl) (by kernel_rfl) (.free rfl) rfl rfl (qt_assign rfl rfl) (fun _ _ _ h => h) ?_
                  refine ga_done (by kernel_rfl) ?_
                  refine gk_block ?_
                  refine gk_then (hK252 _ _ ?_)
                  refine gc_region ?_
                  refine g_v (.free rfl) rfl rfl (qt_move rfl rfl) ?_
                  refine g_v (.free rfl) rfl rfl (qt_add rfl rfl rfl (by omega)) ?_
                  refine g_v (.free rfl) rfl rfl (qt_assign rfl rfl) ?_
                  refine g_nil ?_
                  simp only [show ∀ f g, at0 (row2 c.m f) g = c.th f g from fun _ _ => rfl, tabTo_succ]
                  refine gk_then (gk_take 11 ?_)
                  refine gk_sub ?hs_259 (hKL249 (l + 1, _, _) ?hi_259 ?hm_259)
                  case hs_259 => exact (sub_cons rfl (sub_cons rfl (sub_cons rfl (sub_cons rfl (sub_cons rfl (sub_cons rfl (sub_cons rfl (sub_cons rfl (sub_cons rfl (sub_cons rfl (sub_cons rfl (sub_cons rfl (sub_cons rfl (sub_cons rfl sub_nil))))))))))))))
                  case hi_259 => omega
                  case hm_259 => omega
                · try simp only [decide_eq_true_eq, decide_eq_false_iff_not, Bool.not_eq_true', Bool.not_eq_false', Bool.not_eq_eq_eq_not, Bool.not_true, Bool.not_false, ne_eq, Decidable.not_not, Classical.not_not] at hc9
                  refine gc_exit ?_
                  refine gk_then_exit ?_
                  refine gk_then_exit ?_
                  refine gk_block_hit ?_
                  refine gk_then (hK247 _ _ ?_)
                  refine gc_region ?_
                  refine g_v (.free rfl) rfl rfl (qt_field (z := 0) (off := 4) rfl rfl Try.underlying28 rfl (by kernel_rfl) rfl) ?_
                  refine g_v (.free rfl) rfl rfl (qt_loadB (n := 7) rfl rfl Try.underlying23 rfl rfl rfl) ?_
                  refine g_v (.free rfl) rfl rfl (qt_move rfl rfl) ?_
                  refine g_op (.free rfl) fun K261 hK261 => ?_
                  refine go_sliceR1 (m := 10) rfl rfl rfl rfl Try.underlying23 rfl ?_
                  intro B260
                  refine hK261 _ _ ?_
                  refine g_op (.free rfl) fun K263 hK263 => ?_
                  refine go_appendRow (n := 6) (m := 10) (m' := 9) rfl rfl rfl Try.underlying23 rfl rfl rfl rfl rfl (by omega) ?_
                  intro va262 vc262
                  refine hK263 _ _ ?_
                  refine g_v (.free rfl) rfl rfl (qt_field (z := 0) (off := 4) rfl rfl Try.underlying28 rfl (by kernel_rfl) rfl) ?_
                  refine g_op (.free rfl) fun K264 hK264 => ?_
                  refine go_storeB (n := 7) rfl rfl rfl rfl (by kernel_rfl) rfl rfl rfl (by first | decide | simp) ?_
                  refine hK264 _ _ ?_
                  refine g_nil ?_
                  refine gk_block ?_
                  refine gk_then (hK70 _ _ ?_)
                  refine gc_region ?_
                  refine g_v (.free rfl) rfl rfl (qt_move rfl rfl) ?_
                  refine g_v (.free rfl) rfl rfl (qt_add rfl rfl rfl (by omega)) ?_
                  refine g_v (.free rfl) rfl rfl (qt_assign rfl rfl) ?_
                  refine g_nil ?_
                  obtain rfl : l = xs.length := by omega
                  simp only [rowsTo_succ]
                  refine gk_then (gk_take 8 ?_)
                  refine gk_sub ?hs_265 (hKL67 (k + 1, _, _, _, _, _, _, _) ?hi_265 ?hm_265)
                  case hs_265 => exact (sub_cons rfl (sub_cons rfl (sub_cons rfl (sub_cons rfl (sub_cons rfl (sub_cons rfl (sub_cons rfl (sub_cons rfl (sub_cons rfl (sub_cons rfl (sub_cons rfl sub_nil)))))))))))
                  case hi_265 => omega
                  case hm_265 => omega
          · refine go_slice1 rfl rfl rfl rfl Try.underlying22 ?_
            intro B266
            refine hK170 _ _ (fun w M => (mem_erase 3 (mem_erase 7 (mem_take 8 M)) :)) ?_
            refine ga_op 1 (by kernel_rfl) rfl (.free rfl) fun K268 hK268 => ?_
            refine go_v rfl rfl (qt_loadB (n := 7) rfl rfl Try.underlying22 rfl rfl rfl) ?_
            refine hK268 _ _ (fun w M => (mem_erase 3 (mem_erase 7 (mem_take 8 M)) :)) ?_
            refine ga_op 13 (by kernel_rfl) rfl (.free rfl) fun K270 hK270 => ?_
            refine go_append (n := 3) (m := 8) rfl rfl rfl Try.underlying22 rfl rfl rfl rfl (by omega) ?_
            intro va269 vc269
            refine hK270 _ _ (fun w M => (mem_erase 3 (mem_erase 7 (mem_take 8 M)) :)) ?_
            refine ga_v 14 rfl (by kernel_rfl) (by kernel_rfl) (by kernel_rfl) (.free rfl) rfl rfl (qt_field (z := 0) (off := 1) rfl rfl Try.underlying28 rfl (by kernel_rfl) rfl) (fun _ _ _ h => h) ?_
            refine ga_op 15 (by kernel_rfl) rfl (.free rfl) fun K271 hK271 => ?_
            refine go_storeB (n := 7) rfl rfl rfl rfl (by kernel_rfl) rfl rfl rfl (by first | decide | simp) ?_
            refine hK271 _ _ (fun w M => (mem_erase 3 (mem_erase 7 (mem_take 8 M)) :)) ?_
            refine ga_done (by kernel_rfl) ?_
            refine gk_then (hK71 _ _ ?_)
            refine gc_seq fun K272 hK272 => ?_
            try simp only [List.nil_append, List.cons_append, List.append_assoc, List.set_cons_succ, List.set_cons_zero]
            refine ga_start _ (fun w M => mem_erase 4 (mem_erase 7 (M))) ?_
            refine ga_v 0 rfl (by kernel_rfl) (by kernel_rfl) (by kernel_rfl) (.free rfl) rfl rfl (qt_field (z := 0) (off := 2) rfl rfl Try.underlying28 rfl (by kernel_rfl) rfl) (fun _ _ _ h => h) ?_
            refine ga_v 2 rfl (by kernel_rfl) (by kernel_rfl) (by kernel_rfl) (.free rfl) rfl rfl (qt_move rfl rfl) (fun _ _ _ h => h) ?_
            refine ga_v 3 rfl (by kernel_rfl) (by kernel_rfl) (by kernel_rfl) (.free rfl) rfl rfl (qt_field (z := 0) (off := 2) rfl rfl Try.underlying28 rfl (by kernel_rfl) rfl) (fun _ _ _ h => h) ?_
            refine ga_v 4 rfl (by kernel_rfl) (by kernel_rfl) (by kernel_rfl) (.free rfl) rfl rfl (qt_loadB (n := 0) rfl rfl Try.underlying22 rfl rfl rfl) (fun _ _ _ h => h) ?_
            refine ga_v 5 rfl (by kernel_rfl) (by kernel_rfl) (by kernel_rfl) (.free rfl) rfl rfl (qt_move rfl rfl) (fun _ _ _ h => h) ?_
            refine ga_v 6 rfl (by kernel_rfl) (by kernel_rfl) (by kernel_rfl) (.free rfl) rfl rfl (qt_move rfl rfl) (fun _ _ _ h => h) ?_
            refine ga_v 7 rfl (by kernel_rfl) (by kernel_rfl) (by kernel_rfl) (.free rfl) rfl rfl (qt_index rfl rfl rfl ulE1 szE1 (fun w M => lenA_rd hu) (by omega) (by omega)) (fun _ _ _ h => h) ?_
            refine ga_v 8 rfl (by kernel_rfl) (by kernel_rfl) (by kernel_rfl) (.free rfl) rfl rfl (qt_load1 rfl rfl Try.underlying2 rfl (fun w M => mem_rd M hu) (by omega) (by omega)) (fun _ _ _ h => h) ?_
            refine ga_v 9 rfl (by kernel_rfl) (by kernel_rfl) (by kernel_rfl) (.free rfl) rfl rfl (qt_index rfl rfl rfl ulE1 szE1 (fun w M => lenA_rd h2) (by omega) (by omega)) (fun _ _ _ h => h) ?_
            refine ga_v 10 rfl (by kernel_rfl) (by kernel_rfl) (by kernel_rfl) (.free rfl) rfl rfl (qt_load1 rfl rfl Try.underlying2 rfl (fun w M => mem_rd M h2) (by omega) (by omega)) (fun _ _ _ h => h) ?_
            refine ga_two 1 11 (by kernel_rfl) rfl rfl (.free rfl) (.free rfl) (fun K273 hK273 => ?_) (fun K273 hK273 => ?_)
            · refine go_v rfl rfl (qt_loadB (n := 7) rfl rfl Try.underlying22 rfl rfl rfl) ?_
              refine hK273 _ _ (fun w M => (mem_erase 4 (mem_erase 7 (mem_take 9 M)) :)) ?_
              refine ga_op 11 (by kernel_rfl) rfl (.free rfl) fun K275 hK275 => ?_
              refine go_q rfl rfl (qt_call rfl Try.func93 rfl (by decide) rfl (fun w M => specIndex_any w _ _ _ ((mem_own1 (n := 2) M rfl).rd))) ?_
              refine hK275 _ _ (fun w M => (mem_erase 4 (mem_erase 7 (mem_take 9 M)) :)) ?_
              refine ga_op 12 (by kernel_rfl) rfl (.free rfl) fun K277 hK277 => ?_
              refine go_slice1 rfl rfl rfl rfl Try.underlying22 ?_
              intro B276
              refine hK277 _ _ (fun w M => (mem_erase 4 (mem_erase 7 (mem_take 9 M)) :)) ?_
              refine ga_op 13 (by kernel_rfl) rfl (.free rfl) fun K279 hK279 => ?_
              refine go_append (n := 4) (m := 9) rfl rfl rfl Try.underlying22 rfl rfl rfl rfl (by omega) ?_
              intro va278 vc278
              refine hK279 _ _ (fun w M => (mem_erase 4 (mem_erase 7 (mem_take 9 M)) :)) ?_
              refine ga_v 14 rfl (by kernel_rfl) (by kernel_rfl) (by kernel_rfl) (.free rfl) rfl rfl (qt_field (z := 0) (off := 2) rfl rfl Try.underlying28 rfl (by kernel_rfl) rfl) (fun _ _ _ h => h) ?_
              refine ga_op 15 (by kernel_rfl) rfl (.free rfl) fun K280 hK280 => ?_
              refine go_storeB (n := 7) rfl rfl rfl rfl (by kernel_rfl) rfl rfl rfl (by first | decide | simp) ?_
              refine hK280 _ _ (fun w M => (mem_erase 4 (mem_erase 7 (mem_take 9 M)) :)) ?_
              refine ga_done (by kernel_rfl) ?_
              refine gk_then (hK272 _ _ ?_)
              refine gc_seq fun K281 hK281 => ?_
              refine gc_region ?_
              refine g_op (.free rfl) fun K283 hK283 => ?_
              refine go_slice0 rfl rfl rfl Try.underlying22 ?_
              intro B282
              refine hK283 _ _ ?_
              refine g_v (.free rfl) rfl rfl (qt_assign rfl rfl) ?_
              refine g_nil ?_
              refine gk_then (hK281 _ _ ?_)
              refine gc_seq fun K284 hK284 => ?_
              refine gc_seq fun K285 hK285 => ?_
              refine gc_region ?_
              refine g_v (.free rfl) rfl rfl (qt_assign rfl rfl) ?_
              refine g_nil ?_
              refine gk_then (hK285 _ _ ?_)
              refine gc_block ?_
              simp only [tabTo_succ]
              try simp only [List.nil_append, List.cons_append, List.append_assoc, List.set_cons_succ, List.set_cons_zero]
              refine gc_loop ([(0, _), (1, _), (2, _), (4, _), (5, _), (6, _), (7, _), (8, _), (9, _), (16, _), (40, _), (61, _)] : Env) (fun s : Nat × (Option Addr) × Nat => (fun (l : Nat) (e : Option Addr) (z : Nat) => ([(10, .slice e (tabTo (fun j => idxI xs (c.th (at0 xs (k : Int)) (at0 xs (j : Int)))) l).length z), (11, .int .i64 (l : Int))] : Env)) s.1 s.2.1 s.2.2) (fun s : Nat × (Option Addr) × Nat => (fun (l : Nat) (e : Option Addr) (z : Nat) => ([(10, own1I (.slice e (tabTo (fun j => idxI xs (c.th (at0 xs (k : Int)) (at0 xs (j : Int)))) l).length z) (tabTo (fun j => idxI xs (c.th (at0 xs (k : Int)) (at0 xs (j : Int)))) l))] : List (Nat × Itm))) s.1 s.2.1 s.2.2) (fun s : Nat × (Option Addr) × Nat => (fun (l : Nat) (e : Option Addr) (z : Nat) => l ≤ xs.length) s.1 s.2.1 s.2.2) (fun s : Nat × (Option Addr) × Nat => (fun (l : Nat) (e : Option Addr) (z : Nat) => xs.length - l) s.1 s.2.1 s.2.2) (0, _, _) (sub_cons rfl (sub_cons rfl (sub_cons rfl (sub_cons rfl (sub_cons rfl (sub_cons rfl (sub_cons rfl (sub_cons rfl (sub_cons rfl (sub_cons rfl (sub_cons rfl (sub_cons rfl (sub_cons rfl (sub_cons rfl sub_nil)))))))))))))) rfl (Nat.zero_le _) ?_
              rintro ⟨l, e, z⟩ hinv KL286 hKL286
              simp only [updL, List.foldl_cons, List.foldl_nil, List.set_cons_succ, List.set_cons_zero, List.cons_append, List.nil_append] at hinv hKL286 ⊢
              have hl3 := hinv
              have hl4 := tabTo_len (fun j => idxI xs (c.th (at0 xs (k : Int)) (at0 xs (j : Int)))) l
              refine gc_seq fun K287 hK287 => ?_
              refine gc_seq fun K288 hK288 => ?_
              refine gc_region ?_
              refine g_v (.free rfl) rfl rfl (qt_move rfl rfl) ?_
              refine g_v (.free rfl) rfl rfl (qt_move rfl rfl) ?_
              refine g_v (.free rfl) rfl rfl (qt_len rfl rfl ulE1 (fun w M => lenV_rd hu)) ?_
              refine g_v (.free rfl) rfl rfl (qt_lss rfl rfl rfl) ?_
              refine g_nil ?_
              refine gk_then (hK288 _ _ ?_)
              refine gc_cond rfl (fun hc10 => ?_) (fun hc10 => ?_)
              · try simp only [decide_eq_true_eq, decide_eq_false_iff_not, Bool.not_eq_true', Bool.not_eq_false', Bool.not_eq_eq_eq_not, Bool.not_true, Bool.not_false, ne_eq, Decidable.not_not, Classical.not_not] at hc10
                refine gc_skip ?_
                refine gk_then (hK287 _ _ ?_)
                refine gc_seq fun K289 hK289 => ?_
                refine gc_block ?_
                have hk1 := allP_k hx (k := k) (by omega)
                have hA := arrP hS hk1.1 hk1.2
                have a0 := hk1.1; have a1 := hk1.2; have a2 := hA.fs; have a3 := hA.fm; have a4 := hA.row; have a5 := hA.ft
                have hl1 := allP_k hx (k := l) (by omega)
                have b0 := hl1.1; have b1 := hl1.2
                try simp only [List.nil_append, List.cons_append, List.append_assoc, List.set_cons_succ, List.set_cons_zero]
                refine ga_start _ (fun w M => mem_erase 10 (M)) ?_
                refine ga_v 0 rfl (by kernel_rfl) (by kernel_rfl) (by kernel_rfl) (.free rfl) rfl rfl (qt_move rfl rfl) (fun _ _ _ h => h) ?_
                refine ga_v 1 rfl (by kernel_rfl) (by kernel_rfl) (by kernel_rfl) (.free rfl) rfl rfl (qt_move rfl rfl) (fun _ _ _ h => h) ?_
                refine ga_v 2 rfl (by kernel_rfl) (by kernel_rfl) (by kernel_rfl) (.free rfl) rfl rfl (qt_field (z := 0) (off := 4) rfl rfl Try.underlying28 rfl (by kernel_rfl) rfl) (fun _ _ _ h => h) ?_
                refine ga_v 3 rfl (by kernel_rfl) (by kernel_rfl) (by kernel_rfl) (.free rfl) rfl rfl (qt_loadB (n := 0) rfl rfl Try.underlying23 rfl rfl rfl) (fun _ _ _ h => h) ?_
                refine ga_v 4 rfl (by kernel_rfl) (by kernel_rfl) (by kernel_rfl) (.free rfl) rfl rfl (qt_move rfl rfl) (fun _ _ _ h => h) ?_
                refine ga_v 5 rfl (by kernel_rfl) (by kernel_rfl) (by kernel_rfl) (.free rfl) rfl rfl (qt_move rfl rfl) (fun _ _ _ h => h) ?_
                refine ga_v 6 rfl (by kernel_rfl) (by kernel_rfl) (by kernel_rfl) (.free rfl) rfl rfl (qt_index rfl rfl rfl ulE1 szE1 (fun w M => lenA_rd hu) (by omega) (by omega)) (fun _ _ _ h => h) ?_
                refine ga_v 7 rfl (by kernel_rfl) (by kernel_rfl) (by kernel_rfl) (.free rfl) rfl rfl (qt_load1 rfl rfl Try.underlying2 rfl (fun w M => mem_rd M hu) (by omega) (by omega)) (fun _ _ _ h => h) ?_
                refine ga_v 8 rfl (by kernel_rfl) (by kernel_rfl) (by kernel_rfl) (.free rfl) rfl rfl (qt_index rfl rfl rfl ulE2 szE2 (fun w M => lenA_rd2 h4) (by omega) (by omega)) (fun _ _ _ h => h) ?_
                refine ga_load2 9 rfl (by kernel_rfl) (by kernel_rfl) (by kernel_rfl) (.free rfl) rfl rfl rfl rfl Try.underlying22 rfl h4 (by omega) (by omega) (fun _ _ _ _ h => h) ?_
                intro ra290 rc290 hr290
                refine ga_v 10 rfl (by kernel_rfl) (by kernel_rfl) (by kernel_rfl) (.free rfl) rfl rfl (qt_move rfl rfl) (fun _ _ _ h => h) ?_
                refine ga_v 11 rfl (by kernel_rfl) (by kernel_rfl) (by kernel_rfl) (.free rfl) rfl rfl (qt_move rfl rfl) (fun _ _ _ h => h) ?_
                refine ga_v 12 rfl (by kernel_rfl) (by kernel_rfl) (by kernel_rfl) (.free rfl) rfl rfl (qt_index rfl rfl rfl ulE1 szE1 (fun w M => lenA_rd hu) (by omega) (by omega)) (fun _ _ _ h => h) ?_
                refine ga_v 13 rfl (by kernel_rfl) (by kernel_rfl) (by kernel_rfl) (.free rfl) rfl rfl (qt_load1 rfl rfl Try.underlying2 rfl (fun w M => mem_rd M hu) (by omega) (by omega)) (fun _ _ _ h => h) ?_
                refine ga_v 14 rfl (by kernel_rfl) (by kernel_rfl) (by kernel_rfl) (.free rfl) rfl rfl (qt_index rfl rfl rfl ulE1 szE1 (fun w M => lenA_rd hr290) (by omega) (by omega)) (fun _ _ _ h => h) ?_
                refine ga_v 15 rfl (by kernel_rfl) (by kernel_rfl) (by kernel_rfl) (.free rfl) rfl rfl (qt_load1 rfl rfl Try.underlying2 rfl (fun w M => mem_rd M hr290) (by omega) (by omega)) (fun _ _ _ h => h) ?_
                refine ga_op 16 (by kernel_rfl) rfl (.free rfl) fun K291 hK291 => ?_
                refine go_q rfl rfl (qt_call rfl Try.func93 rfl (by decide) rfl (fun w M => specIndex_any w _ _ _ (mem_rd M hu))) ?_
                refine hK291 _ _ (fun w M => (mem_erase 10 (mem_take 11 M) :)) ?_
                refine ga_op 17 (by kernel_rfl) rfl (.free rfl) fun K293 hK293 => ?_
                refine go_slice1 rfl rfl rfl rfl Try.underlying22 ?_
                intro B292
                refine hK293 _ _ (fun w M => (mem_erase 10 (mem_take 11 M) :)) ?_
                refine ga_op 18 (by kernel_rfl) rfl (.free rfl) fun K295 hK295 => ?_
                refine go_append (n := 10) (m := 11) rfl rfl rfl Try.underlying22 rfl rfl rfl rfl (by omega) ?_
                intro va294 vc294
                refine hK295 _ _ (fun w M => (mem_erase 10 (mem_take 11 M) :)) ?_
                refine ga_v 19 rfl (by kernel_rfl) (by kernel_rfl) (by kernel_rfl) (.free rfl) rfl rfl (qt_assign rfl rfl) (fun _ _ _ h => h) ?_
                refine ga_done (by kernel_rfl) ?_
                refine gk_block ?_
                refine gk_then (hK289 _ _ ?_)
                refine gc_region ?_
                refine g_v (.free rfl) rfl rfl (qt_move rfl rfl) ?_
                refine g_v (.free rfl) rfl rfl (qt_add rfl rfl rfl (by omega)) ?_
                refine g_v (.free rfl) rfl rfl (qt_assign rfl rfl) ?_
                refine g_nil ?_
                simp only [show ∀ f g, at0 (row2 c.m f) g = c.th f g from fun _ _ => rfl, tabTo_succ]
                refine gk_then (gk_take 11 ?_)
                refine gk_sub ?hs_296 (hKL286 (l + 1, _, _) ?hi_296 ?hm_296)
                case hs_296 => exact (sub_cons rfl (sub_cons rfl (sub_cons rfl (sub_cons rfl (sub_cons rfl (sub_cons rfl (sub_cons rfl (sub_cons rfl (sub_cons rfl (sub_cons rfl (sub_cons rfl (sub_cons rfl (sub_cons rfl (sub_cons rfl sub_nil))))))))))))))
                case hi_296 => omega
                case hm_296 => omega
              · try simp only [decide_eq_true_eq, decide_eq_false_iff_not, Bool.not_eq_true', Bool.not_eq_false', Bool.not_eq_eq_eq_not, Bool.not_true, Bool.not_false, ne_eq, Decidable.not_not, Classical.not_not] at hc10
                refine gc_exit ?_
                refine gk_then_exit ?_
                refine gk_then_exit ?_
                refine gk_block_hit ?_
                refine gk_then (hK284 _ _ ?_)
                refine gc_region ?_
                refine g_v (.free rfl) rfl rfl (qt_field (z := 0) (off := 4) rfl rfl Try.underlying28 rfl (by kernel_rfl) rfl) ?_
                refine g_v (.free rfl) rfl rfl (qt_loadB (n := 7) rfl rfl Try.underlying23 rfl rfl rfl) ?_
                refine g_v (.free rfl) rfl rfl (qt_move rfl rfl) ?_
                refine g_op (.free rfl) fun K298 hK298 => ?_
                refine go_sliceR1 (m := 10) rfl rfl rfl rfl Try.underlying23 rfl ?_
                intro B297
                refine hK298 _ _ ?_
                refine g_op (.free rfl) fun K300 hK300 => ?_
                refine go_appendRow (n := 6) (m := 10) (m' := 9) rfl rfl rfl Try.underlying23 rfl rfl rfl rfl rfl (by omega) ?_
                intro va299 vc299
                refine hK300 _ _ ?_
                refine g_v (.free rfl) rfl rfl (qt_field (z := 0) (off := 4) rfl rfl Try.underlying28 rfl (by kernel_rfl) rfl) ?_
                refine g_op (.free rfl) fun K301 hK301 => ?_
                refine go_storeB (n := 7) rfl rfl rfl rfl (by kernel_rfl) rfl rfl rfl (by first | decide | simp) ?_
                refine hK301 _ _ ?_
                refine g_nil ?_
                refine gk_block ?_
                refine gk_then (hK70 _ _ ?_)
                refine gc_region ?_
                refine g_v (.free rfl) rfl rfl (qt_move rfl rfl) ?_
                refine g_v (.free rfl) rfl rfl (qt_add rfl rfl rfl (by omega)) ?_
                refine g_v (.free rfl) rfl rfl (qt_assign rfl rfl) ?_
                refine g_nil ?_
                obtain rfl : l = xs.length := by omega
                simp only [rowsTo_succ]
                refine gk_then (gk_take 8 ?_)
                refine gk_sub ?hs_302 (hKL67 (k + 1, _, _, _, _, _, _, _) ?hi_302 ?hm_302)
                case hs_302 => exact (sub_cons rfl (sub_cons rfl (sub_cons rfl (sub_cons rfl (sub_cons rfl (sub_cons rfl (sub_cons rfl (sub_cons rfl (sub_cons rfl (sub_cons rfl (sub_cons rfl sub_nil)))))))))))
                case hi_302 => omega
                case hm_302 => omega
            · refine go_q rfl rfl (qt_call rfl Try.func93 rfl (by decide) rfl (fun w M => specIndex_any w _ _ _ ((mem_own1 (n := 2) M rfl).rd))) ?_
              refine hK273 _ _ (fun w M => (mem_erase 4 (mem_erase 7 (mem_take 9 M)) :)) ?_
              refine ga_two 1 12 (by kernel_rfl) rfl rfl (.free rfl) (.free rfl) (fun K304 hK304 => ?_) (fun K304 hK304 => ?_)
              · refine go_v rfl rfl (qt_loadB (n := 7) rfl rfl Try.underlying22 rfl rfl rfl) ?_
                refine hK304 _ _ (fun w M => (mem_erase 4 (mem_erase 7 (mem_take 9 M)) :)) ?_
                refine ga_op 12 (by kernel_rfl) rfl (.free rfl) fun K307 hK307 => ?_
                refine go_slice1 rfl rfl rfl rfl Try.underlying22 ?_
                intro B306
                refine hK307 _ _ (fun w M => (mem_erase 4 (mem_erase 7 (mem_take 9 M)) :)) ?_
                refine ga_op 13 (by kernel_rfl) rfl (.free rfl) fun K309 hK309 => ?_
                refine go_append (n := 4) (m := 9) rfl rfl rfl Try.underlying22 rfl rfl rfl rfl (by omega) ?_
                intro va308 vc308
                refine hK309 _ _ (fun w M => (mem_erase 4 (mem_erase 7 (mem_take 9 M)) :)) ?_
                refine ga_v 14 rfl (by kernel_rfl) (by kernel_rfl) (by kernel_rfl) (.free rfl) rfl rfl (qt_field (z := 0) (off := 2) rfl rfl Try.underlying28 rfl (by kernel_rfl) rfl) (fun _ _ _ h => h) ?_
                refine ga_op 15 (by kernel_rfl) rfl (.free rfl) fun K310 hK310 => ?_
                refine go_storeB (n := 7) rfl rfl rfl rfl (by kernel_rfl) rfl rfl rfl (by first | decide | simp) ?_
                refine hK310 _ _ (fun w M => (mem_erase 4 (mem_erase 7 (mem_take 9 M)) :)) ?_
                refine ga_done (by kernel_rfl) ?_
                refine gk_then (hK272 _ _ ?_)
                refine gc_seq fun K311 hK311 => ?_
                refine gc_region ?_
                refine g_op (.free rfl) fun K313 hK313 => ?_
                refine go_slice0 rfl rfl rfl Try.underlying22 ?_
                intro B312
                refine hK313 _ _ ?_
                refine g_v (.free rfl) rfl rfl (qt_assign rfl rfl) ?_
                refine g_nil ?_
                refine gk_then (hK311 _ _ ?_)
                refine gc_seq fun K314 hK314 => ?_
                refine gc_seq fun K315 hK315 => ?_
                refine gc_region ?_
                refine g_v (.free rfl) rfl rfl (qt_assign rfl rfl) ?_
                refine g_nil ?_
                refine gk_then (hK315 _ _ ?_)
                refine gc_block ?_
                simp only [tabTo_succ]
                try simp only [List.nil_append, List.cons_append, List.append_assoc, List.set_cons_succ, List.set_cons_zero]
                refine gc_loop ([(0, _), (1, _), (2, _), (4, _), (5, _), (6, _), (7, _), (8, _), (9, _), (16, _), (40, _), (61, _)] : Env) (fun s : Nat × (Option Addr) × Nat => (fun (l : Nat) (e : Option Addr) (z : Nat) => ([(10, .slice e (tabTo (fun j => idxI xs (c.th (at0 xs (k : Int)) (at0 xs (j : Int)))) l).length z), (11, .int .i64 (l : Int))] : Env)) s.1 s.2.1 s.2.2) (fun s : Nat × (Option Addr) × Nat => (fun (l : Nat) (e : Option Addr) (z : Nat) => ([(10, own1I (.slice e (tabTo (fun j => idxI xs (c.th (at0 xs (k : Int)) (at0 xs (j : Int)))) l).length z) (tabTo (fun j => idxI xs (c.th (at0 xs (k : Int)) (at0 xs (j : Int)))) l))] : List (Nat × Itm))) s.1 s.2.1 s.2.2) (fun s : Nat × (Option Addr) × Nat => (fun (l : Nat) (e : Option Addr) (z : Nat) => l ≤ xs.length) s.1 s.2.1 s.2.2) (fun s : Nat × (Option Addr) × Nat => (fun (l : Nat) (e : Option Addr) (z : Nat) => xs.length - l) s.1 s.2.1 s.2.2) (0, _, _) (sub_cons rfl (sub_cons rfl (sub_cons rfl (sub_cons rfl (sub_cons rfl (sub_cons rfl (sub_cons rfl (sub_cons rfl (sub_cons rfl (sub_cons rfl (sub_cons rfl (sub_cons rfl (sub_cons rfl (sub_cons rfl sub_nil)))))))))))))) rfl (Nat.zero_le _) ?_
                rintro ⟨l, e, z⟩ hinv KL316 hKL316
                simp only [updL, List.foldl_cons, List.foldl_nil, List.set_cons_succ, List.set_cons_zero, List.cons_append, List.nil_append] at hinv hKL316 ⊢
                have hl3 := hinv
                have hl4 := tabTo_len (fun j => idxI xs (c.th (at0 xs (k : Int)) (at0 xs (j : Int)))) l
                refine gc_seq fun K317 hK317 => ?_
                refine gc_seq fun K318 hK318 => ?_
                refine gc_region ?_
                refine g_v (.free rfl) rfl rfl (qt_move rfl rfl) ?_
                refine g_v (.free rfl) rfl rfl (qt_move rfl rfl) ?_
                refine g_v (.free rfl) rfl rfl (qt_len rfl rfl ulE1 (fun w M => lenV_rd hu)) ?_
                refine g_v (.free rfl) rfl rfl (qt_lss rfl rfl rfl) ?_
                refine g_nil ?_
                refine gk_then (hK318 _ _ ?_)
                refine gc_cond rfl (fun hc11 => ?_) (fun hc11 => ?_)
                · try simp only [decide_eq_true_eq, decide_eq_false_iff_not, Bool.not_eq_true', Bool.not_eq_false', Bool.not_eq_eq_eq_not, Bool.not_true, Bool.not_false, ne_eq, Decidable.not_not, Classical.not_not] at hc11
                  refine gc_skip ?_
                  refine gk_then (hK317 _ _ ?_)
                  refine gc_seq fun K319 hK319 => ?_
                  refine gc_block ?_
                  have hk1 := allP_k hx (k := k) (by omega)
                  have hA := arrP hS hk1.1 hk1.2
                  have a0 := hk1.1; have a1 := hk1.2; have a2 := hA.fs; have a3 := hA.fm; have a4 := hA.row; have a5 := hA.ft
                  have hl1 := allP_k hx (k := l) (by omega)
                  have b0 := hl1.1; have b1 := hl1.2
                  try simp only [List.nil_append, List.cons_append, List.append_assoc, List.set_cons_succ, List.set_cons_zero]
                  refine ga_start _ (fun w M => mem_erase 10 (M)) ?_
                  refine ga_v 0 rfl (by kernel_rfl) (by kernel_rfl) (by kernel_rfl) (.free rfl) rfl rfl (qt_move rfl rfl) (fun _ _ _ h => h) ?_
                  refine ga_v 1 rfl (by kernel_rfl) (by kernel_rfl) (by kernel_rfl) (.free rfl) rfl rfl (qt_move rfl rfl) (fun _ _ _ h => h) ?_
                  refine ga_v 2 rfl (by kernel_rfl) (by kernel_rfl) (by kernel_rfl) (.free rfl) rfl rfl (qt_field (z := 0) (off := 4) rfl rfl Try.underlying28 rfl (by kernel_rfl) rfl) (fun _ _ _ h => h) ?_
                  refine ga_v 3 rfl (by kernel_rfl) (by kernel_rfl) (by kernel_rfl) (.free rfl) rfl rfl (qt_loadB (n := 0) rfl rfl Try.underlying23 rfl rfl rfl) (fun _ _ _ h => h) ?_
                  refine ga_v 4 rfl (by kernel_rfl) (by kernel_rfl) (by kernel_rfl) (.free rfl) rfl rfl (qt_move rfl rfl) (fun _ _ _ h => h) ?_
                  refine ga_v 5 rfl (by kernel_rfl) (by kernel_rfl) (by kernel_rfl) (.free rfl) rfl rfl (qt_move rfl rfl) (fun _ _ _ h => h) ?_
                  refine ga_v 6 rfl (by kernel_rfl) (by kernel_rfl) (by kernel_rfl) (.free rfl) rfl rfl (qt_index rfl rfl rfl ulE1 szE1 (fun w M => lenA_rd hu) (by omega) (by omega)) (fun _ _ _ h => h) ?_
                  refine ga_v 7 rfl (by kernel_rfl) (by kernel_rfl) (by kernel_rfl) (.free rfl) rfl rfl (qt_load1 rfl rfl Try.underlying2 rfl (fun w M => mem_rd M hu) (by omega) (by omega)) (fun _ _ _ h => h) ?_
                  refine ga_v 8 rfl (by kernel_rfl) (by kernel_rfl) (by kernel_rfl) (.free rfl) rfl rfl (qt_index rfl rfl rfl ulE2 szE2 (fun w M => lenA_rd2 h4) (by omega) (by omega)) (fun _ _ _ h => h) ?_
                  refine ga_load2 9 rfl (by kernel_rfl) (by kernel_rfl) (by kernel_rfl) (.free rfl) rfl rfl rfl rfl Try.underlying22 rfl h4 (by omega) (by omega) (fun _ _ _ _ h => h) ?_
                  intro ra320 rc320 hr320
                  refine ga_v 10 rfl (by kernel_rfl) (by kernel_rfl) (by kernel_rfl) (.free rfl) rfl rfl (qt_move rfl rfl) (fun _ _ _ h => h) ?_
                  refine ga_v 11 rfl (by kernel_rfl) (by kernel_rfl) (by kernel_rfl) (.free rfl) rfl rfl (qt_move rfl rfl) (fun _ _ _ h => h) ?_
                  refine ga_v 12 rfl (by kernel_rfl) (by kernel_rfl) (by kernel_rfl) (.free rfl) rfl rfl (qt_index rfl rfl rfl ulE1 szE1 (fun w M => lenA_rd hu) (by omega) (by omega)) (fun _ _ _ h => h) ?_
                  refine ga_v 13 rfl (by kernel_rfl) (by kernel_rfl) (by kernel_rfl) (.free rfl) rfl rfl (qt_load1 rfl rfl Try.underlying2 rfl (fun w M => mem_rd M hu) (by omega) (by omega)) (fun _ _ _ h => h) ?_
                  refine ga_v 14 rfl (by kernel_rfl) (by kernel_rfl) (by kernel_rfl) (.free rfl) rfl rfl (qt_index rfl rfl rfl ulE1 szE1 (fun w M => lenA_rd hr320) (by omega) (by omega)) (fun _ _ _ h => h) ?_
                  refine ga_v 15 rfl (by kernel_rfl) (by kernel_rfl) (by kernel_rfl) (.free rfl) rfl rfl (qt_load1 rfl rfl Try.underlying2 rfl (fun w M => mem_rd M hr320) (by omega) (by omega)) (fun _ _ _ h => h) ?_
                  refine ga_op 16 (by kernel_rfl) rfl (.free rfl) fun K321 hK321 => ?_
                  refine go_q rfl rfl (qt_call rfl Try.func93 rfl (by decide) rfl (fun w M => specIndex_any w _ _ _ (mem_rd M hu))) ?_
                  refine hK321 _ _ (fun w M => (mem_erase 10 (mem_take 11 M) :)) ?_
                  refine ga_op 17 (by kernel_rfl) rfl (.free rfl) fun K323 hK323 => ?_
                  refine go_slice1 rfl rfl rfl rfl Try.underlying22 ?_
                  intro B322
                  refine hK323 _ _ (fun w M => (mem_erase 10 (mem_take 11 M) :)) ?_
                  refine ga_op 18 (by kernel_rfl) rfl (.free rfl) fun K325 hK325 => ?_
                  refine go_append (n := 10) (m := 11) rfl rfl rfl Try.underlying22 rfl rfl rfl rfl (by omega) ?_
                  intro va324 vc324
                  refine hK325 _ _ (fun w M => (mem_erase 10 (mem_take 11 M) :)) ?_
                  refine ga_v 19 rfl (by kernel_rfl) (by kernel_rfl) (by kernel_rfl) (.free rfl) rfl rfl (qt_assign rfl rfl) (fun _ _ _ h => h) ?_
                  refine ga_done (by kernel_rfl) ?_
                  refine gk_block ?_
                  refine gk_then (hK319 _ _ ?_)
                  refine gc_region ?_
                  refine g_v (.free rfl) rfl rfl (qt_move rfl rfl) ?_
                  refine g_v (.free rfl) rfl rfl (qt_add rfl rfl rfl (by omega)) ?_
                  refine g_v (.free rfl) rfl rfl (qt_assign rfl rfl) ?_
                  refine g_nil ?_
                  simp only [show ∀ f g, at0 (row2 c.m f) g = c.th f g from fun _ _ => rfl, tabTo_succ]
                  refine gk_then (gk_take 11 ?_)
                  refine gk_sub ?hs_326 (hKL316 (l + 1, _, _) ?hi_326 ?hm_326)
                  case hs_326 => exact (sub_cons rfl (sub_cons rfl (sub_cons rfl (sub_cons rfl (sub_cons rfl (sub_cons rfl (sub_cons rfl (sub_cons rfl (sub_cons rfl (sub_cons rfl (sub_cons rfl (sub_cons rfl (sub_cons rfl (sub_cons rfl sub_nil))))))))))))))
                  case hi_326 => omega
                  case hm_326 => omega
                · try simp only [decide_eq_true_eq, decide_eq_false_iff_not, Bool.not_eq_true', Bool.not_eq_false', Bool.not_eq_eq_eq_not, Bool.not_true, Bool.not_false, ne_eq, Decidable.not_not, Classical.not_not] at hc11
                  refine gc_exit ?_
                  refine gk_then_exit ?_
                  refine gk_then_exit ?_
                  refine gk_block_hit ?_
                  refine gk_then (hK314 _ _ ?_)
                  refine gc_region ?_
                  refine g_v (.free rfl) rfl rfl (qt_field (z := 0) (off := 4) rfl rfl Try.underlying28 rfl (by kernel_rfl) rfl) ?_
                  refine g_v (.free rfl) rfl rfl (qt_loadB (n := 7) rfl rfl Try.underlying23 rfl rfl rfl) ?_
                  refine g_v (.free rfl) rfl rfl (qt_move rfl rfl) ?_
                  refine g_op (.free rfl) fun K328 hK328 => ?_
                  refine go_sliceR1 (m := 10) rfl rfl rfl rfl Try.underlying23 rfl ?_
                  intro B327
                  refine hK328 _ _ ?_
                  refine g_op (.free rfl) fun K330 hK330 => ?_
                  refine go_appendRow (n := 6) (m := 10) (m' := 9) rfl rfl rfl Try.underlying23 rfl rfl rfl rfl rfl (by omega) ?_
                  intro va329 vc329
                  refine hK330 _ _ ?_
                  refine g_v (.free rfl) rfl rfl (qt_field (z := 0) (off := 4) rfl rfl Try.underlying28 rfl (by kernel_rfl) rfl) ?_
                  refine g_op (.free rfl) fun K331 hK331 => ?_
                  refine go_storeB (n := 7) rfl rfl rfl rfl (by kernel_rfl) rfl rfl rfl (by first | decide | simp) ?_
                  refine hK331 _ _ ?_
                  refine g_nil ?_
                  refine gk_block ?_
                  refine gk_then (hK70 _ _ ?_)
                  refine gc_region ?_
                  refine g_v (.free rfl) rfl rfl (qt_move rfl rfl) ?_
                  refine g_v (.free rfl) rfl rfl (qt_add rfl rfl rfl (by omega)) ?_
                  refine g_v (.free rfl) rfl rfl (qt_assign rfl rfl) ?_
                  refine g_nil ?_
                  obtain rfl : l = xs.length := by omega
                  simp only [rowsTo_succ]
                  refine gk_then (gk_take 8 ?_)
                  refine gk_sub ?hs_332 (hKL67 (k + 1, _, _, _, _, _, _, _) ?hi_332 ?hm_332)
                  case hs_332 => exact (sub_cons rfl (sub_cons rfl (sub_cons rfl (sub_cons rfl (sub_cons rfl (sub_cons rfl (sub_cons rfl (sub_cons rfl (sub_cons rfl (sub_cons rfl (sub_cons rfl sub_nil)))))))))))
                  case hi_332 => omega
                  case hm_332 => omega
              · refine go_slice1 rfl rfl rfl rfl Try.underlying22 ?_
                intro B333
                refine hK304 _ _ (fun w M => (mem_erase 4 (mem_erase 7 (mem_take 9 M)) :)) ?_
                refine ga_op 1 (by kernel_rfl) rfl (.free rfl) fun K335 hK335 => ?_
                refine go_v rfl rfl (qt_loadB (n := 7) rfl rfl Try.underlying22 rfl rfl rfl) ?_
                refine hK335 _ _ (fun w M => (mem_erase 4 (mem_erase 7 (mem_take 9 M)) :)) ?_
                refine ga_op 13 (by kernel_rfl) rfl (.free rfl) fun K337 hK337 => ?_
                refine go_append (n := 4) (m := 9) rfl rfl rfl Try.underlying22 rfl rfl rfl rfl (by omega) ?_
                intro va336 vc336
                refine hK337 _ _ (fun w M => (mem_erase 4 (mem_erase 7 (mem_take 9 M)) :)) ?_
                refine ga_v 14 rfl (by kernel_rfl) (by kernel_rfl) (by kernel_rfl) (.free rfl) rfl rfl (qt_field (z := 0) (off := 2) rfl rfl Try.underlying28 rfl (by kernel_rfl) rfl) (fun _ _ _ h => h) ?_
                refine ga_op 15 (by kernel_rfl) rfl (.free rfl) fun K338 hK338 => ?_
                refine go_storeB (n := 7) rfl rfl rfl rfl (by kernel_rfl) rfl rfl rfl (by first | decide | simp) ?_
                refine hK338 _ _ (fun w M => (mem_erase 4 (mem_erase 7 (mem_take 9 M)) :)) ?_
                refine ga_done (by kernel_rfl) ?_
                refine gk_then (hK272 _ _ ?_)
                refine gc_seq fun K339 hK339 => ?_
                refine gc_region ?_
                refine g_op (.free rfl) fun K341 hK341 => ?_
                refine go_slice0 rfl rfl rfl Try.underlying22 ?_
                intro B340
                refine hK341 _ _ ?_
                refine g_v (.free rfl) rfl rfl (qt_assign rfl rfl) ?_
                refine g_nil ?_
                refine gk_then (hK339 _ _ ?_)
                refine gc_seq fun K342 hK342 => ?_
                refine gc_seq fun K343 hK343 => ?_
                refine gc_region ?_
                refine g_v (.free rfl) rfl rfl (qt_assign rfl rfl) ?_
                refine g_nil ?_
                refine gk_then (hK343 _ _ ?_)
                refine gc_block ?_
                simp only [tabTo_succ]
                try simp only [List.nil_append, List.cons_append, List.append_assoc, List.set_cons_succ, List.set_cons_zero]
                refine gc_loop ([(0, _), (1, _), (2, _), (4, _), (5, _), (6, _), (7, _), (8, _), (9, _), (16, _), (40, _), (61, _)] : Env) (fun s : Nat × (Option Addr) × Nat => (fun (l : Nat) (e : Option Addr) (z : Nat) => ([(10, .slice e (tabTo (fun j => idxI xs (c.th (at0 xs (k : Int)) (at0 xs (j : Int)))) l).length z), (11, .int .i64 (l : Int))] : Env)) s.1 s.2.1 s.2.2) (fun s : Nat × (Option Addr) × Nat => (fun (l : Nat) (e : Option Addr) (z : Nat) => ([(10, own1I (.slice e (tabTo (fun j => idxI xs (c.th (at0 xs (k : Int)) (at0 xs (j : Int)))) l).length z) (tabTo (fun j => idxI xs (c.th (at0 xs (k : Int)) (at0 xs (j : Int)))) l))] : List (Nat × Itm))) s.1 s.2.1 s.2.2) (fun s : Nat × (Option Addr) × Nat => (fun (l : Nat) (e : Option Addr) (z : Nat) => l ≤ xs.length) s.1 s.2.1 s.2.2) (fun s : Nat × (Option Addr) × Nat => (fun (l : Nat) (e : Option Addr) (z : Nat) => xs.length - l) s.1 s.2.1 s.2.2) (0, _, _) (sub_cons rfl (sub_cons rfl (sub_cons rfl (sub_cons rfl (sub_cons rfl (sub_cons rfl (sub_cons rfl (sub_cons rfl (sub_cons rfl (sub_cons rfl (sub_cons rfl (sub_cons rfl (sub_cons rfl (sub_cons rfl sub_nil)))))))))))))) rfl (Nat.zero_le _) ?_
                rintro ⟨l, e, z⟩ hinv KL344 hKL344
                simp only [updL, List.foldl_cons, List.foldl_nil, List.set_cons_succ, List.set_cons_zero, List.cons_append, List.nil_append] at hinv hKL344 ⊢
                have hl3 := hinv
                have hl4 := tabTo_len (fun j => idxI xs (c.th (at0 xs (k : Int)) (at0 xs (j : Int)))) l
                refine gc_seq fun K345 hK345 => ?_
                refine gc_seq fun K346 hK346 => ?_
                refine gc_region ?_
                refine g_v (.free rfl) rfl rfl (qt_move rfl rfl) ?_
                refine g_v (.free rfl) rfl rfl (qt_move rfl rfl) ?_
                refine g_v (.free rfl) rfl rfl (qt_len rfl rfl ulE1 (fun w M => lenV_rd hu)) ?_
                refine g_v (.free rfl) rfl rfl (qt_lss rfl rfl rfl) ?_
                refine g_nil ?_
                refine gk_then (hK346 _ _ ?_)
                refine gc_cond rfl (fun hc12 => ?_) (fun hc12 => ?_)
                · try simp only [decide_eq_true_eq, decide_eq_false_iff_not, Bool.not_eq_true', Bool.not_eq_false', Bool.not_eq_eq_eq_not, Bool.not_true, Bool.not_false, ne_eq, Decidable.not_not, Classical.not_not] at hc12
                  refine gc_skip ?_
                  refine gk_then (hK345 _ _ ?_)
                  refine gc_seq fun K347 hK347 => ?_
                  refine gc_block ?_
                  have hk1 := allP_k hx (k := k) (by omega)
                  have hA := arrP hS hk1.1 hk1.2
                  have a0 := hk1.1; have a1 := hk1.2; have a2 := hA.fs; have a3 := hA.fm; have a4 := hA.row; have a5 := hA.ft
                  have hl1 := allP_k hx (k := l) (by omega)
                  have b0 := hl1.1; have b1 := hl1.2
                  try simp only [List.nil_append, List.cons_append, List.append_assoc, List.set_cons_succ, List.set_cons_zero]
                  refine ga_start _ (fun w M => mem_erase 10 (M)) ?_
                  refine ga_v 0 rfl (by kernel_rfl) (by kernel_rfl) (by kernel_rfl) (.free rfl) rfl rfl (qt_move rfl rfl) (fun _ _ _ h => h) ?_
                  refine ga_v 1 rfl (by kernel_rfl) (by kernel_rfl) (by kernel_rfl) (.free rfl) rfl rfl (qt_move rfl rfl) (fun _ _ _ h => h) ?_
                  refine ga_v 2 rfl (by kernel_rfl) (by kernel_rfl) (by kernel_rfl) (.free rfl) rfl rfl (qt_field (z := 0) (off := 4) rfl rfl Try.underlying28 rfl (by kernel_rfl) rfl) (fun _ _ _ h => h) ?_
                  refine ga_v 3 rfl (by kernel_rfl) (by kernel_rfl) (by kernel_rfl) (.free rfl) rfl rfl (qt_loadB (n := 0) rfl rfl Try.underlying23 rfl rfl rfl) (fun _ _ _ h => h) ?_
                  refine ga_v 4 rfl (by kernel_rfl) (by kernel_rfl) (by kernel_rfl) (.free rfl) rfl rfl (qt_move rfl rfl) (fun _ _ _ h => h) ?_
                  refine ga_v 5 rfl (by kernel_rfl) (by kernel_rfl) (by kernel_rfl) (.free rfl) rfl rfl (qt_move rfl rfl) (fun _ _ _ h => h) ?_
                  refine ga_v 6 rfl (by kernel_rfl) (by kernel_rfl) (by kernel_rfl) (.free rfl) rfl rfl (qt_index rfl rfl rfl ulE1 szE1 (fun w M => lenA_rd hu) (by omega) (by omega)) (fun _ _ _ h => h) ?_
                  refine ga_v 7 rfl (by kernel_rfl) (by kernel_rfl) (by kernel_rfl) (.free rfl) rfl rfl (qt_load1 rfl rfl Try.underlying2 rfl (fun w M => mem_rd M hu) (by omega) (by omega)) (fun _ _ _ h => h) ?_
                  refine ga_v 8 rfl (by kernel_rfl) (by kernel_rfl) (by kernel_rfl) (.free rfl) rfl rfl (qt_index rfl rfl rfl ulE2 szE2 (fun w M => lenA_rd2 h4) (by omega) (by omega)) (fun _ _ _ h => h) ?_
                  refine ga_load2 9 rfl (by kernel_rfl) (by kernel_rfl) (by kernel_rfl) (.free rfl) rfl rfl rfl rfl Try.underlying22 rfl h4 (by omega) (by omega) (fun _ _ _ _ h => h) ?_
                  intro ra348 rc348 hr348
                  refine ga_v 10 rfl (by kernel_rfl) (by kernel_rfl) (by kernel_rfl) (.free rfl) rfl rfl (qt_move rfl rfl) (fun _ _ _ h => h) ?_
                  refine ga_v 11 rfl (by kernel_rfl) (by kernel_rfl) (by kernel_rfl) (.free rfl) rfl rfl (qt_move rfl rfl) (fun _ _ _ h => h) ?_
                  refine ga_v 12 rfl (by kernel_rfl) (by kernel_rfl) (by kernel_rfl) (.free rfl) rfl rfl (qt_index rfl rfl rfl ulE1 szE1 (fun w M => lenA_rd hu) (by omega) (by omega)) (fun _ _ _ h => h) ?_
                  refine ga_v 13 rfl (by kernel_rfl) (by kernel_rfl) (by kernel_rfl) (.free rfl) rfl rfl (qt_load1 rfl rfl Try.underlying2 rfl (fun w M => mem_rd M hu) (by omega) (by omega)) (fun _ _ _ h => h) ?_
                  refine ga_v 14 rfl (by kernel_rfl) (by kernel_rfl) (by kernel_rfl) (.free rfl) rfl rfl (qt_index rfl rfl rfl ulE1 szE1 (fun w M => lenA_rd hr348) (by omega) (by omega)) (fun _ _ _ h => h) ?_
                  refine ga_v 15 rfl (by kernel_rfl) (by kernel_rfl) (by kernel_rfl) (.free rfl) rfl rfl (qt_load1 rfl rfl Try.underlying2 rfl (fun w M => mem_rd M hr348) (by omega) (by omega)) (fun _ _ _ h => h) ?_
                  refine ga_op 16 (by kernel_rfl) rfl (.free rfl) fun K349 hK349 => ?_
                  refine go_q rfl rfl (qt_call rfl Try.func93 rfl (by decide) rfl (fun w M => specIndex_any w _ _ _ (mem_rd M hu))) ?_
                  refine hK349 _ _ (fun w M => (mem_erase 10 (mem_take 11 M) :)) ?_
                  refine ga_op 17 (by kernel_rfl) rfl (.free rfl) fun K351 hK351 => ?_
                  refine go_slice1 rfl rfl rfl rfl Try.underlying22 ?_
                  intro B350
                  refine hK351 _ _ (fun w M => (mem_erase 10 (mem_take 11 M) :)) ?_
                  refine ga_op 18 (by kernel_rfl) rfl (.free rfl) fun K353 hK353 => ?_
                  refine go_append (n := 10) (m := 11) rfl rfl rfl Try.underlying22 rfl rfl rfl rfl (by omega) ?_
                  intro va352 vc352
                  refine hK353 _ _ (fun w M => (mem_erase 10 (mem_take 11 M) :)) ?_
                  refine ga_v 19 rfl (by kernel_rfl) (by kernel_rfl) (by kernel_rfl) (.free rfl) rfl rfl (qt_assign rfl rfl) (fun _ _ _ h => h) ?_
                  refine ga_done (by kernel_rfl) ?_
                  refine gk_block ?_
                  refine gk_then (hK347 _ _ ?_)
                  refine gc_region ?_
                  refine g_v (.free rfl) rfl rfl (qt_move rfl rfl) ?_
                  refine g_v (.free rfl) rfl rfl (qt_add rfl rfl rfl (by omega)) ?_
                  refine g_v (.free rfl) rfl rfl (qt_assign rfl rfl) ?_
                  refine g_nil ?_
                  simp only [show ∀ f g, at0 (row2 c.m f) g = c.th f g from fun _ _ => rfl, tabTo_succ]
                  refine gk_then (gk_take 11 ?_)
                  refine gk_sub ?hs_354 (hKL344 (l + 1, _, _) ?hi_354 ?hm_354)
                  case hs_354 => exact (sub_cons rfl (sub_cons rfl (sub_cons rfl (sub_cons rfl (sub_cons rfl (sub_cons rfl (sub_cons rfl (sub_cons rfl (sub_cons rfl (sub_cons rfl (sub_cons rfl (sub_cons rfl (sub_cons rfl (sub_cons rfl sub_nil))))))))))))))
                  case hi_354 => omega
                  case hm_354 => omega
                · try simp only [decide_eq_true_eq, decide_eq_false_iff_not, Bool.not_eq_true', Bool.not_eq_false', Bool.not_eq_eq_eq_not, Bool.not_true, Bool.not_false, ne_eq, Decidable.not_not, Classical.not_not] at hc12
                  refine gc_exit ?_
                  refine gk_then_exit ?_
                  refine gk_then_exit ?_
                  refine gk_block_hit ?_
                  refine gk_then (hK342 _ _ ?_)
                  refine gc_region ?_
                  refine g_v (.free rfl) rfl rfl (qt_field (z := 0) (off := 4) rfl rfl Try.underlying28 rfl (by kernel_rfl) rfl) ?_
                  refine g_v (.free rfl) rfl rfl (qt_loadB (n := 7) rfl rfl Try.underlying23 rfl rfl rfl) ?_
                  refine g_v (.free rfl) rfl rfl (qt_move rfl rfl) ?_
                  refine g_op (.free rfl) fun K356 hK356 => ?_
                  refine go_sliceR1 (m := 10) rfl rfl rfl rfl Try.underlying23 rfl ?_
                  intro B355
                  refine hK356 _ _ ?_
                  refine g_op (.free rfl) fun K358 hK358 => ?_
                  refine go_appendRow (n := 6) (m := 10) (m' := 9) rfl rfl rfl Try.underlying23 rfl rfl rfl rfl rfl (by omega) ?_
                  intro va357 vc357
                  refine hK358 _ _ ?_
                  refine g_v (.free rfl) rfl rfl (qt_field (z := 0) (off := 4) rfl rfl Try.underlying28 rfl (by kernel_rfl) rfl) ?_
                  refine g_op (.free rfl) fun K359 hK359 => ?_
                  refine go_storeB (n := 7) rfl rfl rfl rfl (by kernel_rfl) rfl rfl rfl (by first | decide | simp) ?_
                  refine hK359 _ _ ?_
                  refine g_nil ?_
                  refine gk_block ?_
                  refine gk_then (hK70 _ _ ?_)
                  refine gc_region ?_
                  refine g_v (.free rfl) rfl rfl (qt_move rfl rfl) ?_
                  refine g_v (.free rfl) rfl rfl (qt_add rfl rfl rfl (by omega)) ?_
                  refine g_v (.free rfl) rfl rfl (qt_assign rfl rfl) ?_
                  refine g_nil ?_
                  obtain rfl : l = xs.length := by omega
                  simp only [rowsTo_succ]
                  refine gk_then (gk_take 8 ?_)
                  refine gk_sub ?hs_360 (hKL67 (k + 1, _, _, _, _, _, _, _) ?hi_360 ?hm_360)
                  case hs_360 => exact (sub_cons rfl (sub_cons rfl (sub_cons rfl (sub_cons rfl (sub_cons rfl (sub_cons rfl (sub_cons rfl (sub_cons rfl (sub_cons rfl (sub_cons rfl (sub_cons rfl sub_nil)))))))))))
                  case hi_360 => omega
                  case hm_360 => omega
      · try simp only [decide_eq_true_eq, decide_eq_false_iff_not, Bool.not_eq_true', Bool.not_eq_false', Bool.not_eq_eq_eq_not, Bool.not_true, Bool.not_false, ne_eq, Decidable.not_not, Classical.not_not] at hc3
        refine gc_exit ?_
        refine gk_then_exit ?_
        refine gk_then_exit ?_
        refine gk_block_hit ?_
        refine gk_then (hK65 _ _ ?_)
        refine gc_seq fun K361 hK361 => ?_
        refine gc_region ?_
        refine g_v (.free rfl) rfl rfl (qt_loadS (n := 7) rfl rfl Try.underlying28 rfl (by kernel_rfl) rfl) ?_
        refine g_op (.free rfl) fun K362 hK362 => ?_
        refine go_storeS (n := 1) rfl rfl rfl rfl (by kernel_rfl) rfl rfl rfl ?_
        refine hK362 _ _ ?_
        refine g_nil ?_
        refine gk_then (hK361 _ _ ?_)
        refine gc_ret ?_
        refine ret_S (n := 1) rfl rfl Try.underlying28 rfl (by kernel_rfl) rfl (fun w M => ?_)
        obtain rfl : k = xs.length := by omega
        simp only [pE_eq] at M ⊢
        exact ⟨_, rfl, ownC_star (c := partC c xs) (mem_pick (n := 6) (mem_pick (n := 6) (mem_pick (n := 6) (mem_pick (n := 6) (M) rfl) rfl) rfl) rfl).2, M.1⟩

set_option maxHeartbeats 1000000 in
set_option maxRecDepth 100000 in
theorem restricted_any (w : World) (v u : Value) (c : Cat) (xs : List Int) (h : RdC w v c) (hS : ShapeP c) (hu : Rd w u xs) (hx : AllP c.s.length xs) (hl : xs.length ≤ 40) :
    Calls Try.prog 73 #[v, u] w (RetC w (partC c xs)) := by
  have h0 := h
  obtain ⟨va, vb, vc, vd, ve, vf, vg, vh, rfl, h1, h2, h3, h4, _⟩ := h.lists
  obtain ⟨ua, uc, rfl⟩ := rd_form hu
  have hn40 := hS.n40; have htl := hS.tl; have hel := hS.el; have hob0 := hS.ob0; have hob8 := hS.ob8; have hml := hS.ml
  have hoL := pO_len c xs c.e.length
  have hoB : (pOb c xs).length ≤ c.e.length := hoL
  go_enter Try.func73, Try.ntmps73
  refine gc_enter (N := 100) rfl (look_cons (k := 0) rfl (look_cons (k := 1) rfl (look_nil _))) ?_
  refine gc_seq fun K1 hK1 => ?_
  refine gc_region ?_
  refine g_op (.free rfl) fun K3 hK3 => ?_
  refine go_box rfl rfl rfl rfl rfl ?_
  intro B2
  refine hK3 _ _ ?_
  refine g_op (.free rfl) fun K5 hK5 => ?_
  refine go_alloc (z := (.agg #[.int .i64 0, .slice none 0 0, .slice none 0 0, .slice none 0 0, .slice none 0 0])) (cs := [.int .i64 0, .slice none 0 0, .slice none 0 0, .slice none 0 0, .slice none 0 0]) rfl rfl rfl (fun w => by kernel_rfl) rfl ?_
  intro B4
  refine hK5 _ _ ?_
  refine g_nil ?_
  refine gk_then (hK1 _ _ ?_)
  refine gc_seq fun K6 hK6 => ?_
  refine gc_region ?_
  refine g_v (.free rfl) rfl rfl (qt_assign rfl rfl) ?_
  refine g_nil ?_
  refine gk_then (hK6 _ _ ?_)
  refine gc_seq fun K7 hK7 => ?_
  refine gc_region ?_
  refine g_op (.free rfl) fun K9 hK9 => ?_
  refine go_alloc (z := (.agg #[.int .i64 0, .slice none 0 0, .slice none 0 0, .slice none 0 0, .slice none 0 0])) (cs := [.int .i64 0, .slice none 0 0, .slice none 0 0, .slice none 0 0, .slice none 0 0]) rfl rfl rfl (fun w => by kernel_rfl) rfl ?_
  intro B8
  refine hK9 _ _ ?_
  refine g_nil ?_
  refine gk_then (hK7 _ _ ?_)
  refine gc_seq fun K10 hK10 => ?_
  refine gc_seq fun K11 hK11 => ?_
  refine gc_region ?_
  refine g_v (.free rfl) rfl rfl (qt_field (z := 0) (off := 3) rfl rfl Try.underlying28 rfl (by kernel_rfl) rfl) ?_
  refine g_v (.free rfl) rfl rfl (qt_loadB (n := 0) rfl rfl Try.underlying22 rfl rfl rfl) ?_
  refine g_v (.free rfl) rfl rfl (qt_len rfl rfl ulE1 (fun w M => lenV_rd h3)) ?_
  refine g_v (.free rfl) rfl rfl (qt_move rfl rfl) ?_
  refine g_nil ?_
  refine gk_then (hK11 _ _ ?_)
  refine gc_block ?_
  refine gc_nilS ?_
  refine gc_nilS ?_
  try simp only [List.nil_append, List.cons_append, List.append_assoc, List.set_cons_succ, List.set_cons_zero]
  refine gc_loop ([(0, _), (1, _), (2, _), (4, _), (6, _), (16, _), (17, _)] : Env) (fun s : Nat × (Option Addr) × Nat × (Option Addr) × Nat => (fun (k : Nat) (a : Option Addr) (q : Nat) (b : Option Addr) (r : Nat) => ([(5, .slice a (pO c xs k).length q), (18, .int .i64 (k : Int))] : Env)) s.1 s.2.1 s.2.2.1 s.2.2.2.1 s.2.2.2.2) (fun s : Nat × (Option Addr) × Nat × (Option Addr) × Nat => (fun (k : Nat) (a : Option Addr) (q : Nat) (b : Option Addr) (r : Nat) => ([(2, bxI B8 28 [.int .i64 0, .slice none 0 0, .slice none 0 0, .slice b (pE c xs k).length r, .slice none 0 0]), (3, own1I (.slice a (pO c xs k).length q) (pO c xs k)), (4, own1I (.slice b (pE c xs k).length r) (pE c xs k))] : List (Nat × Itm))) s.1 s.2.1 s.2.2.1 s.2.2.2.1 s.2.2.2.2) (fun s : Nat × (Option Addr) × Nat × (Option Addr) × Nat => (fun (k : Nat) (a : Option Addr) (q : Nat) (b : Option Addr) (r : Nat) => k ≤ c.e.length) s.1 s.2.1 s.2.2.1 s.2.2.2.1 s.2.2.2.2) (fun s : Nat × (Option Addr) × Nat × (Option Addr) × Nat => (fun (k : Nat) (a : Option Addr) (q : Nat) (b : Option Addr) (r : Nat) => c.e.length - k) s.1 s.2.1 s.2.2.1 s.2.2.2.1 s.2.2.2.2) (0, _, _, _, _) (sub_cons rfl (sub_cons rfl (sub_cons rfl (sub_cons rfl (sub_cons rfl (sub_cons rfl (sub_cons rfl (sub_cons rfl (sub_cons rfl sub_nil))))))))) rfl (Nat.zero_le _) ?_
  rintro ⟨k, a, q, b, r⟩ hinv KL12 hKL12
  simp only [updL, List.foldl_cons, List.foldl_nil, List.set_cons_succ, List.set_cons_zero, List.cons_append, List.nil_append] at hinv hKL12 ⊢
  have hk := hinv
  have hl1 := pO_len c xs k
  have hl2 := pE_len c xs k
  refine gc_seq fun K13 hK13 => ?_
  refine gc_region ?_
  refine g_v (.free rfl) rfl rfl (qt_lss rfl rfl rfl) ?_
  refine g_nil ?_
  refine gk_then (hK13 _ _ ?_)
  refine gc_seq fun K14 hK14 => ?_
  refine gc_cond rfl (fun hc0 => ?_) (fun hc0 => ?_)
  · try simp only [decide_eq_true_eq, decide_eq_false_iff_not, Bool.not_eq_true', Bool.not_eq_false', Bool.not_eq_eq_eq_not, Bool.not_true, Bool.not_false, ne_eq, Decidable.not_not, Classical.not_not] at hc0
    refine gc_skip ?_
    refine gk_then (hK14 _ _ ?_)
    refine gc_seq fun K15 hK15 => ?_
    refine gc_block ?_
    refine gc_seq fun K16 hK16 => ?_
    refine gc_region ?_
    refine g_v (.free rfl) rfl rfl (qt_move rfl rfl) ?_
    refine g_v (.free rfl) rfl rfl (qt_index rfl rfl rfl ulE1 szE1 (fun w M => lenA_rd h3) (by omega) (by omega)) ?_
    refine g_v (.free rfl) rfl rfl (qt_load1 rfl rfl Try.underlying2 rfl (fun w M => mem_rd M h3) (by omega) (by omega)) ?_
    refine g_v (.free rfl) rfl rfl (qt_assign rfl rfl) ?_
    refine g_v (.free rfl) rfl rfl (qt_assign rfl rfl) ?_
    refine g_nil ?_
    refine gk_then (hK16 _ _ ?_)
    refine gc_seq fun K17 hK17 => ?_
    refine gc_region ?_
    refine g_v (.free rfl) rfl rfl (qt_move rfl rfl) ?_
    refine g_v (.free rfl) rfl rfl (qt_move rfl rfl) ?_
    refine g_q (.free rfl) rfl rfl (qt_call rfl Try.func95 rfl (by decide) rfl (fun w M => placeIn_any w _ _ _ (mem_rd M hu))) ?_
    refine g_v (.free rfl) rfl rfl (qt_assign rfl rfl) ?_
    refine g_nil ?_
    refine gk_then (hK17 _ _ ?_)
    refine gc_seq fun K18 hK18 => ?_
    refine gc_region ?_
    refine g_v (.free rfl) rfl rfl (qt_move rfl rfl) ?_
    refine g_v (.free rfl) rfl rfl (qt_geq rfl rfl rfl) ?_
    refine g_nil ?_
    refine gk_then (hK18 _ _ ?_)
    refine gc_cond rfl (fun hc1 => ?_) (fun hc1 => ?_)
    · try simp only [decide_eq_true_eq, decide_eq_false_iff_not, Bool.not_eq_true', Bool.not_eq_false', Bool.not_eq_eq_eq_not, Bool.not_true, Bool.not_false, ne_eq, Decidable.not_not, Classical.not_not] at hc1
      refine gc_seq fun K19 hK19 => ?_
      refine gc_region ?_
      refine g_v (.free rfl) rfl rfl (qt_move rfl rfl) ?_
      refine g_v (.free rfl) rfl rfl (qt_move rfl rfl) ?_
      refine g_op (.free rfl) fun K21 hK21 => ?_
      refine go_slice1 rfl rfl rfl rfl Try.underlying22 ?_
      intro B20
      refine hK21 _ _ ?_
      refine g_op (.free rfl) fun K23 hK23 => ?_
      refine go_append (n := 3) (m := 5) rfl rfl rfl Try.underlying22 rfl rfl rfl rfl (by omega) ?_
      intro va22 vc22
      refine hK23 _ _ ?_
      refine g_v (.free rfl) rfl rfl (qt_assign rfl rfl) ?_
      refine g_nil ?_
      refine gk_then (hK19 _ _ ?_)
      refine gc_region ?_
      refine g_v (.free rfl) rfl rfl (qt_field (z := 0) (off := 3) rfl rfl Try.underlying28 rfl (by kernel_rfl) rfl) ?_
      refine g_v (.free rfl) rfl rfl (qt_loadB (n := 2) rfl rfl Try.underlying22 rfl rfl rfl) ?_
      refine g_v (.free rfl) rfl rfl (qt_move rfl rfl) ?_
      refine g_op (.free rfl) fun K25 hK25 => ?_
      refine go_slice1 rfl rfl rfl rfl Try.underlying22 ?_
      intro B24
      refine hK25 _ _ ?_
      refine g_op (.free rfl) fun K27 hK27 => ?_
      refine go_append (n := 4) (m := 6) rfl rfl rfl Try.underlying22 rfl rfl rfl rfl (by omega) ?_
      intro va26 vc26
      refine hK27 _ _ ?_
      refine g_v (.free rfl) rfl rfl (qt_field (z := 0) (off := 3) rfl rfl Try.underlying28 rfl (by kernel_rfl) rfl) ?_
      refine g_op (.free rfl) fun K28 hK28 => ?_
      refine go_storeB (n := 2) rfl rfl rfl rfl (by kernel_rfl) rfl rfl rfl (by first | decide | simp) ?_
      refine hK28 _ _ ?_
      refine g_nil ?_
      refine gk_block ?_
      refine gk_then (hK15 _ _ ?_)
      refine gc_region ?_
      refine g_v (.free rfl) rfl rfl (qt_add rfl rfl rfl (by omega)) ?_
      refine g_v (.free rfl) rfl rfl (qt_move rfl rfl) ?_
      refine g_nil ?_
      have hin := idxI_0.1 hc1
      simp only [pO_t hin, pE_t hin]
      refine gk_then (gk_take 5 ?_)
      refine gk_sub ?hs_29 (hKL12 (k + 1, _, _, _, _) ?hi_29 ?hm_29)
      case hs_29 => exact (sub_cons rfl (sub_cons rfl (sub_cons rfl (sub_cons rfl (sub_cons rfl (sub_cons rfl (sub_cons rfl (sub_cons rfl (sub_cons rfl sub_nil)))))))))
      case hi_29 => omega
      case hm_29 => omega
    · try simp only [decide_eq_true_eq, decide_eq_false_iff_not, Bool.not_eq_true', Bool.not_eq_false', Bool.not_eq_eq_eq_not, Bool.not_true, Bool.not_false, ne_eq, Decidable.not_not, Classical.not_not] at hc1
      refine gc_skip ?_
      refine gk_block ?_
      refine gk_then (hK15 _ _ ?_)
      refine gc_region ?_
      refine g_v (.free rfl) rfl rfl (qt_add rfl rfl rfl (by omega)) ?_
      refine g_v (.free rfl) rfl rfl (qt_move rfl rfl) ?_
      refine g_nil ?_
      have hin := fun h => hc1 (idxI_0.2 h)
      rw [pO_f hin, pE_f hin]
      refine gk_then (gk_take 5 ?_)
      refine gk_sub ?hs_30 (hKL12 (k + 1, _, _, _, _) ?hi_30 ?hm_30)
      case hs_30 => exact (sub_cons rfl (sub_cons rfl (sub_cons rfl (sub_cons rfl (sub_cons rfl (sub_cons rfl (sub_cons rfl (sub_cons rfl (sub_cons rfl sub_nil)))))))))
      case hi_30 => omega
      case hm_30 => omega
  · try simp only [decide_eq_true_eq, decide_eq_false_iff_not, Bool.not_eq_true', Bool.not_eq_false', Bool.not_eq_eq_eq_not, Bool.not_true, Bool.not_false, ne_eq, Decidable.not_not, Classical.not_not] at hc0
    refine gc_exit ?_
    refine gk_then_exit ?_
    refine gk_then_exit ?_
    refine gk_block_hit ?_
    refine gk_then (hK10 _ _ ?_)
    refine gc_seq fun K31 hK31 => ?_
    obtain rfl : k = c.e.length := by omega
    refine gc_region ?_
    refine g_v (.free rfl) rfl rfl (qt_move rfl rfl) ?_
    refine g_v (.free rfl) rfl rfl (qt_len rfl rfl ulE1 (fun w M => lenV_own1 (n := 3) rfl M)) ?_
    refine g_v (.free rfl) rfl rfl (qt_field (z := 0) (off := 0) rfl rfl Try.underlying28 rfl (by kernel_rfl) rfl) ?_
    refine g_op (.free rfl) fun K32 hK32 => ?_
    refine go_storeB (n := 2) rfl rfl rfl rfl (by kernel_rfl) rfl rfl rfl (by first | decide | simp) ?_
    refine hK32 _ _ ?_
    refine g_nil ?_
    refine gk_then (hK31 _ _ ?_)
    refine gc_seq fun K33 hK33 => ?_
    refine gc_seq fun K34 hK34 => ?_
    refine gc_region ?_
    refine g_v (.free rfl) rfl rfl (qt_move rfl rfl) ?_
    refine g_v (.free rfl) rfl rfl (qt_len rfl rfl ulE1 (fun w M => lenV_rd hu)) ?_
    refine g_v (.free rfl) rfl rfl (qt_move rfl rfl) ?_
    refine g_nil ?_
    refine gk_then (hK34 _ _ ?_)
    refine gc_block ?_
    refine gc_nilS ?_
    refine gc_nilS ?_
    refine gc_nilU ?_
    simp only [show pO c xs c.e.length = pOb c xs from rfl]
    try simp only [List.nil_append, List.cons_append, List.append_assoc, List.set_cons_succ, List.set_cons_zero]
    refine gc_loop ([(0, _), (1, _), (2, _), (4, _), (5, _), (6, _), (16, _), (17, _), (18, _), (19, _), (42, _), (43, _)] : Env) (fun s : Nat × (Option Addr) × Nat × (Option Addr) × Nat × (Option Addr) × Nat × (List Value) => (fun (k : Nat) (a1 : Option Addr) (q1 : Nat) (a2 : Option Addr) (q2 : Nat) (a4 : Option Addr) (q4 : Nat) (us : List Value) => ([(44, .int .i64 (k : Int))] : Env)) s.1 s.2.1 s.2.2.1 s.2.2.2.1 s.2.2.2.2.1 s.2.2.2.2.2.1 s.2.2.2.2.2.2.1 s.2.2.2.2.2.2.2) (fun s : Nat × (Option Addr) × Nat × (Option Addr) × Nat × (Option Addr) × Nat × (List Value) => (fun (k : Nat) (a1 : Option Addr) (q1 : Nat) (a2 : Option Addr) (q2 : Nat) (a4 : Option Addr) (q4 : Nat) (us : List Value) => ([(2, bxI B8 28 [.int .i64 (pOb c xs).length, .slice a1 (tabTo (fun i => idxI (pOb c xs) (at0 c.s (at0 xs (i : Int)))) k).length q1, .slice a2 (tabTo (fun i => idxI (pOb c xs) (at0 c.t (at0 xs (i : Int)))) k).length q2, .slice b (pE c xs c.e.length).length r, .slice a4 (rowsTo (fun i => tabTo (fun j => idxI xs (c.th (at0 xs (i : Int)) (at0 xs (j : Int)))) xs.length) k).length q4]), (5, own1I (.slice a1 (tabTo (fun i => idxI (pOb c xs) (at0 c.s (at0 xs (i : Int)))) k).length q1) (tabTo (fun i => idxI (pOb c xs) (at0 c.s (at0 xs (i : Int)))) k)), (6, own1I (.slice a2 (tabTo (fun i => idxI (pOb c xs) (at0 c.t (at0 xs (i : Int)))) k).length q2) (tabTo (fun i => idxI (pOb c xs) (at0 c.t (at0 xs (i : Int)))) k)), (7, own2U (.slice a4 (rowsTo (fun i => tabTo (fun j => idxI xs (c.th (at0 xs (i : Int)) (at0 xs (j : Int)))) xs.length) k).length q4) us (rowsTo (fun i => tabTo (fun j => idxI xs (c.th (at0 xs (i : Int)) (at0 xs (j : Int)))) xs.length) k))] : List (Nat × Itm))) s.1 s.2.1 s.2.2.1 s.2.2.2.1 s.2.2.2.2.1 s.2.2.2.2.2.1 s.2.2.2.2.2.2.1 s.2.2.2.2.2.2.2) (fun s : Nat × (Option Addr) × Nat × (Option Addr) × Nat × (Option Addr) × Nat × (List Value) => (fun (k : Nat) (a1 : Option Addr) (q1 : Nat) (a2 : Option Addr) (q2 : Nat) (a4 : Option Addr) (q4 : Nat) (us : List Value) => k ≤ xs.length) s.1 s.2.1 s.2.2.1 s.2.2.2.1 s.2.2.2.2.1 s.2.2.2.2.2.1 s.2.2.2.2.2.2.1 s.2.2.2.2.2.2.2) (fun s : Nat × (Option Addr) × Nat × (Option Addr) × Nat × (Option Addr) × Nat × (List Value) => (fun (k : Nat) (a1 : Option Addr) (q1 : Nat) (a2 : Option Addr) (q2 : Nat) (a4 : Option Addr) (q4 : Nat) (us : List Value) => xs.length - k) s.1 s.2.1 s.2.2.1 s.2.2.2.1 s.2.2.2.2.1 s.2.2.2.2.2.1 s.2.2.2.2.2.2.1 s.2.2.2.2.2.2.2) (0, _, _, _, _, _, _, _) (sub_cons rfl (sub_cons rfl (sub_cons rfl (sub_cons rfl (sub_cons rfl (sub_cons rfl (sub_cons rfl (sub_cons rfl (sub_cons rfl (sub_cons rfl (sub_cons rfl (sub_cons rfl (sub_cons rfl sub_nil))))))))))))) rfl (Nat.zero_le _) ?_
    rintro ⟨k, a1, q1, a2, q2, a4, q4, us⟩ hinv KL35 hKL35
    simp only [updL, List.foldl_cons, List.foldl_nil, List.set_cons_succ, List.set_cons_zero, List.cons_append, List.nil_append] at hinv hKL35 ⊢
    have hk := hinv
    have hm1 := tabTo_len (fun i => idxI (pOb c xs) (at0 c.s (at0 xs (i : Int)))) k
    have hm2 := tabTo_len (fun i => idxI (pOb c xs) (at0 c.t (at0 xs (i : Int)))) k
    have hm4 := rowsTo_len (fun i => tabTo (fun j => idxI xs (c.th (at0 xs (i : Int)) (at0 xs (j : Int)))) xs.length) k
    refine gc_seq fun K36 hK36 => ?_
    refine gc_region ?_
    refine g_v (.free rfl) rfl rfl (qt_lss rfl rfl rfl) ?_
    refine g_nil ?_
    refine gk_then (hK36 _ _ ?_)
    refine gc_seq fun K37 hK37 => ?_
    refine gc_cond rfl (fun hc2 => ?_) (fun hc2 => ?_)
    · try simp only [decide_eq_true_eq, decide_eq_false_iff_not, Bool.not_eq_true', Bool.not_eq_false', Bool.not_eq_eq_eq_not, Bool.not_true, Bool.not_false, ne_eq, Decidable.not_not, Classical.not_not] at hc2
      refine gc_skip ?_
      refine gk_then (hK37 _ _ ?_)
      refine gc_seq fun K38 hK38 => ?_
      refine gc_block ?_
      refine gc_seq fun K39 hK39 => ?_
      refine gc_region ?_
      refine g_v (.free rfl) rfl rfl (qt_index rfl rfl rfl ulE1 szE1 (fun w M => lenA_rd hu) (by omega) (by omega)) ?_
      refine g_v (.free rfl) rfl rfl (qt_load1 rfl rfl Try.underlying2 rfl (fun w M => mem_rd M hu) (by omega) (by omega)) ?_
      refine g_v (.free rfl) rfl rfl (qt_assign rfl rfl) ?_
      refine g_nil ?_
      refine gk_then (hK39 _ _ ?_)
      refine gc_seq fun K40 hK40 => ?_
      have hk1 := allP_k hx (k := k) (by omega)
      have hA := arrP hS hk1.1 hk1.2
      have a0 := hk1.1; have a1 := hk1.2; have a2 := hA.fs; have a3 := hA.fm; have a4 := hA.row; have a5 := hA.ft
      try simp only [List.nil_append, List.cons_append, List.append_assoc, List.set_cons_succ, List.set_cons_zero]
      refine ga_start _ (fun w M => mem_erase 2 (mem_erase 5 (M))) ?_
      refine ga_v 0 rfl (by kernel_rfl) (by kernel_rfl) (by kernel_rfl) (.free rfl) rfl rfl (qt_field (z := 0) (off := 1) rfl rfl Try.underlying28 rfl (by kernel_rfl) rfl) (fun _ _ _ h => h) ?_
      refine ga_v 2 rfl (by kernel_rfl) (by kernel_rfl) (by kernel_rfl) (.free rfl) rfl rfl (qt_move rfl rfl) (fun _ _ _ h => h) ?_
      refine ga_v 3 rfl (by kernel_rfl) (by kernel_rfl) (by kernel_rfl) (.free rfl) rfl rfl (qt_field (z := 0) (off := 1) rfl rfl Try.underlying28 rfl (by kernel_rfl) rfl) (fun _ _ _ h => h) ?_
      refine ga_v 4 rfl (by kernel_rfl) (by kernel_rfl) (by kernel_rfl) (.free rfl) rfl rfl (qt_loadB (n := 0) rfl rfl Try.underlying22 rfl rfl rfl) (fun _ _ _ h => h) ?_
      refine ga_v 5 rfl (by kernel_rfl) (by kernel_rfl) (by kernel_rfl) (.free rfl) rfl rfl (qt_move rfl rfl) (fun _ _ _ h => h) ?_
      refine ga_v 6 rfl (by kernel_rfl) (by kernel_rfl) (by kernel_rfl) (.free rfl) rfl rfl (qt_index rfl rfl rfl ulE1 szE1 (fun w M => lenA_rd h1) (by omega) (by omega)) (fun _ _ _ h => h) ?_
      refine ga_v 7 rfl (by kernel_rfl) (by kernel_rfl) (by kernel_rfl) (.free rfl) rfl rfl (qt_load1 rfl rfl Try.underlying2 rfl (fun w M => mem_rd M h1) (by omega) (by omega)) (fun _ _ _ h => h) ?_
      refine ga_two 1 8 (by kernel_rfl) rfl rfl (.free rfl) (.free rfl) (fun K41 hK41 => ?_) (fun K41 hK41 => ?_)
      · refine go_v rfl rfl (qt_loadB (n := 2) rfl rfl Try.underlying22 rfl rfl rfl) ?_
        refine hK41 _ _ (fun w M => (mem_erase 2 (mem_erase 5 (mem_take 8 M)) :)) ?_
        refine ga_op 8 (by kernel_rfl) rfl (.free rfl) fun K43 hK43 => ?_
        refine go_q rfl rfl (qt_call rfl Try.func95 rfl (by decide) rfl (fun w M => placeIn_any w _ _ _ ((mem_own1 (n := 3) M rfl).rd))) ?_
        refine hK43 _ _ (fun w M => (mem_erase 2 (mem_erase 5 (mem_take 8 M)) :)) ?_
        refine ga_op 9 (by kernel_rfl) rfl (.free rfl) fun K45 hK45 => ?_
        refine go_slice1 rfl rfl rfl rfl Try.underlying22 ?_
        intro B44
        refine hK45 _ _ (fun w M => (mem_erase 2 (mem_erase 5 (mem_take 8 M)) :)) ?_
        refine ga_op 10 (by kernel_rfl) rfl (.free rfl) fun K47 hK47 => ?_
        refine go_append (n := 5) (m := 8) rfl rfl rfl Try.underlying22 rfl rfl rfl rfl (by omega) ?_
        intro va46 vc46
        refine hK47 _ _ (fun w M => (mem_erase 2 (mem_erase 5 (mem_take 8 M)) :)) ?_
        refine ga_v 11 rfl (by kernel_rfl) (by kernel_rfl) (by kernel_rfl) (.free rfl) rfl rfl (qt_field (z := 0) (off := 1) rfl rfl Try.underlying28 rfl (by kernel_rfl) rfl) (fun _ _ _ h => h) ?_
        refine ga_op 12 (by kernel_rfl) rfl (.free rfl) fun K48 hK48 => ?_
        refine go_storeB (n := 2) rfl rfl rfl rfl (by kernel_rfl) rfl rfl rfl (by first | decide | simp) ?_
        refine hK48 _ _ (fun w M => (mem_erase 2 (mem_erase 5 (mem_take 8 M)) :)) ?_
        refine ga_done (by kernel_rfl) ?_
        refine gk_then (hK40 _ _ ?_)
        refine gc_seq fun K49 hK49 => ?_
        try simp only [List.nil_append, List.cons_append, List.append_assoc, List.set_cons_succ, List.set_cons_zero]
        refine ga_start _ (fun w M => mem_erase 2 (mem_erase 6 (M))) ?_
        refine ga_v 0 rfl (by kernel_rfl) (by kernel_rfl) (by kernel_rfl) (.free rfl) rfl rfl (qt_field (z := 0) (off := 2) rfl rfl Try.underlying28 rfl (by kernel_rfl) rfl) (fun _ _ _ h => h) ?_
        refine ga_v 2 rfl (by kernel_rfl) (by kernel_rfl) (by kernel_rfl) (.free rfl) rfl rfl (qt_move rfl rfl) (fun _ _ _ h => h) ?_
        refine ga_v 3 rfl (by kernel_rfl) (by kernel_rfl) (by kernel_rfl) (.free rfl) rfl rfl (qt_field (z := 0) (off := 2) rfl rfl Try.underlying28 rfl (by kernel_rfl) rfl) (fun _ _ _ h => h) ?_
        refine ga_v 4 rfl (by kernel_rfl) (by kernel_rfl) (by kernel_rfl) (.free rfl) rfl rfl (qt_loadB (n := 0) rfl rfl Try.underlying22 rfl rfl rfl) (fun _ _ _ h => h) ?_
        refine ga_v 5 rfl (by kernel_rfl) (by kernel_rfl) (by kernel_rfl) (.free rfl) rfl rfl (qt_move rfl rfl) (fun _ _ _ h => h) ?_
        refine ga_v 6 rfl (by kernel_rfl) (by kernel_rfl) (by kernel_rfl) (.free rfl) rfl rfl (qt_index rfl rfl rfl ulE1 szE1 (fun w M => lenA_rd h2) (by omega) (by omega)) (fun _ _ _ h => h) ?_
        refine ga_v 7 rfl (by kernel_rfl) (by kernel_rfl) (by kernel_rfl) (.free rfl) rfl rfl (qt_load1 rfl rfl Try.underlying2 rfl (fun w M => mem_rd M h2) (by omega) (by omega)) (fun _ _ _ h => h) ?_
        refine ga_two 1 8 (by kernel_rfl) rfl rfl (.free rfl) (.free rfl) (fun K50 hK50 => ?_) (fun K50 hK50 => ?_)
        · refine go_v rfl rfl (qt_loadB (n := 2) rfl rfl Try.underlying22 rfl rfl rfl) ?_
          refine hK50 _ _ (fun w M => (mem_erase 2 (mem_erase 6 (mem_take 9 M)) :)) ?_
          refine ga_op 8 (by kernel_rfl) rfl (.free rfl) fun K52 hK52 => ?_
          refine go_q rfl rfl (qt_call rfl Try.func95 rfl (by decide) rfl (fun w M => placeIn_any w _ _ _ ((mem_own1 (n := 3) M rfl).rd))) ?_
          refine hK52 _ _ (fun w M => (mem_erase 2 (mem_erase 6 (mem_take 9 M)) :)) ?_
          refine ga_op 9 (by kernel_rfl) rfl (.free rfl) fun K54 hK54 => ?_
          refine go_slice1 rfl rfl rfl rfl Try.underlying22 ?_
          intro B53
          refine hK54 _ _ (fun w M => (mem_erase 2 (mem_erase 6 (mem_take 9 M)) :)) ?_
          refine ga_op 10 (by kernel_rfl) rfl (.free rfl) fun K56 hK56 => ?_
          refine go_append (n := 6) (m := 9) rfl rfl rfl Try.underlying22 rfl rfl rfl rfl (by omega) ?_
          intro va55 vc55
          refine hK56 _ _ (fun w M => (mem_erase 2 (mem_erase 6 (mem_take 9 M)) :)) ?_
          refine ga_v 11 rfl (by kernel_rfl) (by kernel_rfl) (by kernel_rfl) (.free rfl) rfl rfl (qt_field (z := 0) (off := 2) rfl rfl Try.underlying28 rfl (by kernel_rfl) rfl) (fun _ _ _ h => h) ?_
          refine ga_op 12 (by kernel_rfl) rfl (.free rfl) fun K57 hK57 => ?_
          refine go_storeB (n := 2) rfl rfl rfl rfl (by kernel_rfl) rfl rfl rfl (by first | decide | simp) ?_
          refine hK57 _ _ (fun w M => (mem_erase 2 (mem_erase 6 (mem_take 9 M)) :)) ?_
          refine ga_done (by kernel_rfl) ?_
          refine gk_then (hK49 _ _ ?_)
          refine gc_seq fun K58 hK58 => ?_
          refine gc_region ?_
          refine g_v (.free rfl) rfl rfl (qt_move rfl rfl) ?_
          refine g_v (.free rfl) rfl rfl (qt_len rfl rfl ulE1 (fun w M => lenV_rd hu)) ?_
          refine g_op (.free rfl) fun K60 hK60 => ?_
          refine go_make1 rfl rfl rfl Try.underlying22 rfl rfl (by omega) ?_
          intro B59
          refine hK60 _ _ ?_
          refine g_v (.free rfl) rfl rfl (qt_assign rfl rfl) ?_
          refine g_nil ?_
          refine gk_then (hK58 _ _ ?_)
          refine gc_seq fun K61 hK61 => ?_
          refine gc_seq fun K62 hK62 => ?_
          refine gc_region ?_
          refine g_v (.free rfl) rfl rfl (qt_move rfl rfl) ?_
          refine g_v (.free rfl) rfl rfl (qt_len rfl rfl ulE1 (fun w M => lenV_rd hu)) ?_
          refine g_v (.free rfl) rfl rfl (qt_move rfl rfl) ?_
          refine g_nil ?_
          refine gk_then (hK62 _ _ ?_)
          refine gc_block ?_
          simp only [tabTo_succ]
          rw [fillTo_zero (fun j => idxI xs (c.th (at0 xs (k : Int)) (at0 xs (j : Int)))) xs.length]
          try simp only [List.nil_append, List.cons_append, List.append_assoc, List.set_cons_succ, List.set_cons_zero]
          refine gc_loop ([(0, _), (1, _), (2, _), (4, _), (5, _), (6, _), (11, _), (12, _), (16, _), (17, _), (18, _), (19, _), (42, _), (43, _), (44, _), (45, _), (75, _), (76, _)] : Env) (fun s : Nat => (fun (l : Nat) => ([(77, .int .i64 (l : Int))] : Env)) s) (fun s : Nat => (fun (l : Nat) => ([(10, own1I (.slice (some ⟨B59, 0, none⟩) xs.length xs.length) (fillTo (fun j => idxI xs (c.th (at0 xs (k : Int)) (at0 xs (j : Int)))) xs.length l))] : List (Nat × Itm))) s) (fun s : Nat => (fun (l : Nat) => l ≤ xs.length) s) (fun s : Nat => (fun (l : Nat) => xs.length - l) s) (0) (sub_cons rfl (sub_cons rfl (sub_cons rfl (sub_cons rfl (sub_cons rfl (sub_cons rfl (sub_cons rfl (sub_cons rfl (sub_cons rfl (sub_cons rfl (sub_cons rfl (sub_cons rfl (sub_cons rfl (sub_cons rfl (sub_cons rfl (sub_cons rfl (sub_cons rfl (sub_cons rfl (sub_cons rfl sub_nil))))))))))))))))))) rfl (Nat.zero_le _) ?_
          rintro l hinv KL63 hKL63
          simp only [updL, List.foldl_cons, List.foldl_nil, List.set_cons_succ, List.set_cons_zero, List.cons_append, List.nil_append] at hinv hKL63 ⊢
          have hl3 := hinv
          have hl4 := fillTo_len (fun j => idxI xs (c.th (at0 xs (k : Int)) (at0 xs (j : Int)))) xs.length l
          refine gc_seq fun K64 hK64 => ?_
          refine gc_region ?_
          refine g_v (.free rfl) rfl rfl (qt_lss rfl rfl rfl) ?_
          refine g_nil ?_
          refine gk_then (hK64 _ _ ?_)
          refine gc_seq fun K65 hK65 => ?_
          refine gc_cond rfl (fun hc3 => ?_) (fun hc3 => ?_)
          · try simp only [decide_eq_true_eq, decide_eq_false_iff_not, Bool.not_eq_true', Bool.not_eq_false', Bool.not_eq_eq_eq_not, Bool.not_true, Bool.not_false, ne_eq, Decidable.not_not, Classical.not_not] at hc3
            refine gc_skip ?_
            refine gk_then (hK65 _ _ ?_)
            refine gc_seq fun K66 hK66 => ?_
            refine gc_block ?_
            refine gc_seq fun K67 hK67 => ?_
            refine gc_region ?_
            refine g_v (.free rfl) rfl rfl (qt_move rfl rfl) ?_
            refine g_v (.free rfl) rfl rfl (qt_index rfl rfl rfl ulE1 szE1 (fun w M => lenA_rd hu) (by omega) (by omega)) ?_
            refine g_v (.free rfl) rfl rfl (qt_load1 rfl rfl Try.underlying2 rfl (fun w M => mem_rd M hu) (by omega) (by omega)) ?_
            refine g_v (.free rfl) rfl rfl (qt_assign rfl rfl) ?_
            refine g_v (.free rfl) rfl rfl (qt_assign rfl rfl) ?_
            refine g_nil ?_
            refine gk_then (hK67 _ _ ?_)
            have hk1 := allP_k hx (k := k) (by omega)
            have hA := arrP hS hk1.1 hk1.2
            have a0 := hk1.1; have a1 := hk1.2; have a2 := hA.fs; have a3 := hA.fm; have a4 := hA.row; have a5 := hA.ft
            have hl1 := allP_k hx (k := l) (by omega)
            have b0 := hl1.1; have b1 := hl1.2
            refine gc_region ?_
            refine g_v (.free rfl) rfl rfl (qt_move rfl rfl) ?_
            refine g_v (.free rfl) rfl rfl (qt_move rfl rfl) ?_
            refine g_v (.free rfl) rfl rfl (qt_move rfl rfl) ?_
            refine g_v (.free rfl) rfl rfl (qt_loadS (n := 0) rfl rfl Try.underlying28 rfl (by kernel_rfl) rfl) ?_
            refine g_v (.free rfl) rfl rfl (qt_move rfl rfl) ?_
            refine g_v (.free rfl) rfl rfl (qt_move rfl rfl) ?_
            refine g_q (.free rfl) rfl rfl (qt_call rfl Try.func60 rfl (by decide) rfl (fun w M => then_any w _ _ _ _ (mem_rdC M h0) (by first | assumption | omega) (by first | assumption | omega) (by first | assumption | omega) (by first | assumption | omega))) ?_
            refine g_q (.free rfl) rfl rfl (qt_call rfl Try.func95 rfl (by decide) rfl (fun w M => placeIn_any w _ _ _ (mem_rd M hu))) ?_
            refine g_v (.free rfl) rfl rfl (qt_index rfl rfl rfl ulE1 szE1 (fun w M => lenA_own1 (n := 10) rfl M) (by omega) (by omega)) ?_
            refine g_op (.free rfl) fun K68 hK68 => ?_
            refine go_store1 (n := 10) rfl rfl rfl rfl (by kernel_rfl) rfl (by omega) (by omega) ?_
            refine hK68 _ _ ?_
            refine g_nil ?_
            refine gk_block ?_
            refine gk_then (hK66 _ _ ?_)
            refine gc_region ?_
            refine g_v (.free rfl) rfl rfl (qt_add rfl rfl rfl (by omega)) ?_
            refine g_v (.free rfl) rfl rfl (qt_move rfl rfl) ?_
            refine g_nil ?_
            rw [fillTo_set (fun j => idxI xs (c.th (at0 xs (k : Int)) (at0 xs (j : Int)))) (by omega)]
            refine gk_then (gk_take 11 ?_)
            refine gk_sub ?hs_69 (hKL63 (l + 1) ?hi_69 ?hm_69)
            case hs_69 => exact (sub_cons rfl (sub_cons rfl (sub_cons rfl (sub_cons rfl (sub_cons rfl (sub_cons rfl (sub_cons rfl (sub_cons rfl (sub_cons rfl (sub_cons rfl (sub_cons rfl (sub_cons rfl (sub_cons rfl (sub_cons rfl (sub_cons rfl (sub_cons rfl (sub_cons rfl (sub_cons rfl (sub_cons rfl sub_nil)))))))))))))))))))
            case hi_69 => omega
            case hm_69 => omega
          · try simp only [decide_eq_true_eq, decide_eq_false_iff_not, Bool.not_eq_true', Bool.not_eq_false', Bool.not_eq_eq_eq_not, Bool.not_true, Bool.not_false, ne_eq, Decidable.not_not, Classical.not_not] at hc3
            refine gc_exit ?_
            refine gk_then_exit ?_
            refine gk_then_exit ?_
            refine gk_block_hit ?_
            refine gk_then (hK61 _ _ ?_)
            refine gc_region ?_
            refine g_v (.free rfl) rfl rfl (qt_field (z := 0) (off := 4) rfl rfl Try.underlying28 rfl (by kernel_rfl) rfl) ?_
            refine g_v (.free rfl) rfl rfl (qt_loadB (n := 2) rfl rfl Try.underlying23 rfl rfl rfl) ?_
            refine g_v (.free rfl) rfl rfl (qt_move rfl rfl) ?_
            refine g_op (.free rfl) fun K71 hK71 => ?_
            refine go_sliceR1 (m := 10) rfl rfl rfl rfl Try.underlying23 rfl ?_
            intro B70
            refine hK71 _ _ ?_
            refine g_op (.free rfl) fun K73 hK73 => ?_
            refine go_appendRow (n := 7) (m := 10) (m' := 9) rfl rfl rfl Try.underlying23 rfl rfl rfl rfl rfl (by omega) ?_
            intro va72 vc72
            refine hK73 _ _ ?_
            refine g_v (.free rfl) rfl rfl (qt_field (z := 0) (off := 4) rfl rfl Try.underlying28 rfl (by kernel_rfl) rfl) ?_
            refine g_op (.free rfl) fun K74 hK74 => ?_
            refine go_storeB (n := 2) rfl rfl rfl rfl (by kernel_rfl) rfl rfl rfl (by first | decide | simp) ?_
            refine hK74 _ _ ?_
            refine g_nil ?_
            refine gk_block ?_
            refine gk_then (hK38 _ _ ?_)
            refine gc_region ?_
            refine g_v (.free rfl) rfl rfl (qt_add rfl rfl rfl (by omega)) ?_
            refine g_v (.free rfl) rfl rfl (qt_move rfl rfl) ?_
            refine g_nil ?_
            obtain rfl : l = xs.length := by omega
            simp only [fillTo_end, rowsTo_succ]
            refine gk_then (gk_take 8 ?_)
            refine gk_sub ?hs_75 (hKL35 (k + 1, _, _, _, _, _, _, _) ?hi_75 ?hm_75)
            case hs_75 => exact (sub_cons rfl (sub_cons rfl (sub_cons rfl (sub_cons rfl (sub_cons rfl (sub_cons rfl (sub_cons rfl (sub_cons rfl (sub_cons rfl (sub_cons rfl (sub_cons rfl (sub_cons rfl (sub_cons rfl sub_nil)))))))))))))
            case hi_75 => omega
            case hm_75 => omega
        · refine go_q rfl rfl (qt_call rfl Try.func95 rfl (by decide) rfl (fun w M => placeIn_any w _ _ _ ((mem_own1 (n := 3) M rfl).rd))) ?_
          refine hK50 _ _ (fun w M => (mem_erase 2 (mem_erase 6 (mem_take 9 M)) :)) ?_
          refine ga_two 1 9 (by kernel_rfl) rfl rfl (.free rfl) (.free rfl) (fun K77 hK77 => ?_) (fun K77 hK77 => ?_)
          · refine go_v rfl rfl (qt_loadB (n := 2) rfl rfl Try.underlying22 rfl rfl rfl) ?_
            refine hK77 _ _ (fun w M => (mem_erase 2 (mem_erase 6 (mem_take 9 M)) :)) ?_
            refine ga_op 9 (by kernel_rfl) rfl (.free rfl) fun K80 hK80 => ?_
            refine go_slice1 rfl rfl rfl rfl Try.underlying22 ?_
            intro B79
            refine hK80 _ _ (fun w M => (mem_erase 2 (mem_erase 6 (mem_take 9 M)) :)) ?_
            refine ga_op 10 (by kernel_rfl) rfl (.free rfl) fun K82 hK82 => ?_
            refine go_append (n := 6) (m := 9) rfl rfl rfl Try.underlying22 rfl rfl rfl rfl (by omega) ?_
            intro va81 vc81
            refine hK82 _ _ (fun w M => (mem_erase 2 (mem_erase 6 (mem_take 9 M)) :)) ?_
            refine ga_v 11 rfl (by kernel_rfl) (by kernel_rfl) (by kernel_rfl) (.free rfl) rfl rfl (qt_field (z := 0) (off := 2) rfl rfl Try.underlying28 rfl (by kernel_rfl) rfl) (fun _ _ _ h => h) ?_
            refine ga_op 12 (by kernel_rfl) rfl (.free rfl) fun K83 hK83 => ?_
            refine go_storeB (n := 2) rfl rfl rfl rfl (by kernel_rfl) rfl rfl rfl (by first | decide | simp) ?_
            refine hK83 _ _ (fun w M => (mem_erase 2 (mem_erase 6 (mem_take 9 M)) :)) ?_
            refine ga_done (by kernel_rfl) ?_
            refine gk_then (hK49 _ _ ?_)
            refine gc_seq fun K84 hK84 => ?_
            refine gc_region ?_
            refine g_v (.free rfl) rfl rfl (qt_move rfl rfl) ?_
            refine g_v (.free rfl) rfl rfl (qt_len rfl rfl ulE1 (fun w M => lenV_rd hu)) ?_
            refine g_op (.free rfl) fun K86 hK86 => ?_
            refine go_make1 rfl rfl rfl Try.underlying22 rfl rfl (by omega) ?_
            intro B85
            refine hK86 _ _ ?_
            refine g_v (.free rfl) rfl rfl (qt_assign rfl rfl) ?_
            refine g_nil ?_
            refine gk_then (hK84 _ _ ?_)
            refine gc_seq fun K87 hK87 => ?_
            refine gc_seq fun K88 hK88 => ?_
            refine gc_region ?_
            refine g_v (.free rfl) rfl rfl (qt_move rfl rfl) ?_
            refine g_v (.free rfl) rfl rfl (qt_len rfl rfl ulE1 (fun w M => lenV_rd hu)) ?_
            refine g_v (.free rfl) rfl rfl (qt_move rfl rfl) ?_
            refine g_nil ?_
            refine gk_then (hK88 _ _ ?_)
            refine gc_block ?_
            simp only [tabTo_succ]
            rw [fillTo_zero (fun j => idxI xs (c.th (at0 xs (k : Int)) (at0 xs (j : Int)))) xs.length]
            try simp only [List.nil_append, List.cons_append, List.append_assoc, List.set_cons_succ, List.set_cons_zero]
            refine gc_loop ([(0, _), (1, _), (2, _), (4, _), (5, _), (6, _), (11, _), (12, _), (16, _), (17, _), (18, _), (19, _), (42, _), (43, _), (44, _), (45, _), (75, _), (76, _)] : Env) (fun s : Nat => (fun (l : Nat) => ([(77, .int .i64 (l : Int))] : Env)) s) (fun s : Nat => (fun (l : Nat) => ([(10, own1I (.slice (some ⟨B85, 0, none⟩) xs.length xs.length) (fillTo (fun j => idxI xs (c.th (at0 xs (k : Int)) (at0 xs (j : Int)))) xs.length l))] : List (Nat × Itm))) s) (fun s : Nat => (fun (l : Nat) => l ≤ xs.length) s) (fun s : Nat => (fun (l : Nat) => xs.length - l) s) (0) (sub_cons rfl (sub_cons rfl (sub_cons rfl (sub_cons rfl (sub_cons rfl (sub_cons rfl (sub_cons rfl (sub_cons rfl (sub_cons rfl (sub_cons rfl (sub_cons rfl (sub_cons rfl (sub_cons rfl (sub_cons rfl (sub_cons rfl (sub_cons rfl (sub_cons rfl (sub_cons rfl (sub_cons rfl sub_nil))))))))))))))))))) rfl (Nat.zero_le _) ?_
            rintro l hinv KL89 hKL89
            simp only [updL, List.foldl_cons, List.foldl_nil, List.set_cons_succ, List.set_cons_zero, List.cons_append, List.nil_append] at hinv hKL89 ⊢
            have hl3 := hinv
            have hl4 := fillTo_len (fun j => idxI xs (c.th (at0 xs (k : Int)) (at0 xs (j : Int)))) xs.length l
            refine gc_seq fun K90 hK90 => ?_
            refine gc_region ?_
            refine g_v (.free rfl) rfl rfl (qt_lss rfl rfl rfl) ?_
            refine g_nil ?_
            refine gk_then (hK90 _ _ ?_)
            refine gc_seq fun K91 hK91 => ?_
            refine gc_cond rfl (fun hc4 => ?_) (fun hc4 => ?_)
            · try simp only [decide_eq_true_eq, decide_eq_false_iff_not, Bool.not_eq_true', Bool.not_eq_false', Bool.not_eq_eq_eq_not, Bool.not_true, Bool.not_false, ne_eq, Decidable.not_not, Classical.not_not] at hc4
              refine gc_skip ?_
              refine gk_then (hK91 _ _ ?_)
              refine gc_seq fun K92 hK92 => ?_
              refine gc_block ?_
              refine gc_seq fun K93 hK93 => ?_
              refine gc_region ?_
              refine g_v (.free rfl) rfl rfl (qt_move rfl rfl) ?_
              refine g_v (.free rfl) rfl rfl (qt_index rfl rfl rfl ulE1 szE1 (fun w M => lenA_rd hu) (by omega) (by omega)) ?_
              refine g_v (.free rfl) rfl rfl (qt_load1 rfl rfl Try.underlying2 rfl (fun w M => mem_rd M hu) (by omega) (by omega)) ?_
              refine g_v (.free rfl) rfl rfl (qt_assign rfl rfl) ?_
              refine g_v (.free rfl) rfl rfl (qt_assign rfl rfl) ?_
              refine g_nil ?_
              refine gk_then (hK93 _ _ ?_)
              have hk1 := allP_k hx (k := k) (by omega)
              have hA := arrP hS hk1.1 hk1.2
              have a0 := hk1.1; have a1 := hk1.2; have a2 := hA.fs; have a3 := hA.fm; have a4 := hA.row; have a5 := hA.ft
              have hl1 := allP_k hx (k := l) (by omega)
              have b0 := hl1.1; have b1 := hl1.2
              refine gc_region ?_
              refine g_v (.free rfl) rfl rfl (qt_move rfl rfl) ?_
              refine g_v (.free rfl) rfl rfl (qt_move rfl rfl) ?_
              refine g_v (.free rfl) rfl rfl (qt_move rfl rfl) ?_
              refine g_v (.free rfl) rfl rfl (qt_loadS (n := 0) rfl rfl Try.underlying28 rfl (by kernel_rfl) rfl) ?_
              refine g_v (.free rfl) rfl rfl (qt_move rfl rfl) ?_
              refine g_v (.free rfl) rfl rfl (qt_move rfl rfl) ?_
              refine g_q (.free rfl) rfl rfl (qt_call rfl Try.func60 rfl (by decide) rfl (fun w M => then_any w _ _ _ _ (mem_rdC M h0) (by first | assumption | omega) (by first | assumption | omega) (by first | assumption | omega) (by first | assumption | omega))) ?_
              refine g_q (.free rfl) rfl rfl (qt_call rfl Try.func95 rfl (by decide) rfl (fun w M => placeIn_any w _ _ _ (mem_rd M hu))) ?_
              refine g_v (.free rfl) rfl rfl (qt_index rfl rfl rfl ulE1 szE1 (fun w M => lenA_own1 (n := 10) rfl M) (by omega) (by omega)) ?_
              refine g_op (.free rfl) fun K94 hK94 => ?_
              refine go_store1 (n := 10) rfl rfl rfl rfl (by kernel_rfl) rfl (by omega) (by omega) ?_
              refine hK94 _ _ ?_
              refine g_nil ?_
              refine gk_block ?_
              refine gk_then (hK92 _ _ ?_)
              refine gc_region ?_
              refine g_v (.free rfl) rfl rfl (qt_add rfl rfl rfl (by omega)) ?_
              refine g_v (.free rfl) rfl rfl (qt_move rfl rfl) ?_
              refine g_nil ?_
              rw [fillTo_set (fun j => idxI xs (c.th (at0 xs (k : Int)) (at0 xs (j : Int)))) (by omega)]
              refine gk_then (gk_take 11 ?_)
              refine gk_sub ?hs_95 (hKL89 (l + 1) ?hi_95 ?hm_95)
              case hs_95 => exact (sub_cons rfl (sub_cons rfl (sub_cons rfl (sub_cons rfl (sub_cons rfl (sub_cons rfl (sub_cons rfl (sub_cons rfl (sub_cons rfl (sub_cons rfl (sub_cons rfl (sub_cons rfl (sub_cons rfl (sub_cons rfl (sub_cons rfl (sub_cons rfl (sub_cons rfl (sub_cons rfl (sub_cons rfl sub_nil)))))))))))))))))))
              case hi_95 => omega
              case hm_95 => omega
            · try simp only [decide_eq_true_eq, decide_eq_false_iff_not, Bool.not_eq_true', Bool.not_eq_false', Bool.not_eq_eq_eq_not, Bool.not_true, Bool.not_false, ne_eq, Decidable.not_not, Classical.not_not] at hc4
              refine gc_exit ?_
              refine gk_then_exit ?_
              refine gk_then_exit ?_
              refine gk_block_hit ?_
              refine gk_then (hK87 _ _ ?_)
              refine gc_region ?_
              refine g_v (.free rfl) rfl rfl (qt_field (z := 0) (off := 4) rfl rfl Try.underlying28 rfl (by kernel_rfl) rfl) ?_
              refine g_v (.free rfl) rfl rfl (qt_loadB (n := 2) rfl rfl Try.underlying23 rfl rfl rfl) ?_
              refine g_v (.free rfl) rfl rfl (qt_move rfl rfl) ?_
              refine g_op (.free rfl) fun K97 hK97 => ?_
              refine go_sliceR1 (m := 10) rfl rfl rfl rfl Try.underlying23 rfl ?_
              intro B96
              refine hK97 _ _ ?_
              refine g_op (.free rfl) fun K99 hK99 => ?_
              refine go_appendRow (n := 7) (m := 10) (m' := 9) rfl rfl rfl Try.underlying23 rfl rfl rfl rfl rfl (by omega) ?_
              intro va98 vc98
              refine hK99 _ _ ?_
              refine g_v (.free rfl) rfl rfl (qt_field (z := 0) (off := 4) rfl rfl Try.underlying28 rfl (by kernel_rfl) rfl) ?_
              refine g_op (.free rfl) fun K100 hK100 => ?_
              refine go_storeB (n := 2) rfl rfl rfl rfl (by kernel_rfl) rfl rfl rfl (by first | decide | simp) ?_
              refine hK100 _ _ ?_
              refine g_nil ?_
              refine gk_block ?_
              refine gk_then (hK38 _ _ ?_)
              refine gc_region ?_
              refine g_v (.free rfl) rfl rfl (qt_add rfl rfl rfl (by omega)) ?_
              refine g_v (.free rfl) rfl rfl (qt_move rfl rfl) ?_
              refine g_nil ?_
              obtain rfl : l = xs.length := by omega
              simp only [fillTo_end, rowsTo_succ]
              refine gk_then (gk_take 8 ?_)
              refine gk_sub ?hs_101 (hKL35 (k + 1, _, _, _, _, _, _, _) ?hi_101 ?hm_101)
              case hs_101 => exact (sub_cons rfl (sub_cons rfl (sub_cons rfl (sub_cons rfl (sub_cons rfl (sub_cons rfl (sub_cons rfl (sub_cons rfl (sub_cons rfl (sub_cons rfl (sub_cons rfl (sub_cons rfl (sub_cons rfl sub_nil)))))))))))))
              case hi_101 => omega
              case hm_101 => omega
          · refine go_slice1 rfl rfl rfl rfl Try.underlying22 ?_
            intro B102
            refine hK77 _ _ (fun w M => (mem_erase 2 (mem_erase 6 (mem_take 9 M)) :)) ?_
            refine ga_op 1 (by kernel_rfl) rfl (.free rfl) fun K104 hK104 => ?_
            refine go_v rfl rfl (qt_loadB (n := 2) rfl rfl Try.underlying22 rfl rfl rfl) ?_
            refine hK104 _ _ (fun w M => (mem_erase 2 (mem_erase 6 (mem_take 9 M)) :)) ?_
            refine ga_op 10 (by kernel_rfl) rfl (.free rfl) fun K106 hK106 => ?_
            refine go_append (n := 6) (m := 9) rfl rfl rfl Try.underlying22 rfl rfl rfl rfl (by omega) ?_
            intro va105 vc105
            refine hK106 _ _ (fun w M => (mem_erase 2 (mem_erase 6 (mem_take 9 M)) :)) ?_
            refine ga_v 11 rfl (by kernel_rfl) (by kernel_rfl) (by kernel_rfl) (.free rfl) rfl rfl (qt_field (z := 0) (off := 2) rfl rfl Try.underlying28 rfl (by kernel_rfl) rfl) (fun _ _ _ h => h) ?_
            refine ga_op 12 (by kernel_rfl) rfl (.free rfl) fun K107 hK107 => ?_
            refine go_storeB (n := 2) rfl rfl rfl rfl (by kernel_rfl) rfl rfl rfl (by first | decide | simp) ?_
            refine hK107 _ _ (fun w M => (mem_erase 2 (mem_erase 6 (mem_take 9 M)) :)) ?_
            refine ga_done (by kernel_rfl) ?_
            refine gk_then (hK49 _ _ ?_)
            refine gc_seq fun K108 hK108 => ?_
            refine gc_region ?_
            refine g_v (.free rfl) rfl rfl (qt_move rfl rfl) ?_
            refine g_v (.free rfl) rfl rfl (qt_len rfl rfl ulE1 (fun w M => lenV_rd hu)) ?_
            refine g_op (.free rfl) fun K110 hK110 => ?_
            refine go_make1 rfl rfl rfl Try.underlying22 rfl rfl (by omega) ?_
            intro B109
            refine hK110 _ _ ?_
            refine g_v (.free rfl) rfl rfl (qt_assign rfl rfl) ?_
            refine g_nil ?_
            refine gk_then (hK108 _ _ ?_)
            refine gc_seq fun K111 hK111 => ?_
            refine gc_seq fun K112 hK112 => ?_
            refine gc_region ?_
            refine g_v (.free rfl) rfl rfl (qt_move rfl rfl) ?_
            refine g_v (.free rfl) rfl rfl (qt_len rfl rfl ulE1 (fun w M => lenV_rd hu)) ?_
            refine g_v (.free rfl) rfl rfl (qt_move rfl rfl) ?_
            refine g_nil ?_
            refine gk_then (hK112 _ _ ?_)
            refine gc_block ?_
            simp only [tabTo_succ]
            rw [fillTo_zero (fun j => idxI xs (c.th (at0 xs (k : Int)) (at0 xs (j : Int)))) xs.length]
            try simp only [List.nil_append, List.cons_append, List.append_assoc, List.set_cons_succ, List.set_cons_zero]
            refine gc_loop ([(0, _), (1, _), (2, _), (4, _), (5, _), (6, _), (11, _), (12, _), (16, _), (17, _), (18, _), (19, _), (42, _), (43, _), (44, _), (45, _), (75, _), (76, _)] : Env) (fun s : Nat => (fun (l : Nat) => ([(77, .int .i64 (l : Int))] : Env)) s) (fun s : Nat => (fun (l : Nat) => ([(10, own1I (.slice (some ⟨B109, 0, none⟩) xs.length xs.length) (fillTo (fun j => idxI xs (c.th (at0 xs (k : Int)) (at0 xs (j : Int)))) xs.length l))] : List (Nat × Itm))) s) (fun s : Nat => (fun (l : Nat) => l ≤ xs.length) s) (fun s : Nat => (fun (l : Nat) => xs.length - l) s) (0) (sub_cons rfl (sub_cons rfl (sub_cons rfl (sub_cons rfl (sub_cons rfl (sub_cons rfl (sub_cons rfl (sub_cons rfl (sub_cons rfl (sub_cons rfl (sub_cons rfl (sub_cons rfl (sub_cons rfl (sub_cons rfl (sub_cons rfl (sub_cons rfl (sub_cons rfl (sub_cons rfl (sub_cons rfl sub_nil))))))))))))))))))) rfl (Nat.zero_le _) ?_
            rintro l hinv KL113 hKL113
            simp only [updL, List.foldl_cons, List.foldl_nil, List.set_cons_succ, List.set_cons_zero, List.cons_append, List.nil_append] at hinv hKL113 ⊢
            have hl3 := hinv
            have hl4 := fillTo_len (fun j => idxI xs (c.th (at0 xs (k : Int)) (at0 xs (j : Int)))) xs.length l
            refine gc_seq fun K114 hK114 => ?_
            refine gc_region ?_
            refine g_v (.free rfl) rfl rfl (qt_lss rfl rfl rfl) ?_
            refine g_nil ?_
            refine gk_then (hK114 _ _ ?_)
            refine gc_seq fun K115 hK115 => ?_
            refine gc_cond rfl (fun hc5 => ?_) (fun hc5 => ?_)
            · try simp only [decide_eq_true_eq, decide_eq_false_iff_not, Bool.not_eq_true', Bool.not_eq_false', Bool.not_eq_eq_eq_not, Bool.not_true, Bool.not_false, ne_eq, Decidable.not_not, Classical.not_not] at hc5
              refine gc_skip ?_
              refine gk_then (hK115 _ _ ?_)
              refine gc_seq fun K116 hK116 => ?_
              refine gc_block ?_
              refine gc_seq fun K117 hK117 => ?_
              refine gc_region ?_
              refine g_v (.free rfl) rfl rfl (qt_move rfl rfl) ?_
              refine g_v (.free rfl) rfl rfl (qt_index rfl rfl rfl ulE1 szE1 (fun w M => lenA_rd hu) (by omega) (by omega)) ?_
              refine g_v (.free rfl) rfl rfl (qt_load1 rfl rfl Try.underlying2 rfl (fun w M => mem_rd M hu) (by omega) (by omega)) ?_
              refine g_v (.free rfl) rfl rfl (qt_assign rfl rfl) ?_
              refine g_v (.free rfl) rfl rfl (qt_assign rfl rfl) ?_
              refine g_nil ?_
              refine gk_then (hK117 _ _ ?_)
              have hk1 := allP_k hx (k := k) (by omega)
              have hA := arrP hS hk1.1 hk1.2
              have a0 := hk1.1; have a1 := hk1.2; have a2 := hA.fs; have a3 := hA.fm; have a4 := hA.row; have a5 := hA.ft
              have hl1 := allP_k hx (k := l) (by omega)
              have b0 := hl1.1; have b1 := hl1.2
              refine gc_region ?_
              refine g_v (.free rfl) rfl rfl (qt_move rfl rfl) ?_
              refine g_v (.free rfl) rfl rfl (qt_move rfl rfl) ?_
              refine g_v (.free rfl) rfl rfl (qt_move rfl rfl) ?_
              refine g_v (.free rfl) rfl rfl (qt_loadS (n := 0) rfl rfl Try.underlying28 rfl (by kernel_rfl) rfl) ?_
              refine g_v (.free rfl) rfl rfl (qt_move rfl rfl) ?_
              refine g_v (.free rfl) rfl rfl (qt_move rfl rfl) ?_
              refine g_q (.free rfl) rfl rfl (qt_call rfl Try.func60 rfl (by decide) rfl (fun w M => then_any w _ _ _ _ (mem_rdC M h0) (by first | assumption | omega) (by first | assumption | omega) (by first | assumption | omega) (by first | assumption | omega))) ?_
              refine g_q (.free rfl) rfl rfl (qt_call rfl Try.func95 rfl (by decide) rfl (fun w M => placeIn_any w _ _ _ (mem_rd M hu))) ?_
              refine g_v (.free rfl) rfl rfl (qt_index rfl rfl rfl ulE1 szE1 (fun w M => lenA_own1 (n := 10) rfl M) (by omega) (by omega)) ?_
              refine g_op (.free rfl) fun K118 hK118 => ?_
              refine go_store1 (n := 10) rfl rfl rfl rfl (by kernel_rfl) rfl (by omega) (by omega) ?_
              refine hK118 _ _ ?_
              refine g_nil ?_
              refine gk_block ?_
              refine gk_then (hK116 _ _ ?_)
              refine gc_region ?_
              refine g_v (.free rfl) rfl rfl (qt_add rfl rfl rfl (by omega)) ?_
              refine g_v (.free rfl) rfl rfl (qt_move rfl rfl) ?_
              refine g_nil ?_
              rw [fillTo_set (fun j => idxI xs (c.th (at0 xs (k : Int)) (at0 xs (j : Int)))) (by omega)]
              refine gk_then (gk_take 11 ?_)
              refine gk_sub ?hs_119 (hKL113 (l + 1) ?hi_119 ?hm_119)
              case hs_119 => exact (sub_cons rfl (sub_cons rfl (sub_cons rfl (sub_cons rfl (sub_cons rfl (sub_cons rfl (sub_cons rfl (sub_cons rfl (sub_cons rfl (sub_cons rfl (sub_cons rfl (sub_cons rfl (sub_cons rfl (sub_cons rfl (sub_cons rfl (sub_cons rfl (sub_cons rfl (sub_cons rfl (sub_cons rfl sub_nil)))))))))))))))))))
              case hi_119 => omega
              case hm_119 => omega
            · try simp only [decide_eq_true_eq, decide_eq_false_iff_not, Bool.not_eq_true', Bool.not_eq_false', Bool.not_eq_eq_eq_not, Bool.not_true, Bool.not_false, ne_eq, Decidable.not_not, Classical.not_not] at hc5
              refine gc_exit ?_
              refine gk_then_exit ?_
              refine gk_then_exit ?_
              refine gk_block_hit ?_
              refine gk_then (hK111 _ _ ?_)
              refine gc_region ?_
              refine g_v (.free rfl) rfl rfl (qt_field (z := 0) (off := 4) rfl rfl Try.underlying28 rfl (by kernel_rfl) rfl) ?_
              refine g_v (.free rfl) rfl rfl (qt_loadB (n := 2) rfl rfl Try.underlying23 rfl rfl rfl) ?_
              refine g_v (.free rfl) rfl rfl (qt_move rfl rfl) ?_
              refine g_op (.free rfl) fun K121 hK121 => ?_
              refine go_sliceR1 (m := 10) rfl rfl rfl rfl Try.underlying23 rfl ?_
              intro B120
              refine hK121 _ _ ?_
              refine g_op (.free rfl) fun K123 hK123 => ?_
              refine go_appendRow (n := 7) (m := 10) (m' := 9) rfl rfl rfl Try.underlying23 rfl rfl rfl rfl rfl (by omega) ?_
              intro va122 vc122
              refine hK123 _ _ ?_
              refine g_v (.free rfl) rfl rfl (qt_field (z := 0) (off := 4) rfl rfl Try.underlying28 rfl (by kernel_rfl) rfl) ?_
              refine g_op (.free rfl) fun K124 hK124 => ?_
              refine go_storeB (n := 2) rfl rfl rfl rfl (by kernel_rfl) rfl rfl rfl (by first | decide | simp) ?_
              refine hK124 _ _ ?_
              refine g_nil ?_
              refine gk_block ?_
              refine gk_then (hK38 _ _ ?_)
              refine gc_region ?_
              refine g_v (.free rfl) rfl rfl (qt_add rfl rfl rfl (by omega)) ?_
              refine g_v (.free rfl) rfl rfl (qt_move rfl rfl) ?_
              refine g_nil ?_
              obtain rfl : l = xs.length := by omega
              simp only [fillTo_end, rowsTo_succ]
              refine gk_then (gk_take 8 ?_)
              refine gk_sub ?hs_125 (hKL35 (k + 1, _, _, _, _, _, _, _) ?hi_125 ?hm_125)
              case hs_125 => exact (sub_cons rfl (sub_cons rfl (sub_cons rfl (sub_cons rfl (sub_cons rfl (sub_cons rfl (sub_cons rfl (sub_cons rfl (sub_cons rfl (sub_cons rfl (sub_cons rfl (sub_cons rfl (sub_cons rfl sub_nil)))))))))))))
              case hi_125 => omega
              case hm_125 => omega
      · refine go_q rfl rfl (qt_call rfl Try.func95 rfl (by decide) rfl (fun w M => placeIn_any w _ _ _ ((mem_own1 (n := 3) M rfl).rd))) ?_
        refine hK41 _ _ (fun w M => (mem_erase 2 (mem_erase 5 (mem_take 8 M)) :)) ?_
        refine ga_two 1 9 (by kernel_rfl) rfl rfl (.free rfl) (.free rfl) (fun K127 hK127 => ?_) (fun K127 hK127 => ?_)
        · refine go_v rfl rfl (qt_loadB (n := 2) rfl rfl Try.underlying22 rfl rfl rfl) ?_
          refine hK127 _ _ (fun w M => (mem_erase 2 (mem_erase 5 (mem_take 8 M)) :)) ?_
          refine ga_op 9 (by kernel_rfl) rfl (.free rfl) fun K130 hK130 => ?_
          refine go_slice1 rfl rfl rfl rfl Try.underlying22 ?_
          intro B129
          refine hK130 _ _ (fun w M => (mem_erase 2 (mem_erase 5 (mem_take 8 M)) :)) ?_
          refine ga_op 10 (by kernel_rfl) rfl (.free rfl) fun K132 hK132 => ?_
          refine go_append (n := 5) (m := 8) rfl rfl rfl Try.underlying22 rfl rfl rfl rfl (by omega) ?_
          intro va131 vc131
          refine hK132 _ _ (fun w M => (mem_erase 2 (mem_erase 5 (mem_take 8 M)) :)) ?_
          refine ga_v 11 rfl (by kernel_rfl) (by kernel_rfl) (by kernel_rfl) (.free rfl) rfl rfl (qt_field (z := 0) (off := 1) rfl rfl Try.underlying28 rfl (by kernel_rfl) rfl) (fun _ _ _ h => h) ?_
          refine ga_op 12 (by kernel_rfl) rfl (.free rfl) fun K133 hK133 => ?_
          refine go_storeB (n := 2) rfl rfl rfl rfl (by kernel_rfl) rfl rfl rfl (by first | decide | simp) ?_
          refine hK133 _ _ (fun w M => (mem_erase 2 (mem_erase 5 (mem_take 8 M)) :)) ?_
          refine ga_done (by kernel_rfl) ?_
          refine gk_then (hK40 _ _ ?_)
          refine gc_seq fun K134 hK134 => ?_
          try simp only [List.nil_append, List.cons_append, List.append_assoc, List.set_cons_succ, List.set_cons_zero]
          refine ga_start _ (fun w M => mem_erase 2 (mem_erase 6 (M))) ?_
          refine ga_v 0 rfl (by kernel_rfl) (by kernel_rfl) (by kernel_rfl) (.free rfl) rfl rfl (qt_field (z := 0) (off := 2) rfl rfl Try.underlying28 rfl (by kernel_rfl) rfl) (fun _ _ _ h => h) ?_
          refine ga_v 2 rfl (by kernel_rfl) (by kernel_rfl) (by kernel_rfl) (.free rfl) rfl rfl (qt_move rfl rfl) (fun _ _ _ h => h) ?_
          refine ga_v 3 rfl (by kernel_rfl) (by kernel_rfl) (by kernel_rfl) (.free rfl) rfl rfl (qt_field (z := 0) (off := 2) rfl rfl Try.underlying28 rfl (by kernel_rfl) rfl) (fun _ _ _ h => h) ?_
          refine ga_v 4 rfl (by kernel_rfl) (by kernel_rfl) (by kernel_rfl) (.free rfl) rfl rfl (qt_loadB (n := 0) rfl rfl Try.underlying22 rfl rfl rfl) (fun _ _ _ h => h) ?_
          refine ga_v 5 rfl (by kernel_rfl) (by kernel_rfl) (by kernel_rfl) (.free rfl) rfl rfl (qt_move rfl rfl) (fun _ _ _ h => h) ?_
          refine ga_v 6 rfl (by kernel_rfl) (by kernel_rfl) (by kernel_rfl) (.free rfl) rfl rfl (qt_index rfl rfl rfl ulE1 szE1 (fun w M => lenA_rd h2) (by omega) (by omega)) (fun _ _ _ h => h) ?_
          refine ga_v 7 rfl (by kernel_rfl) (by kernel_rfl) (by kernel_rfl) (.free rfl) rfl rfl (qt_load1 rfl rfl Try.underlying2 rfl (fun w M => mem_rd M h2) (by omega) (by omega)) (fun _ _ _ h => h) ?_
          refine ga_two 1 8 (by kernel_rfl) rfl rfl (.free rfl) (.free rfl) (fun K135 hK135 => ?_) (fun K135 hK135 => ?_)
          · refine go_v rfl rfl (qt_loadB (n := 2) rfl rfl Try.underlying22 rfl rfl rfl) ?_
            refine hK135 _ _ (fun w M => (mem_erase 2 (mem_erase 6 (mem_take 9 M)) :)) ?_
            refine ga_op 8 (by kernel_rfl) rfl (.free rfl) fun K137 hK137 => ?_
            refine go_q rfl rfl (qt_call rfl Try.func95 rfl (by decide) rfl (fun w M => placeIn_any w _ _ _ ((mem_own1 (n := 3) M rfl).rd))) ?_
            refine hK137 _ _ (fun w M => (mem_erase 2 (mem_erase 6 (mem_take 9 M)) :)) ?_
            refine ga_op 9 (by kernel_rfl) rfl (.free rfl) fun K139 hK139 => ?_
            refine go_slice1 rfl rfl rfl rfl Try.underlying22 ?_
            intro B138
            refine hK139 _ _ (fun w M => (mem_erase 2 (mem_erase 6 (mem_take 9 M)) :)) ?_
            refine ga_op 10 (by kernel_rfl) rfl (.free rfl) fun K141 hK141 => ?_
            refine go_append (n := 6) (m := 9) rfl rfl rfl Try.underlying22 rfl rfl rfl rfl (by omega) ?_
            intro va140 vc140
            refine hK141 _ _ (fun w M => (mem_erase 2 (mem_erase 6 (mem_take 9 M)) :)) ?_
            refine ga_v 11 rfl (by kernel_rfl) (by kernel_rfl) (by kernel_rfl) (.free rfl) rfl rfl (qt_field (z := 0) (off := 2) rfl rfl Try.underlying28 rfl (by kernel_rfl) rfl) (fun _ _ _ h => h) ?_
            refine ga_op 12 (by kernel_rfl) rfl (.free rfl) fun K142 hK142 => ?_
            refine go_storeB (n := 2) rfl rfl rfl rfl (by kernel_rfl) rfl rfl rfl (by first | decide | simp) ?_
            refine hK142 _ _ (fun w M => (mem_erase 2 (mem_erase 6 (mem_take 9 M)) :)) ?_
            refine ga_done (by kernel_rfl) ?_
            refine gk_then (hK134 _ _ ?_)
            refine gc_seq fun K143 hK143 => ?_
            refine gc_region ?_
            refine g_v (.free rfl) rfl rfl (qt_move rfl rfl) ?_
            refine g_v (.free rfl) rfl rfl (qt_len rfl rfl ulE1 (fun w M => lenV_rd hu)) ?_
            refine g_op (.free rfl) fun K145 hK145 => ?_
            refine go_make1 rfl rfl rfl Try.underlying22 rfl rfl (by omega) ?_
            intro B144
            refine hK145 _ _ ?_
            refine g_v (.free rfl) rfl rfl (qt_assign rfl rfl) ?_
            refine g_nil ?_
            refine gk_then (hK143 _ _ ?_)
            refine gc_seq fun K146 hK146 => ?_
            refine gc_seq fun K147 hK147 => ?_
            refine gc_region ?_
            refine g_v (.free rfl) rfl rfl (qt_move rfl rfl) ?_
            refine g_v (.free rfl) rfl rfl (qt_len rfl rfl ulE1 (fun w M => lenV_rd hu)) ?_
            refine g_v (.free rfl) rfl rfl (qt_move rfl rfl) ?_
            refine g_nil ?_
            refine gk_then (hK147 _ _ ?_)
            refine gc_block ?_
            simp only [tabTo_succ]
            rw [fillTo_zero (fun j => idxI xs (c.th (at0 xs (k : Int)) (at0 xs (j : Int)))) xs.length]
            try simp only [List.nil_append, List.cons_append, List.append_assoc, List.set_cons_succ, List.set_cons_zero]
            refine gc_loop ([(0, _), (1, _), (2, _), (4, _), (5, _), (6, _), (11, _), (12, _), (16, _), (17, _), (18, _), (19, _), (42, _), (43, _), (44, _), (45, _), (75, _), (76, _)] : Env) (fun s : Nat => (fun (l : Nat) => ([(77, .int .i64 (l : Int))] : Env)) s) (fun s : Nat => (fun (l : Nat) => ([(10, own1I (.slice (some ⟨B144, 0, none⟩) xs.length xs.length) (fillTo (fun j => idxI xs (c.th (at0 xs (k : Int)) (at0 xs (j : Int)))) xs.length l))] : List (Nat × Itm))) s) (fun s : Nat => (fun (l : Nat) => l ≤ xs.length) s) (fun s : Nat => (fun (l : Nat) => xs.length - l) s) (0) (sub_cons rfl (sub_cons rfl (sub_cons rfl (sub_cons rfl (sub_cons rfl (sub_cons rfl (sub_cons rfl (sub_cons rfl (sub_cons rfl (sub_cons rfl (sub_cons rfl (sub_cons rfl (sub_cons rfl (sub_cons rfl (sub_cons rfl (sub_cons rfl (sub_cons rfl (sub_cons rfl (sub_cons rfl sub_nil))))))))))))))))))) rfl (Nat.zero_le _) ?_
            rintro l hinv KL148 hKL148
            simp only [updL, List.foldl_cons, List.foldl_nil, List.set_cons_succ, List.set_cons_zero, List.cons_append, List.nil_append] at hinv hKL148 ⊢
            have hl3 := hinv
            have hl4 := fillTo_len (fun j => idxI xs (c.th (at0 xs (k : Int)) (at0 xs (j : Int)))) xs.length l
            refine gc_seq fun K149 hK149 => ?_
            refine gc_region ?_
            refine g_v (.free rfl) rfl rfl (qt_lss rfl rfl rfl) ?_
            refine g_nil ?_
            refine gk_then (hK149 _ _ ?_)
            refine gc_seq fun K150 hK150 => ?_
            refine gc_cond rfl (fun hc6 => ?_) (fun hc6 => ?_)
            · try simp only [decide_eq_true_eq, decide_eq_false_iff_not, Bool.not_eq_true', Bool.not_eq_false', Bool.not_eq_eq_eq_not, Bool.not_true, Bool.not_false, ne_eq, Decidable.not_not, Classical.not_not] at hc6
              refine gc_skip ?_
              refine gk_then (hK150 _ _ ?_)
              refine gc_seq fun K151 hK151 => ?_
              refine gc_block ?_
              refine gc_seq fun K152 hK152 => ?_
              refine gc_region ?_
              refine g_v (.free rfl) rfl rfl (qt_move rfl rfl) ?_
              refine g_v (.free rfl) rfl rfl (qt_index rfl rfl rfl ulE1 szE1 (fun w M => lenA_rd hu) (by omega) (by omega)) ?_
              refine g_v (.free rfl) rfl rfl (qt_load1 rfl rfl Try.underlying2 rfl (fun w M => mem_rd M hu) (by omega) (by omega)) ?_
              refine g_v (.free rfl) rfl rfl (qt_assign rfl rfl) ?_
              refine g_v (.free rfl) rfl rfl (qt_assign rfl rfl) ?_
              refine g_nil ?_
              refine gk_then (hK152 _ _ ?_)
              have hk1 := allP_k hx (k := k) (by omega)
              have hA := arrP hS hk1.1 hk1.2
              have a0 := hk1.1; have a1 := hk1.2; have a2 := hA.fs; have a3 := hA.fm; have a4 := hA.row; have a5 := hA.ft
              have hl1 := allP_k hx (k := l) (by omega)
              have b0 := hl1.1; have b1 := hl1.2
              refine gc_region ?_
              refine g_v (.free rfl) rfl rfl (qt_move rfl rfl) ?_
              refine g_v (.free rfl) rfl rfl (qt_move rfl rfl) ?_
              refine g_v (.free rfl) rfl rfl (qt_move rfl rfl) ?_
              refine g_v (.free rfl) rfl rfl (qt_loadS (n := 0) rfl rfl Try.underlying28 rfl (by kernel_rfl) rfl) ?_
              refine g_v (.free rfl) rfl rfl (qt_move rfl rfl) ?_
              refine g_v (.free rfl) rfl rfl (qt_move rfl rfl) ?_
              refine g_q (.free rfl) rfl rfl (qt_call rfl Try.func60 rfl (by decide) rfl (fun w M => then_any w _ _ _ _ (mem_rdC M h0) (by first | assumption | omega) (by first | assumption | omega) (by first | assumption | omega) (by first | assumption | omega))) ?_
              refine g_q (.free rfl) rfl rfl (qt_call rfl Try.func95 rfl (by decide) rfl (fun w M => placeIn_any w _ _ _ (mem_rd M hu))) ?_
              refine g_v (.free rfl) rfl rfl (qt_index rfl rfl rfl ulE1 szE1 (fun w M => lenA_own1 (n := 10) rfl M) (by omega) (by omega)) ?_
              refine g_op (.free rfl) fun K153 hK153 => ?_
              refine go_store1 (n := 10) rfl rfl rfl rfl (by kernel_rfl) rfl (by omega) (by omega) ?_
              refine hK153 _ _ ?_
              refine g_nil ?_
              refine gk_block ?_
              refine gk_then (hK151 _ _ ?_)
              refine gc_region ?_
              refine g_v (.free rfl) rfl rfl (qt_add rfl rfl rfl (by omega)) ?_
              refine g_v (.free rfl) rfl rfl (qt_move rfl rfl) ?_
              refine g_nil ?_
              rw [fillTo_set (fun j => idxI xs (c.th (at0 xs (k : Int)) (at0 xs (j : Int)))) (by omega)]
              refine gk_then (gk_take 11 ?_)
              refine gk_sub ?hs_154 (hKL148 (l + 1) ?hi_154 ?hm_154)
              case hs_154 => exact (sub_cons rfl (sub_cons rfl (sub_cons rfl (sub_cons rfl (sub_cons rfl (sub_cons rfl (sub_cons rfl (sub_cons rfl (sub_cons rfl (sub_cons rfl (sub_cons rfl (sub_cons rfl (sub_cons rfl (sub_cons rfl (sub_cons rfl (sub_cons rfl (sub_cons rfl (sub_cons rfl (sub_cons rfl sub_nil)))))))))))))))))))
              case hi_154 => omega
              case hm_154 => omega
            · try simp only [decide_eq_true_eq, decide_eq_false_iff_not, Bool.not_eq_true', Bool.not_eq_false', Bool.not_eq_eq_eq_not, Bool.not_true, Bool.not_false, ne_eq, Decidable.not_not, Classical.not_not] at hc6
              refine gc_exit ?_
              refine gk_then_exit ?_
              refine gk_then_exit ?_
              refine gk_block_hit ?_
              refine gk_then (hK146 _ _ ?_)
              refine gc_region ?_
              refine g_v (.free rfl) rfl rfl (qt_field (z := 0) (off := 4) rfl rfl Try.underlying28 rfl (by kernel_rfl) rfl) ?_
              refine g_v (.free rfl) rfl rfl (qt_loadB (n := 2) rfl rfl Try.underlying23 rfl rfl rfl) ?_
              refine g_v (.free rfl) rfl rfl (qt_move rfl rfl) ?_
              refine g_op (.free rfl) fun K156 hK156 => ?_
              refine go_sliceR1 (m := 10) rfl rfl rfl rfl Try.underlying23 rfl ?_
              intro B155
              refine hK156 _ _ ?_
              refine g_op (.free rfl) fun K158 hK158 => ?_
              refine go_appendRow (n := 7) (m := 10) (m' := 9) rfl rfl rfl Try.underlying23 rfl rfl rfl rfl rfl (by omega) ?_
              intro va157 vc157
              refine hK158 _ _ ?_
              refine g_v (.free rfl) rfl rfl (qt_field (z := 0) (off := 4) rfl rfl Try.underlying28 rfl (by kernel_rfl) rfl) ?_
              refine g_op (.free rfl) fun K159 hK159 => ?_
              refine go_storeB (n := 2) rfl rfl rfl rfl (by kernel_rfl) rfl rfl rfl (by first | decide | simp) ?_
              refine hK159 _ _ ?_
              refine g_nil ?_
              refine gk_block ?_
              refine gk_then (hK38 _ _ ?_)
              refine gc_region ?_
              refine g_v (.free rfl) rfl rfl (qt_add rfl rfl rfl (by omega)) ?_
              refine g_v (.free rfl) rfl rfl (qt_move rfl rfl) ?_
              refine g_nil ?_
              obtain rfl : l = xs.length := by omega
              simp only [fillTo_end, rowsTo_succ]
              refine gk_then (gk_take 8 ?_)
              refine gk_sub ?hs_160 (hKL35 (k + 1, _, _, _, _, _, _, _) ?hi_160 ?hm_160)
              case hs_160 => exact (sub_cons rfl (sub_cons rfl (sub_cons rfl (sub_cons rfl (sub_cons rfl (sub_cons rfl (sub_cons rfl (sub_cons rfl (sub_cons rfl (sub_cons rfl (sub_cons rfl (sub_cons rfl (sub_cons rfl sub_nil)))))))))))))
              case hi_160 => omega
              case hm_160 => omega
          · refine go_q rfl rfl (qt_call rfl Try.func95 rfl (by decide) rfl (fun w M => placeIn_any w _ _ _ ((mem_own1 (n := 3) M rfl).rd))) ?_
            refine hK135 _ _ (fun w M => (mem_erase 2 (mem_erase 6 (mem_take 9 M)) :)) ?_
            refine ga_two 1 9 (by kernel_rfl) rfl rfl (.free rfl) (.free rfl) (fun K162 hK162 => ?_) (fun K162 hK162 => ?_)
            · refine go_v rfl rfl (qt_loadB (n := 2) rfl rfl Try.underlying22 rfl rfl rfl) ?_
              refine hK162 _ _ (fun w M => (mem_erase 2 (mem_erase 6 (mem_take 9 M)) :)) ?_
              refine ga_op 9 (by kernel_rfl) rfl (.free rfl) fun K165 hK165 => ?_
              refine go_slice1 rfl rfl rfl rfl Try.underlying22 ?_
              intro B164
              refine hK165 _ _ (fun w M => (mem_erase 2 (mem_erase 6 (mem_take 9 M)) :)) ?_
              refine ga_op 10 (by kernel_rfl) rfl (.free rfl) fun K167 hK167 => ?_
              refine go_append (n := 6) (m := 9) rfl rfl rfl Try.underlying22 rfl rfl rfl rfl (by omega) ?_
              intro va166 vc166
              refine hK167 _ _ (fun w M => (mem_erase 2 (mem_erase 6 (mem_take 9 M)) :)) ?_
              refine ga_v 11 rfl (by kernel_rfl) (by kernel_rfl) (by kernel_rfl) (.free rfl) rfl rfl (qt_field (z := 0) (off := 2) rfl rfl Try.underlying28 rfl (by kernel_rfl) rfl) (fun _ _ _ h => h) ?_
              refine ga_op 12 (by kernel_rfl) rfl (.free rfl) fun K168 hK168 => ?_
              refine go_storeB (n := 2) rfl rfl rfl rfl (by kernel_rfl) rfl rfl rfl (by first | decide | simp) ?_
              refine hK168 _ _ (fun w M => (mem_erase 2 (mem_erase 6 (mem_take 9 M)) :)) ?_
              refine ga_done (by kernel_rfl) ?_
              refine gk_then (hK134 _ _ ?_)
              refine gc_seq fun K169 hK169 => ?_
              refine gc_region ?_
              refine g_v (.free rfl) rfl rfl (qt_move rfl rfl) ?_
              refine g_v (.free rfl) rfl rfl (qt_len rfl rfl ulE1 (fun w M => lenV_rd hu)) ?_
              refine g_op (.free rfl) fun K171 hK171 => ?_
              refine go_make1 rfl rfl rfl Try.underlying22 rfl rfl (by omega) ?_
              intro B170
              refine hK171 _ _ ?_
              refine g_v (.free rfl) rfl rfl (qt_assign rfl rfl) ?_
              refine g_nil ?_
              refine gk_then (hK169 _ _ ?_)
              refine gc_seq fun K172 hK172 => ?_
              refine gc_seq fun K173 hK173 => ?_
              refine gc_region ?_
              refine g_v (.free rfl) rfl rfl (qt_move rfl rfl) ?_
              refine g_v (.free rfl) rfl rfl (qt_len rfl rfl ulE1 (fun w M => lenV_rd hu)) ?_
              refine g_v (.free rfl) rfl rfl (qt_move rfl rfl) ?_
              refine g_nil ?_
              refine gk_then (hK173 _ _ ?_)
              refine gc_block ?_
              simp only [tabTo_succ]
              rw [fillTo_zero (fun j => idxI xs (c.th (at0 xs (k : Int)) (at0 xs (j : Int)))) xs.length]
              try simp only [List.nil_append, List.cons_append, List.append_assoc, List.set_cons_succ, List.set_cons_zero]
              refine gc_loop ([(0, _), (1, _), (2, _), (4, _), (5, _), (6, _), (11, _), (12, _), (16, _), (17, _), (18, _), (19, _), (42, _), (43, _), (44, _), (45, _), (75, _), (76, _)] : Env) (fun s : Nat => (fun (l : Nat) => ([(77, .int .i64 (l : Int))] : Env)) s) (fun s : Nat => (fun (l : Nat) => ([(10, own1I (.slice (some ⟨B170, 0, none⟩) xs.length xs.length) (fillTo (fun j => idxI xs (c.th (at0 xs (k : Int)) (at0 xs (j : Int)))) xs.length l))] : List (Nat × Itm))) s) (fun s : Nat => (fun (l : Nat) => l ≤ xs.length) s) (fun s : Nat => (fun (l : Nat) => xs.length - l) s) (0) (sub_cons rfl (sub_cons rfl (sub_cons rfl (sub_cons rfl (sub_cons rfl (sub_cons rfl (sub_cons rfl (sub_cons rfl (sub_cons rfl (sub_cons rfl (sub_cons rfl (sub_cons rfl (sub_cons rfl (sub_cons rfl (sub_cons rfl (sub_cons rfl (sub_cons rfl (sub_cons rfl (sub_cons rfl sub_nil))))))))))))))))))) rfl (Nat.zero_le _) ?_
              rintro l hinv KL174 hKL174
              simp only [updL, List.foldl_cons, List.foldl_nil, List.set_cons_succ, List.set_cons_zero, List.cons_append, List.nil_append] at hinv hKL174 ⊢
              have hl3 := hinv
              have hl4 := fillTo_len (fun j => idxI xs (c.th (at0 xs (k : Int)) (at0 xs (j : Int)))) xs.length l
              refine gc_seq fun K175 hK175 => ?_
              refine gc_region ?_
              refine g_v (.free rfl) rfl rfl (qt_lss rfl rfl rfl) ?_
              refine g_nil ?_
              refine gk_then (hK175 _ _ ?_)
              refine gc_seq fun K176 hK176 => ?_
              refine gc_cond rfl (fun hc7 => ?_) (fun hc7 => ?_)
              · try simp only [decide_eq_true_eq, decide_eq_false_iff_not, Bool.not_eq_true', Bool.not_eq_false', Bool.not_eq_eq_eq_not, Bool.not_true, Bool.not_false, ne_eq, Decidable.not_not, Classical.not_not] at hc7
                refine gc_skip ?_
                refine gk_then (hK176 _ _ ?_)
                refine gc_seq fun K177 hK177 => ?_
                refine gc_block ?_
                refine gc_seq fun K178 hK178 => ?_
                refine gc_region ?_
                refine g_v (.free rfl) rfl rfl (qt_move rfl rfl) ?_
                refine g_v (.free rfl) rfl rfl (qt_index rfl rfl rfl ulE1 szE1 (fun w M => lenA_rd hu) (by omega) (by omega)) ?_
                refine g_v (.free rfl) rfl rfl (qt_load1 rfl rfl Try.underlying2 rfl (fun w M => mem_rd M hu) (by omega) (by omega)) ?_
                refine g_v (.free rfl) rfl rfl (qt_assign rfl rfl) ?_
                refine g_v (.free rfl) rfl rfl (qt_assign rfl rfl) ?_
                refine g_nil ?_
                refine gk_then (hK178 _ _ ?_)
                have hk1 := allP_k hx (k := k) (by omega)
                have hA := arrP hS hk1.1 hk1.2
                have a0 := hk1.1; have a1 := hk1.2; have a2 := hA.fs; have a3 := hA.fm; have a4 := hA.row; have a5 := hA.ft
                have hl1 := allP_k hx (k := l) (by omega)
                have b0 := hl1.1; have b1 := hl1.2
                refine gc_region ?_
                refine g_v (.free rfl) rfl rfl (qt_move rfl rfl) ?_
                refine g_v (.free rfl) rfl rfl (qt_move rfl rfl) ?_
                refine g_v (.free rfl) rfl rfl (qt_move rfl rfl) ?_
                refine g_v (.free rfl) rfl rfl (qt_loadS (n := 0) rfl rfl Try.underlying28 rfl (by kernel_rfl) rfl) ?_
                refine g_v (.free rfl) rfl rfl (qt_move rfl rfl) ?_
                refine g_v (.free rfl) rfl rfl (qt_move rfl rfl) ?_
                refine g_q (.free rfl) rfl rfl (qt_call rfl Try.func60 rfl (by decide) rfl (fun w M => then_any w _ _ _ _ (mem_rdC M h0) (by first | assumption | omega) (by first | assumption | omega) (by first | assumption | omega) (by first | assumption | omega))) ?_
                refine g_q (.free rfl) rfl rfl (qt_call rfl Try.func95 rfl (by decide) rfl (fun w M => placeIn_any w _ _ _ (mem_rd M hu))) ?_
                refine g_v (.free rfl) rfl rfl (qt_index rfl rfl rfl ulE1 szE1 (fun w M => lenA_own1 (n := 10) rfl M) (by omega) (by omega)) ?_
                refine g_op (.free rfl) fun K179 hK179 => ?_
                refine go_store1 (n := 10) rfl rfl rfl rfl (by kernel_rfl) rfl (by omega) (by omega) ?_
                refine hK179 _ _ ?_
                refine g_nil ?_
                refine gk_block ?_
                refine gk_then (hK177 _ _ ?_)
                refine gc_region ?_
                refine g_v (.free rfl) rfl rfl (qt_add rfl rfl rfl (by omega)) ?_
                refine g_v (.free rfl) rfl rfl (qt_move rfl rfl) ?_
                refine g_nil ?_
                rw [fillTo_set (fun j => idxI xs (c.th (at0 xs (k : Int)) (at0 xs (j : Int)))) (by omega)]
                refine gk_then (gk_take 11 ?_)
                refine gk_sub ?hs_180 (hKL174 (l + 1) ?hi_180 ?hm_180)
                case hs_180 => exact (sub_cons rfl (sub_cons rfl (sub_cons rfl (sub_cons rfl (sub_cons rfl (sub_cons rfl (sub_cons rfl (sub_cons rfl (sub_cons rfl (sub_cons rfl (sub_cons rfl (sub_cons rfl (sub_cons rfl (sub_cons rfl (sub_cons rfl (sub_cons rfl (sub_cons rfl (sub_cons rfl (sub_cons rfl sub_nil)))))))))))))))))))
                case hi_180 => omega
                case hm_180 => omega
              · try simp only [decide_eq_true_eq, decide_eq_false_iff_not, Bool.not_eq_true', Bool.not_eq_false', Bool.not_eq_eq_eq_not, Bool.not_true, Bool.not_false, ne_eq, Decidable.not_not, Classical.not_not] at hc7
                refine gc_exit ?_
                refine gk_then_exit ?_
                refine gk_then_exit ?_
                refine gk_block_hit ?_
                refine gk_then (hK172 _ _ ?_)
                refine gc_region ?_
                refine g_v (.free rfl) rfl rfl (qt_field (z := 0) (off := 4) rfl rfl Try.underlying28 rfl (by kernel_rfl) rfl) ?_
                refine g_v (.free rfl) rfl rfl (qt_loadB (n := 2) rfl rfl Try.underlying23 rfl rfl rfl) ?_
                refine g_v (.free rfl) rfl rfl (qt_move rfl rfl) ?_
                refine g_op (.free rfl) fun K182 hK182 => ?_
                refine go_sliceR1 (m := 10) rfl rfl rfl rfl Try.underlying23 rfl ?_
                intro B181
                refine hK182 _ _ ?_
                refine g_op (.free rfl) fun K184 hK184 => ?_
                refine go_appendRow (n := 7) (m := 10) (m' := 9) rfl rfl rfl Try.underlying23 rfl rfl rfl rfl rfl (by omega) ?_
                intro va183 vc183
                refine hK184 _ _ ?_
                refine g_v (.free rfl) rfl rfl (qt_field (z := 0) (off := 4) rfl rfl Try.underlying28 rfl (by kernel_rfl) rfl) ?_
                refine g_op (.free rfl) fun K185 hK185 => ?_
                refine go_storeB (n := 2) rfl rfl rfl rfl (by kernel_rfl) rfl rfl rfl (by first | decide | simp) ?_
                refine hK185 _ _ ?_
                refine g_nil ?_
                refine gk_block ?_
                refine gk_then (hK38 _ _ ?_)
                refine gc_region ?_
                refine g_v (.free rfl) rfl rfl (qt_add rfl rfl rfl (by omega)) ?_
                refine g_v (.free rfl) rfl rfl (qt_move rfl rfl) ?_
                refine g_nil ?_
                obtain rfl : l = xs.length := by omega
                simp only [fillTo_end, rowsTo_succ]
                refine gk_then (gk_take 8 ?_)
                refine gk_sub ?hs_186 (hKL35 (k + 1, _, _, _, _, _, _, _) ?hi_186 ?hm_186)
                case hs_186 => exact (sub_cons rfl (sub_cons rfl (sub_cons rfl (sub_cons rfl (sub_cons rfl (sub_cons rfl (sub_cons rfl (sub_cons rfl (sub_cons rfl (sub_cons rfl (sub_cons rfl (sub_cons rfl (sub_cons rfl sub_nil)))))))))))))
                case hi_186 => omega
                case hm_186 => omega
            · refine go_slice1 rfl rfl rfl rfl Try.underlying22 ?_
              intro B187
              refine hK162 _ _ (fun w M => (mem_erase 2 (mem_erase 6 (mem_take 9 M)) :)) ?_
              refine ga_op 1 (by kernel_rfl) rfl (.free rfl) fun K189 hK189 => ?_
              refine go_v rfl rfl (qt_loadB (n := 2) rfl rfl Try.underlying22 rfl rfl rfl) ?_
              refine hK189 _ _ (fun w M => (mem_erase 2 (mem_erase 6 (mem_take 9 M)) :)) ?_
              refine ga_op 10 (by kernel_rfl) rfl (.free rfl) fun K191 hK191 => ?_
              refine go_append (n := 6) (m := 9) rfl rfl rfl Try.underlying22 rfl rfl rfl rfl (by omega) ?_
              intro va190 vc190
              refine hK191 _ _ (fun w M => (mem_erase 2 (mem_erase 6 (mem_take 9 M)) :)) ?_
              refine ga_v 11 rfl (by kernel_rfl) (by kernel_rfl) (by kernel_rfl) (.free rfl) rfl rfl (qt_field (z := 0) (off := 2) rfl rfl Try.underlying28 rfl (by kernel_rfl) rfl) (fun _ _ _ h => h) ?_
              refine ga_op 12 (by kernel_rfl) rfl (.free rfl) fun K192 hK192 => ?_
              refine go_storeB (n := 2) rfl rfl rfl rfl (by kernel_rfl) rfl rfl rfl (by first | decide | simp) ?_
              refine hK192 _ _ (fun w M => (mem_erase 2 (mem_erase 6 (mem_take 9 M)) :)) ?_
              refine ga_done (by kernel_rfl) ?_
              refine gk_then (hK134 _ _ ?_)
              refine gc_seq fun K193 hK193 => ?_
              refine gc_region ?_
              refine g_v (.free rfl) rfl rfl (qt_move rfl rfl) ?_
              refine g_v (.free rfl) rfl rfl (qt_len rfl rfl ulE1 (fun w M => lenV_rd hu)) ?_
              refine g_op (.free rfl) fun K195 hK195 => ?_
              refine go_make1 rfl rfl rfl Try.underlying22 rfl rfl (by omega) ?_
              intro B194
              refine hK195 _ _ ?_
              refine g_v (.free rfl) rfl rfl (qt_assign rfl rfl) ?_
              refine g_nil ?_
              refine gk_then (hK193 _ _ ?_)
              refine gc_seq fun K196 hK196 => ?_
              refine gc_seq fun K197 hK197 => ?_
              refine gc_region ?_
              refine g_v (.free rfl) rfl rfl (qt_move rfl rfl) ?_
              refine g_v (.free rfl) rfl rfl (qt_len rfl rfl ulE1 (fun w M => lenV_rd hu)) ?_
              refine g_v (.free rfl) rfl rfl (qt_move rfl rfl) ?_
              refine g_nil ?_
              refine gk_then (hK197 _ _ ?_)
              refine gc_block ?_
              simp only [tabTo_succ]
              rw [fillTo_zero (fun j => idxI xs (c.th (at0 xs (k : Int)) (at0 xs (j : Int)))) xs.length]
              try simp only [List.nil_append, List.cons_append, List.append_assoc, List.set_cons_succ, List.set_cons_zero]
              refine gc_loop ([(0, _), (1, _), (2, _), (4, _), (5, _), (6, _), (11, _), (12, _), (16, _), (17, _), (18, _), (19, _), (42, _), (43, _), (44, _), (45, _), (75, _), (76, _)] : Env) (fun s : Nat => (fun (l : Nat) => ([(77, .int .i64 (l : Int))] : Env)) s) (fun s : Nat => (fun (l : Nat) => ([(10, own1I (.slice (some ⟨B194, 0, none⟩) xs.length xs.length) (fillTo (fun j => idxI xs (c.th (at0 xs (k : Int)) (at0 xs (j : Int)))) xs.length l))] : List (Nat × Itm))) s) (fun s : Nat => (fun (l : Nat) => l ≤ xs.length) s) (fun s : Nat => (fun (l : Nat) => xs.length - l) s) (0) (sub_cons rfl (sub_cons rfl (sub_cons rfl (sub_cons rfl (sub_cons rfl (sub_cons rfl (sub_cons rfl (sub_cons rfl (sub_cons rfl (sub_cons rfl (sub_cons rfl (sub_cons rfl (sub_cons rfl (sub_cons rfl (sub_cons rfl (sub_cons rfl (sub_cons rfl (sub_cons rfl (sub_cons rfl sub_nil))))))))))))))))))) rfl (Nat.zero_le _) ?_
              rintro l hinv KL198 hKL198
              simp only [updL, List.foldl_cons, List.foldl_nil, List.set_cons_succ, List.set_cons_zero, List.cons_append, List.nil_append] at hinv hKL198 ⊢
              have hl3 := hinv
              have hl4 := fillTo_len (fun j => idxI xs (c.th (at0 xs (k : Int)) (at0 xs (j : Int)))) xs.length l
              refine gc_seq fun K199 hK199 => ?_
              refine gc_region ?_
              refine g_v (.free rfl) rfl rfl (qt_lss rfl rfl rfl) ?_
              refine g_nil ?_
              refine gk_then (hK199 _ _ ?_)
              refine gc_seq fun K200 hK200 => ?_
              refine gc_cond rfl (fun hc8 => ?_) (fun hc8 => ?_)
              · try simp only [decide_eq_true_eq, decide_eq_false_iff_not, Bool.not_eq_true', Bool.not_eq_false', Bool.not_eq_eq_eq_not, Bool.not_true, Bool.not_false, ne_eq, Decidable.not_not, Classical.not_not] at hc8
                refine gc_skip ?_
                refine gk_then (hK200 _ _ ?_)
                refine gc_seq fun K201 hK201 => ?_
                refine gc_block ?_
                refine gc_seq fun K202 hK202 => ?_
                refine gc_region ?_
                refine g_v (.free rfl) rfl rfl (qt_move rfl rfl) ?_
                refine g_v (.free rfl) rfl rfl (qt_index rfl rfl rfl ulE1 szE1 (fun w M => lenA_rd hu) (by omega) (by omega)) ?_
                refine g_v (.free rfl) rfl rfl (qt_load1 rfl rfl Try.underlying2 rfl (fun w M => mem_rd M hu) (by omega) (by omega)) ?_
                refine g_v (.free rfl) rfl rfl (qt_assign rfl rfl) ?_
                refine g_v (.free rfl) rfl rfl (qt_assign rfl rfl) ?_
                refine g_nil ?_
                refine gk_then (hK202 _ _ ?_)
                have hk1 := allP_k hx (k := k) (by omega)
                have hA := arrP hS hk1.1 hk1.2
                have a0 := hk1.1; have a1 := hk1.2; have a2 := hA.fs; have a3 := hA.fm; have a4 := hA.row; have a5 := hA.ft
                have hl1 := allP_k hx (k := l) (by omega)
                have b0 := hl1.1; have b1 := hl1.2
                refine gc_region ?_
                refine g_v (.free rfl) rfl rfl (qt_move rfl rfl) ?_
                refine g_v (.free rfl) rfl rfl (qt_move rfl rfl) ?_
                refine g_v (.free rfl) rfl rfl (qt_move rfl rfl) ?_
                refine g_v (.free rfl) rfl rfl (qt_loadS (n := 0) rfl rfl Try.underlying28 rfl (by kernel_rfl) rfl) ?_
                refine g_v (.free rfl) rfl rfl (qt_move rfl rfl) ?_
                refine g_v (.free rfl) rfl rfl (qt_move rfl rfl) ?_
                refine g_q (.free rfl) rfl rfl (qt_call rfl Try.func60 rfl (by decide) rfl (fun w M => then_any w _ _ _ _ (mem_rdC M h0) (by first | assumption | omega) (by first | assumption | omega) (by first | assumption | omega) (by first | assumption | omega))) ?_
                refine g_q (.free rfl) rfl rfl (qt_call rfl Try.func95 rfl (by decide) rfl (fun w M => placeIn_any w _ _ _ (mem_rd M hu))) ?_
                refine g_v (.free rfl) rfl rfl (qt_index rfl rfl rfl ulE1 szE1 (fun w M => lenA_own1 (n := 10) rfl M) (by omega) (by omega)) ?_
                refine g_op (.free rfl) fun K203 hK203 => ?_
                refine go_store1 (n := 10) rfl rfl rfl rfl (by kernel_rfl) rfl (by omega) (by omega) ?_
                refine hK203 _ _ ?_
                refine g_nil ?_
                refine gk_block ?_
                refine gk_then (hK201 _ _ ?_)
                refine gc_region ?_
                refine g_v (.free rfl) rfl rfl (qt_add rfl rfl rfl (by omega)) ?_
                refine g_v (.free rfl) rfl rfl (qt_move rfl rfl) ?_
                refine g_nil ?_
                rw [fillTo_set (fun j => idxI xs (c.th (at0 xs (k : Int)) (at0 xs (j : Int)))) (by omega)]
                refine gk_then (gk_take 11 ?_)
                refine gk_sub ?hs_204 (hKL198 (l + 1) ?hi_204 ?hm_204)
                case hs_204 => exact (sub_cons rfl (sub_cons rfl (sub_cons rfl (sub_cons rfl (sub_cons rfl (sub_cons rfl (sub_cons rfl (sub_cons rfl (sub_cons rfl (sub_cons rfl (sub_cons rfl (sub_cons rfl (sub_cons rfl (sub_cons rfl (sub_cons rfl (sub_cons rfl (sub_cons rfl (sub_cons rfl (sub_cons rfl sub_nil)))))))))))))))))))
                case hi_204 => omega
                case hm_204 => omega
              · try simp only [decide_eq_true_eq, decide_eq_false_iff_not, Bool.not_eq_true', Bool.not_eq_false', Bool.not_eq_eq_eq_not, Bool.not_true, Bool.not_false, ne_eq, Decidable.not_not, Classical.not_not] at hc8
                refine gc_exit ?_
                refine gk_then_exit ?_
                refine gk_then_exit ?_
                refine gk_block_hit ?_
                refine gk_then (hK196 _ _ ?_)
                refine gc_region ?_
                refine g_v (.free rfl) rfl rfl (qt_field (z := 0) (off := 4) rfl rfl Try.underlying28 rfl (by kernel_rfl) rfl) ?_
                refine g_v (.free rfl) rfl rfl (qt_loadB (n := 2) rfl rfl Try.underlying23 rfl rfl rfl) ?_
                refine g_v (.free rfl) rfl rfl (qt_move rfl rfl) ?_
                refine g_op (.free rfl) fun K206 hK206 => ?_
                refine go_sliceR1 (m := 10) rfl rfl rfl rfl Try.underlying23 rfl ?_
                intro B205
                refine hK206 _ _ ?_
                refine g_op (.free rfl) fun K208 hK208 => ?_
                refine go_appendRow (n := 7) (m := 10) (m' := 9) rfl rfl rfl Try.underlying23 rfl rfl rfl rfl rfl (by omega) ?_
                intro va207 vc207
                refine hK208 _ _ ?_
                refine g_v (.free rfl) rfl rfl (qt_field (z := 0) (off := 4) rfl rfl Try.underlying28 rfl (by kernel_rfl) rfl) ?_
                refine g_op (.free rfl) fun K209 hK209 => ?_
                refine go_storeB (n := 2) rfl rfl rfl rfl (by kernel_rfl) rfl rfl rfl (by first | decide | simp) ?_
                refine hK209 _ _ ?_
                refine g_nil ?_
                refine gk_block ?_
                refine gk_then (hK38 _ _ ?_)
                refine gc_region ?_
                refine g_v (.free rfl) rfl rfl (qt_add rfl rfl rfl (by omega)) ?_
                refine g_v (.free rfl) rfl rfl (qt_move rfl rfl) ?_
                refine g_nil ?_
                obtain rfl : l = xs.length := by omega
                simp only [fillTo_end, rowsTo_succ]
                refine gk_then (gk_take 8 ?_)
                refine gk_sub ?hs_210 (hKL35 (k + 1, _, _, _, _, _, _, _) ?hi_210 ?hm_210)
                case hs_210 => exact (sub_cons rfl (sub_cons rfl (sub_cons rfl (sub_cons rfl (sub_cons rfl (sub_cons rfl (sub_cons rfl (sub_cons rfl (sub_cons rfl (sub_cons rfl (sub_cons rfl (sub_cons rfl (sub_cons rfl sub_nil)))))))))))))
                case hi_210 => omega
                case hm_210 => omega
        · refine go_slice1 rfl rfl rfl rfl Try.underlying22 ?_
          intro B211
          refine hK127 _ _ (fun w M => (mem_erase 2 (mem_erase 5 (mem_take 8 M)) :)) ?_
          refine ga_op 1 (by kernel_rfl) rfl (.free rfl) fun K213 hK213 => ?_
          refine go_v rfl rfl (qt_loadB (n := 2) rfl rfl Try.underlying22 rfl rfl rfl) ?_
          refine hK213 _ _ (fun w M => (mem_erase 2 (mem_erase 5 (mem_take 8 M)) :)) ?_
          refine ga_op 10 (by kernel_rfl) rfl (.free rfl) fun K215 hK215 => ?_
          refine go_append (n := 5) (m := 8) rfl rfl rfl Try.underlying22 rfl rfl rfl rfl (by omega) ?_
          intro va214 vc214
          refine hK215 _ _ (fun w M => (mem_erase 2 (mem_erase 5 (mem_take 8 M)) :)) ?_
          refine ga_v 11 rfl (by kernel_rfl) (by kernel_rfl) (by kernel_rfl) (.free rfl) rfl rfl (qt_field (z := 0) (off := 1) rfl rfl Try.underlying28 rfl (by kernel_rfl) rfl) (fun _ _ _ h => h) ?_
          refine ga_op 12 (by kernel_rfl) rfl (.free rfl) fun K216 hK216 => ?_
          refine go_storeB (n := 2) rfl rfl rfl rfl (by kernel_rfl) rfl rfl rfl (by first | decide | simp) ?_
          refine hK216 _ _ (fun w M => (mem_erase 2 (mem_erase 5 (mem_take 8 M)) :)) ?_
          refine ga_done (by kernel_rfl) ?_
          refine gk_then (hK40 _ _ ?_)
          refine gc_seq fun K217 hK217 => ?_
          try simp only [List.nil_append, List.cons_append, List.append_assoc, List.set_cons_succ, List.set_cons_zero]
          refine ga_start _ (fun w M => mem_erase 2 (mem_erase 6 (M))) ?_
          refine ga_v 0 rfl (by kernel_rfl) (by kernel_rfl) (by kernel_rfl) (.free rfl) rfl rfl (qt_field (z := 0) (off := 2) rfl rfl Try.underlying28 rfl (by kernel_rfl) rfl) (fun _ _ _ h => h) ?_
          refine ga_v 2 rfl (by kernel_rfl) (by kernel_rfl) (by kernel_rfl) (.free rfl) rfl rfl (qt_move rfl rfl) (fun _ _ _ h => h) ?_
          refine ga_v 3 rfl (by kernel_rfl) (by kernel_rfl) (by kernel_rfl) (.free rfl) rfl rfl (qt_field (z := 0) (off := 2) rfl rfl Try.underlying28 rfl (by kernel_rfl) rfl) (fun _ _ _ h => h) ?_
          refine ga_v 4 rfl (by kernel_rfl) (by kernel_rfl) (by kernel_rfl) (.free rfl) rfl rfl (qt_loadB (n := 0) rfl rfl Try.underlying22 rfl rfl rfl) (fun _ _ _ h => h) ?_
          refine ga_v 5 rfl (by kernel_rfl) (by kernel_rfl) (by kernel_rfl) (.free rfl) rfl rfl (qt_move rfl rfl) (fun _ _ _ h => h) ?_
          refine ga_v 6 rfl (by kernel_rfl) (by kernel_rfl) (by kernel_rfl) (.free rfl) rfl rfl (qt_index rfl rfl rfl ulE1 szE1 (fun w M => lenA_rd h2) (by omega) (by omega)) (fun _ _ _ h => h) ?_
          refine ga_v 7 rfl (by kernel_rfl) (by kernel_rfl) (by kernel_rfl) (.free rfl) rfl rfl (qt_load1 rfl rfl Try.underlying2 rfl (fun w M => mem_rd M h2) (by omega) (by omega)) (fun _ _ _ h => h) ?_
          refine ga_two 1 8 (by kernel_rfl) rfl rfl (.free rfl) (.free rfl) (fun K218 hK218 => ?_) (fun K218 hK218 => ?_)
          · refine go_v rfl rfl (qt_loadB (n := 2) rfl rfl Try.underlying22 rfl rfl rfl) ?_
            refine hK218 _ _ (fun w M => (mem_erase 2 (mem_erase 6 (mem_take 9 M)) :)) ?_
            refine ga_op 8 (by kernel_rfl) rfl (.free rfl) fun K220 hK220 => ?_
            refine go_q rfl rfl (qt_call rfl Try.func95 rfl (by decide) rfl (fun w M => placeIn_any w _ _ _ ((mem_own1 (n := 3) M rfl).rd))) ?_
            refine hK220 _ _ (fun w M => (mem_erase 2 (mem_erase 6 (mem_take 9 M)) :)) ?_
            refine ga_op 9 (by kernel_rfl) rfl (.free rfl) fun K222 hK222 => ?_
            refine go_slice1 rfl rfl rfl rfl Try.underlying22 ?_
            intro B221
            refine hK222 _ _ (fun w M => (mem_erase 2 (mem_erase 6 (mem_take 9 M)) :)) ?_
            refine ga_op 10 (by kernel_rfl) rfl (.free rfl) fun K224 hK224 => ?_
            refine go_append (n := 6) (m := 9) rfl rfl rfl Try.underlying22 rfl rfl rfl rfl (by omega) ?_
            intro va223 vc223
            refine hK224 _ _ (fun w M => (mem_erase 2 (mem_erase 6 (mem_take 9 M)) :)) ?_
            refine ga_v 11 rfl (by kernel_rfl) (by kernel_rfl) (by kernel_rfl) (.free rfl) rfl rfl (qt_field (z := 0) (off := 2) rfl rfl Try.underlying28 rfl (by kernel_rfl) rfl) (fun _ _ _ h => h) ?_
            refine ga_op 12 (by kernel_rfl) rfl (.free rfl) fun K225 hK225 => ?_
            refine go_storeB (n := 2) rfl rfl rfl rfl (by kernel_rfl) rfl rfl rfl (by first | decide | simp) ?_
            refine hK225 _ _ (fun w M => (mem_erase 2 (mem_erase 6 (mem_take 9 M)) :)) ?_
            refine ga_done (by kernel_rfl) ?_
            refine gk_then (hK217 _ _ ?_)
            refine gc_seq fun K226 hK226 => ?_
            refine gc_region ?_
            refine g_v (.free rfl) rfl rfl (qt_move rfl rfl) ?_
            refine g_v (.free rfl) rfl rfl (qt_len rfl rfl ulE1 (fun w M => lenV_rd hu)) ?_
            refine g_op (.free rfl) fun K228 hK228 => ?_
            refine go_make1 rfl rfl rfl Try.underlying22 rfl rfl (by omega) ?_
            intro B227
            refine hK228 _ _ ?_
            refine g_v (.free rfl) rfl rfl (qt_assign rfl rfl) ?_
            refine g_nil ?_
            refine gk_then (hK226 _ _ ?_)
            refine gc_seq fun K229 hK229 => ?_
            refine gc_seq fun K230 hK230 => ?_
            refine gc_region ?_
            refine g_v (.free rfl) rfl rfl (qt_move rfl rfl) ?_
            refine g_v (.free rfl) rfl rfl (qt_len rfl rfl ulE1 (fun w M => lenV_rd hu)) ?_
            refine g_v (.free rfl) rfl rfl (qt_move rfl rfl) ?_
            refine g_nil ?_
            refine gk_then (hK230 _ _ ?_)
            refine gc_block ?_
            simp only [tabTo_succ]
            rw [fillTo_zero (fun j => idxI xs (c.th (at0 xs (k : Int)) (at0 xs (j : Int)))) xs.length]
            try simp only [List.nil_append, List.cons_append, List.append_assoc, List.set_cons_succ, List.set_cons_zero]
            refine gc_loop ([(0, _), (1, _), (2, _), (4, _), (5, _), (6, _), (11, _), (12, _), (16, _), (17, _), (18, _), (19, _), (42, _), (43, _), (44, _), (45, _), (75, _), (76, _)] : Env) (fun s : Nat => (fun (l : Nat) => ([(77, .int .i64 (l : Int))] : Env)) s) (fun s : Nat => (fun (l : Nat) => ([(10, own1I (.slice (some ⟨B227, 0, none⟩) xs.length xs.length) (fillTo (fun j => idxI xs (c.th (at0 xs (k : Int)) (at0 xs (j : Int)))) xs.length l))] : List (Nat × Itm))) s) (fun s : Nat => (fun (l : Nat) => l ≤ xs.length) s) (fun s : Nat => (fun (l : Nat) => xs.length - l) s) (0) (sub_cons rfl (sub_cons rfl (sub_cons rfl (sub_cons rfl (sub_cons rfl (sub_cons rfl (sub_cons rfl (sub_cons rfl (sub_cons rfl (sub_cons rfl (sub_cons rfl (sub_cons rfl (sub_cons rfl (sub_cons rfl (sub_cons rfl (sub_cons rfl (sub_cons rfl (sub_cons rfl (sub_cons rfl sub_nil))))))))))))))))))) rfl (Nat.zero_le _) ?_
            rintro l hinv KL231 hKL231
            simp only [updL, List.foldl_cons, List.foldl_nil, List.set_cons_succ, List.set_cons_zero, List.cons_append, List.nil_append] at hinv hKL231 ⊢
            have hl3 := hinv
            have hl4 := fillTo_len (fun j => idxI xs (c.th (at0 xs (k : Int)) (at0 xs (j : Int)))) xs.length l
            refine gc_seq fun K232 hK232 => ?_
            refine gc_region ?_
            refine g_v (.free rfl) rfl rfl (qt_lss rfl rfl rfl) ?_
            refine g_nil ?_
            refine gk_then (hK232 _ _ ?_)
            refine gc_seq fun K233 hK233 => ?_
            refine gc_cond rfl (fun hc9 => ?_) (fun hc9 => ?_)
            · try simp only [decide_eq_true_eq, decide_eq_false_iff_not, Bool.not_eq_true', Bool.not_eq_false', Bool.not_eq_eq_eq_not, Bool.not_true, Bool.not_false, ne_eq, Decidable.not_not, Classical.not_not] at hc9
              refine gc_skip ?_
              refine gk_then (hK233 _ _ ?_)
              refine gc_seq fun K234 hK234 => ?_
              refine gc_block ?_
              refine gc_seq fun K235 hK235 => ?_
              refine gc_region ?_
              refine g_v (.free rfl) rfl rfl (qt_move rfl rfl) ?_
              refine g_v (.free rfl) rfl rfl (qt_index rfl rfl rfl ulE1 szE1 (fun w M => lenA_rd hu) (by omega) (by omega)) ?_
              refine g_v (.free rfl) rfl rfl (qt_load1 rfl rfl Try.underlying2 rfl (fun w M => mem_rd M hu) (by omega) (by omega)) ?_
              refine g_v (.free rfl) rfl rfl (qt_assign rfl rfl) ?_
              refine g_v (.free rfl) rfl rfl (qt_assign rfl rfl) ?_
              refine g_nil ?_
              refine gk_then (hK235 _ _ ?_)
              have hk1 := allP_k hx (k := k) (by omega)
              have hA := arrP hS hk1.1 hk1.2
              have a0 := hk1.1; have a1 := hk1.2; have a2 := hA.fs; have a3 := hA.fm; have a4 := hA.row; have a5 := hA.ft
              have hl1 := allP_k hx (k := l) (by omega)
              have b0 := hl1.1; have b1 := hl1.2
              refine gc_region ?_
              refine g_v (.free rfl) rfl rfl (qt_move rfl rfl) ?_
              refine g_v (.free rfl) rfl rfl (qt_move rfl rfl) ?_
              refine g_v (.free rfl) rfl rfl (qt_move rfl rfl) ?_
              refine g_v (.free rfl) rfl rfl (qt_loadS (n := 0) rfl rfl Try.underlying28 rfl (by kernel_rfl) rfl) ?_
              refine g_v (.free rfl) rfl rfl (qt_move rfl rfl) ?_
              refine g_v (.free rfl) rfl rfl (qt_move rfl rfl) ?_
              refine g_q (.free rfl) rfl rfl (qt_call rfl Try.func60 rfl (by decide) rfl (fun w M => then_any w _ _ _ _ (mem_rdC M h0) (by first | assumption | omega) (by first | assumption | omega) (by first | assumption | omega) (by first | assumption | omega))) ?_
              refine g_q (.free rfl) rfl rfl (qt_call rfl Try.func95 rfl (by decide) rfl (fun w M => placeIn_any w _ _ _ (mem_rd M hu))) ?_
              refine g_v (.free rfl) rfl rfl (qt_index rfl rfl rfl ulE1 szE1 (fun w M => lenA_own1 (n := 10) rfl M) (by omega) (by omega)) ?_
              refine g_op (.free rfl) fun K236 hK236 => ?_
              refine go_store1 (n := 10) rfl rfl rfl rfl (by kernel_rfl) rfl (by omega) (by omega) ?_
              refine hK236 _ _ ?_
              refine g_nil ?_
              refine gk_block ?_
              refine gk_then (hK234 _ _ ?_)
              refine gc_region ?_
              refine g_v (.free rfl) rfl rfl (qt_add rfl rfl rfl (by omega)) ?_
              refine g_v (.free rfl) rfl rfl (qt_move rfl rfl) ?_
              refine g_nil ?_
              rw [fillTo_set (fun j => idxI xs (c.th (at0 xs (k : Int)) (at0 xs (j : Int)))) (by omega)]
              refine gk_then (gk_take 11 ?_)
              refine gk_sub ?hs_237 (hKL231 (l + 1) ?hi_237 ?hm_237)
              case hs_237 => exact (sub_cons rfl (sub_cons rfl (sub_cons rfl (sub_cons rfl (sub_cons rfl (sub_cons rfl (sub_cons rfl (sub_cons rfl (sub_cons rfl (sub_cons rfl (sub_cons rfl (sub_cons rfl (sub_cons rfl (sub_cons rfl (sub_cons rfl (sub_cons rfl (sub_cons rfl (sub_cons rfl (sub_cons rfl sub_nil)))))))))))))))))))
              case hi_237 => omega
              case hm_237 => omega
            · try simp only [decide_eq_true_eq, decide_eq_false_iff_not, Bool.not_eq_true', Bool.not_eq_false', Bool.not_eq_eq_eq_not, Bool.not_true, Bool.not_false, ne_eq, Decidable.not_not, Classical.not_not] at hc9
              refine gc_exit ?_
              refine gk_then_exit ?_
              refine gk_then_exit ?_
              refine gk_block_hit ?_
              refine gk_then (hK229 _ _ ?_)
              refine gc_region ?_
              refine g_v (.free rfl) rfl rfl (qt_field (z := 0) (off := 4) rfl rfl Try.underlying28 rfl (by kernel_rfl) rfl) ?_
              refine g_v (.free rfl) rfl rfl (qt_loadB (n := 2) rfl rfl Try.underlying23 rfl rfl rfl) ?_
              refine g_v (.free rfl) rfl rfl (qt_move rfl rfl) ?_
              refine g_op (.free rfl) fun K239 hK239 => ?_
              refine go_sliceR1 (m := 10) rfl rfl rfl rfl Try.underlying23 rfl ?_
              intro B238
              refine hK239 _ _ ?_
              refine g_op (.free rfl) fun K241 hK241 => ?_
              refine go_appendRow (n := 7) (m := 10) (m' := 9) rfl rfl rfl Try.underlying23 rfl rfl rfl rfl rfl (by omega) ?_
              intro va240 vc240
              refine hK241 _ _ ?_
              refine g_v (.free rfl) rfl rfl (qt_field (z := 0) (off := 4) rfl rfl Try.underlying28 rfl (by kernel_rfl) rfl) ?_
              refine g_op (.free rfl) fun K242 hK242 => ?_
              refine go_storeB (n := 2) rfl rfl rfl rfl (by kernel_rfl) rfl rfl rfl (by first | decide | simp) ?_
              refine hK242 _ _ ?_
              refine g_nil ?_
              refine gk_block ?_
              refine gk_then (hK38 _ _ ?_)
              refine gc_region ?_
              refine g_v (.free rfl) rfl rfl (qt_add rfl rfl rfl (by omega)) ?_
              refine g_v (.free rfl) rfl rfl (qt_move rfl rfl) ?_
              refine g_nil ?_
              obtain rfl : l = xs.length := by omega
              simp only [fillTo_end, rowsTo_succ]
              refine gk_then (gk_take 8 ?_)
              refine gk_sub ?hs_243 (hKL35 (k + 1, _, _, _, _, _, _, _) ?hi_243 ?hm_243)
              case hs_243 => exact (sub_cons rfl (sub_cons rfl (sub_cons rfl (sub_cons rfl (sub_cons rfl (sub_cons rfl (sub_cons rfl (sub_cons rfl (sub_cons rfl (sub_cons rfl (sub_cons rfl (sub_cons rfl (sub_cons rfl sub_nil)))))))))))))
              case hi_243 => omega
              case hm_243 => omega
          · refine go_q rfl rfl (qt_call rfl Try.func95 rfl (by decide) rfl (fun w M => placeIn_any w _ _ _ ((mem_own1 (n := 3) M rfl).rd))) ?_
            refine hK218 _ _ (fun w M => (mem_erase 2 (mem_erase 6 (mem_take 9 M)) :)) ?_
            refine ga_two 1 9 (by kernel_rfl) rfl rfl (.free rfl) (.free rfl) (fun K245 hK245 => ?_) (fun K245 hK245 => ?_)
            · refine go_v rfl rfl (qt_loadB (n := 2) rfl rfl Try.underlying22 rfl rfl rfl) ?_
              refine hK245 _ _ (fun w M => (mem_erase 2 (mem_erase 6 (mem_take 9 M)) :)) ?_
              refine ga_op 9 (by kernel_rfl) rfl (.free rfl) fun K248 hK248 => ?_
              refine go_slice1 rfl rfl rfl rfl Try.underlying22 ?_
              intro B247
              refine hK248 _ _ (fun w M => (mem_erase 2 (mem_erase 6 (mem_take 9 M)) :)) ?_
              refine ga_op 10 (by kernel_rfl) rfl (.free rfl) fun K250 hK250 => ?_
              refine go_append (n := 6) (m := 9) rfl rfl rfl Try.underlying22 rfl rfl rfl rfl (by omega) ?_
              intro va249 vc249
              refine hK250 _ _ (fun w M => (mem_erase 2 (mem_erase 6 (mem_take 9 M)) :)) ?_
              refine ga_v 11 rfl (by kernel_rfl) (by kernel_rfl) (by kernel_rfl) (.free rfl) rfl rfl (qt_field (z := 0) (off := 2) rfl rfl Try.underlying28 rfl (by kernel_rfl) rfl) (fun _ _ _ h => h) ?_
              refine ga_op 12 (by kernel_rfl) rfl (.free rfl) fun K251 hK251 => ?_
              refine go_storeB (n := 2) rfl rfl rfl rfl (by kernel_rfl) rfl rfl rfl (by first | decide | simp) ?_
              refine hK251 _ _ (fun w M => (mem_erase 2 (mem_erase 6 (mem_take 9 M)) :)) ?_
              refine ga_done (by kernel_rfl) ?_
              refine gk_then (hK217 _ _ ?_)
              refine gc_seq fun K252 hK252 => ?_
              refine gc_region ?_
              refine g_v (.free rfl) rfl rfl (qt_move rfl rfl) ?_
              refine g_v (.free rfl) rfl rfl (qt_len rfl rfl ulE1 (fun w M => lenV_rd hu)) ?_
              refine g_op (.free rfl) fun K254 hK254 => ?_
              refine go_make1 rfl rfl rfl Try.underlying22 rfl rfl (by omega) ?_
              intro B253
              refine hK254 _ _ ?_
              refine g_v (.free rfl) rfl rfl (qt_assign rfl rfl) ?_
              refine g_nil ?_
              refine gk_then (hK252 _ _ ?_)
              refine gc_seq fun K255 hK255 => ?_
              refine gc_seq fun K256 hK256 => ?_
              refine gc_region ?_
              refine g_v (.free rfl) rfl rfl (qt_move rfl rfl) ?_
              refine g_v (.free rfl) rfl rfl (qt_len rfl rfl ulE1 (fun w M => lenV_rd hu)) ?_
              refine g_v (.free rfl) rfl rfl (qt_move rfl rfl) ?_
              refine g_nil ?_
              refine gk_then (hK256 _ _ ?_)
              refine gc_block ?_
              simp only [tabTo_succ]
              rw [fillTo_zero (fun j => idxI xs (c.th (at0 xs (k : Int)) (at0 xs (j : Int)))) xs.length]
              try simp only [List.nil_append, List.cons_append, List.append_assoc, List.set_cons_succ, List.set_cons_zero]
              refine gc_loop ([(0, _), (1, _), (2, _), (4, _), (5, _), (6, _), (11, _), (12, _), (16, _), (17, _), (18, _), (19, _), (42, _), (43, _), (44, _), (45, _), (75, _), (76, _)] : Env) (fun s : Nat => (fun (l : Nat) => ([(77, .int .i64 (l : Int))] : Env)) s) (fun s : Nat => (fun (l : Nat) => ([(10, own1I (.slice (some ⟨B253, 0, none⟩) xs.length xs.length) (fillTo (fun j => idxI xs (c.th (at0 xs (k : Int)) (at0 xs (j : Int)))) xs.length l))] : List (Nat × Itm))) s) (fun s : Nat => (fun (l : Nat) => l ≤ xs.length) s) (fun s : Nat => (fun (l : Nat) => xs.length - l) s) (0) (sub_cons rfl (sub_cons rfl (sub_cons rfl (sub_cons rfl (sub_cons rfl (sub_cons rfl (sub_cons rfl (sub_cons rfl (sub_cons rfl (sub_cons rfl (sub_cons rfl (sub_cons rfl (sub_cons rfl (sub_cons rfl (sub_cons rfl (sub_cons rfl (sub_cons rfl (sub_cons rfl (sub_cons rfl sub_nil))))))))))))))))))) rfl (Nat.zero_le _) ?_
              rintro l hinv KL257 hKL257
              simp only [updL, List.foldl_cons, List.foldl_nil, List.set_cons_succ, List.set_cons_zero, List.cons_append, List.nil_append] at hinv hKL257 ⊢
              have hl3 := hinv
              have hl4 := fillTo_len (fun j => idxI xs (c.th (at0 xs (k : Int)) (at0 xs (j : Int)))) xs.length l
              refine gc_seq fun K258 hK258 => ?_
              refine gc_region ?_
              refine g_v (.free rfl) rfl rfl (qt_lss rfl rfl rfl) ?_
              refine g_nil ?_
              refine gk_then (hK258 _ _ ?_)
              refine gc_seq fun K259 hK259 => ?_
              refine gc_cond rfl (fun hc10 => ?_) (fun hc10 => ?_)
              · try simp only [decide_eq_true_eq, decide_eq_false_iff_not, Bool.not_eq_true', Bool.not_eq_false', Bool.not_eq_eq_eq_not, Bool.not_true, Bool.not_false, ne_eq, Decidable.not_not, Classical.not_not] at hc10
                refine gc_skip ?_
                refine gk_then (hK259 _ _ ?_)
                refine gc_seq fun K260 hK260 => ?_
                refine gc_block ?_
                refine gc_seq fun K261 hK261 => ?_
                refine gc_region ?_
                refine g_v (.free rfl) rfl rfl (qt_move rfl rfl) ?_
                refine g_v (.free rfl) rfl rfl (qt_index rfl rfl rfl ulE1 szE1 (fun w M => lenA_rd hu) (by omega) (by omega)) ?_
                refine g_v (.free rfl) rfl rfl (qt_load1 rfl rfl Try.underlying2 rfl (fun w M => mem_rd M hu) (by omega) (by omega)) ?_
                refine g_v (.free rfl) rfl rfl (qt_assign rfl rfl) ?_
                refine g_v (.free rfl) rfl rfl (qt_assign rfl rfl) ?_
                refine g_nil ?_
                refine gk_then (hK261 _ _ ?_)
                have hk1 := allP_k hx (k := k) (by omega)
                have hA := arrP hS hk1.1 hk1.2
                have a0 := hk1.1; have a1 := hk1.2; have a2 := hA.fs; have a3 := hA.fm; have a4 := hA.row; have a5 := hA.ft
                have hl1 := allP_k hx (k := l) (by omega)
                have b0 := hl1.1; have b1 := hl1.2
                refine gc_region ?_
                refine g_v (.free rfl) rfl rfl (qt_move rfl rfl) ?_
                refine g_v (.free rfl) rfl rfl (qt_move rfl rfl) ?_
                refine g_v (.free rfl) rfl rfl (qt_move rfl rfl) ?_
                refine g_v (.free rfl) rfl rfl (qt_loadS (n := 0) rfl rfl Try.underlying28 rfl (by kernel_rfl) rfl) ?_
                refine g_v (.free rfl) rfl rfl (qt_move rfl rfl) ?_
                refine g_v (.free rfl) rfl rfl (qt_move rfl rfl) ?_
                refine g_q (.free rfl) rfl rfl (qt_call rfl Try.func60 rfl (by decide) rfl (fun w M => then_any w _ _ _ _ (mem_rdC M h0) (by first | assumption | omega) (by first | assumption | omega) (by first | assumption | omega) (by first | assumption | omega))) ?_
                refine g_q (.free rfl) rfl rfl (qt_call rfl Try.func95 rfl (by decide) rfl (fun w M => placeIn_any w _ _ _ (mem_rd M hu))) ?_
                refine g_v (.free rfl) rfl rfl (qt_index rfl rfl rfl ulE1 szE1 (fun w M => lenA_own1 (n := 10) rfl M) (by omega) (by omega)) ?_
                refine g_op (.free rfl) fun K262 hK262 => ?_
                refine go_store1 (n := 10) rfl rfl rfl rfl (by kernel_rfl) rfl (by omega) (by omega) ?_
                refine hK262 _ _ ?_
                refine g_nil ?_
                refine gk_block ?_
                refine gk_then (hK260 _ _ ?_)
                refine gc_region ?_
                refine g_v (.free rfl) rfl rfl (qt_add rfl rfl rfl (by omega)) ?_
                refine g_v (.free rfl) rfl rfl (qt_move rfl rfl) ?_
                refine g_nil ?_
                rw [fillTo_set (fun j => idxI xs (c.th (at0 xs (k : Int)) (at0 xs (j : Int)))) (by omega)]
                refine gk_then (gk_take 11 ?_)
                refine gk_sub ?hs_263 (hKL257 (l + 1) ?hi_263 ?hm_263)
                case hs_263 => exact (sub_cons rfl (sub_cons rfl (sub_cons rfl (sub_cons rfl (sub_cons rfl (sub_cons rfl (sub_cons rfl (sub_cons rfl (sub_cons rfl (sub_cons rfl (sub_cons rfl (sub_cons rfl (sub_cons rfl (sub_cons rfl (sub_cons rfl (sub_cons rfl (sub_cons rfl (sub_cons rfl (sub_cons rfl sub_nil)))))))))))))))))))
                case hi_263 => omega
                case hm_263 => omega
              · try simp only [decide_eq_true_eq, decide_eq_false_iff_not, Bool.not_eq_true', Bool.not_eq_false', Bool.not_eq_eq_eq_not, Bool.not_true, Bool.not_false, ne_eq, Decidable.not_not, Classical.not_not] at hc10
                refine gc_exit ?_
                refine gk_then_exit ?_
                refine gk_then_exit ?_
                refine gk_block_hit ?_
                refine gk_then (hK255 _ _ ?_)
                refine gc_region ?_
                refine g_v (.free rfl) rfl rfl (qt_field (z := 0) (off := 4) rfl rfl Try.underlying28 rfl (by kernel_rfl) rfl) ?_
                refine g_v (.free rfl) rfl rfl (qt_loadB (n := 2) rfl rfl Try.underlying23 rfl rfl rfl) ?_
                refine g_v (.free rfl) rfl rfl (qt_move rfl rfl) ?_
                refine g_op (.free rfl) fun K265 hK265 => ?_
                refine go_sliceR1 (m := 10) rfl rfl rfl rfl Try.underlying23 rfl ?_
                intro B264
                refine hK265 _ _ ?_
                refine g_op (.free rfl) fun K267 hK267 => ?_
                refine go_appendRow (n := 7) (m := 10) (m' := 9) rfl rfl rfl Try.underlying23 rfl rfl rfl rfl rfl (by omega) ?_
                intro va266 vc266
                refine hK267 _ _ ?_
                refine g_v (.free rfl) rfl rfl (qt_field (z := 0) (off := 4) rfl rfl Try.underlying28 rfl (by kernel_rfl) rfl) ?_
                refine g_op (.free rfl) fun K268 hK268 => ?_
                refine go_storeB (n := 2) rfl rfl rfl rfl (by kernel_rfl) rfl rfl rfl (by first | decide | simp) ?_
                refine hK268 _ _ ?_
                refine g_nil ?_
                refine gk_block ?_
                refine gk_then (hK38 _ _ ?_)
                refine gc_region ?_
                refine g_v (.free rfl) rfl rfl (qt_add rfl rfl rfl (by omega)) ?_
                refine g_v (.free rfl) rfl rfl (qt_move rfl rfl) ?_
                refine g_nil ?_
                obtain rfl : l = xs.length := by omega
                simp only [fillTo_end, rowsTo_succ]
                refine gk_then (gk_take 8 ?_)
                refine gk_sub ?hs_269 (hKL35 (k + 1, _, _, _, _, _, _, _) ?hi_269 ?hm_269)
                case hs_269 => exact (sub_cons rfl (sub_cons rfl (sub_cons rfl (sub_cons rfl (sub_cons rfl (sub_cons rfl (sub_cons rfl (sub_cons rfl (sub_cons rfl (sub_cons rfl (sub_cons rfl (sub_cons rfl (sub_cons rfl sub_nil)))))))))))))
                case hi_269 => omega
                case hm_269 => omega
            · refine go_slice1 rfl rfl rfl rfl Try.underlying22 ?_
              intro B270
              refine hK245 _ _ (fun w M => (mem_erase 2 (mem_erase 6 (mem_take 9 M)) :)) ?_
              refine ga_op 1 (by kernel_rfl) rfl (.free rfl) fun K272 hK272 => ?_
              refine go_v rfl rfl (qt_loadB (n := 2) rfl rfl Try.underlying22 rfl rfl rfl) ?_
              refine hK272 _ _ (fun w M => (mem_erase 2 (mem_erase 6 (mem_take 9 M)) :)) ?_
              refine ga_op 10 (by kernel_rfl) rfl (.free rfl) fun K274 hK274 => ?_
              refine go_append (n := 6) (m := 9) rfl rfl rfl Try.underlying22 rfl rfl rfl rfl (by omega) ?_
              intro va273 vc273
              refine hK274 _ _ (fun w M => (mem_erase 2 (mem_erase 6 (mem_take 9 M)) :)) ?_
              refine ga_v 11 rfl (by kernel_rfl) (by kernel_rfl) (by kernel_rfl) (.free rfl) rfl rfl (qt_field (z := 0) (off := 2) rfl rfl Try.underlying28 rfl (by kernel_rfl) rfl) (fun _ _ _ h => h) ?_
              refine ga_op 12 (by kernel_rfl) rfl (.free rfl) fun K275 hK275 => ?_
              refine go_storeB (n := 2) rfl rfl rfl rfl (by kernel_rfl) rfl rfl rfl (by first | decide | simp) ?_
              refine hK275 _ _ (fun w M => (mem_erase 2 (mem_erase 6 (mem_take 9 M)) :)) ?_
              refine ga_done (by kernel_rfl) ?_
              refine gk_then (hK217 _ _ ?_)
              refine gc_seq fun K276 hK276 => ?_
              refine gc_region ?_
              refine g_v (.free rfl) rfl rfl (qt_move rfl rfl) ?_
              refine g_v (.free rfl) rfl rfl (qt_len rfl rfl ulE1 (fun w M => lenV_rd hu)) ?_
              refine g_op (.free rfl) fun K278 hK278 => ?_
              refine go_make1 rfl rfl rfl Try.underlying22 rfl rfl (by omega) ?_
              intro B277
              refine hK278 _ _ ?_
              refine g_v (.free rfl) rfl rfl (qt_assign rfl rfl) ?_
              refine g_nil ?_
              refine gk_then (hK276 _ _ ?_)
              refine gc_seq fun K279 hK279 => ?_
              refine gc_seq fun K280 hK280 => ?_
              refine gc_region ?_
              refine g_v (.free rfl) rfl rfl (qt_move rfl rfl) ?_
              refine g_v (.free rfl) rfl rfl (qt_len rfl rfl ulE1 (fun w M => lenV_rd hu)) ?_
              refine g_v (.free rfl) rfl rfl (qt_move rfl rfl) ?_
              refine g_nil ?_
              refine gk_then (hK280 _ _ ?_)
              refine gc_block ?_
              simp only [tabTo_succ]
              rw [fillTo_zero (fun j => idxI xs (c.th (at0 xs (k : Int)) (at0 xs (j : Int)))) xs.length]
              try simp only [List.nil_append, List.cons_append, List.append_assoc, List.set_cons_succ, List.set_cons_zero]
              refine gc_loop ([(0, _), (1, _), (2, _), (4, _), (5, _), (6, _), (11, _), (12, _), (16, _), (17, _), (18, _), (19, _), (42, _), (43, _), (44, _), (45, _), (75, _), (76, _)] : Env) (fun s : Nat => (fun (l : Nat) => ([(77, .int .i64 (l : Int))] : Env)) s) (fun s : Nat => (fun (l : Nat) => ([(10, own1I (.slice (some ⟨B277, 0, none⟩) xs.length xs.length) (fillTo (fun j => idxI xs (c.th (at0 xs (k : Int)) (at0 xs (j : Int)))) xs.length l))] : List (Nat × Itm))) s) (fun s : Nat => (fun (l : Nat) => l ≤ xs.length) s) (fun s : Nat => (fun (l : Nat) => xs.length - l) s) (0) (sub_cons rfl (sub_cons rfl (sub_cons rfl (sub_cons rfl (sub_cons rfl (sub_cons rfl (sub_cons rfl (sub_cons rfl (sub_cons rfl (sub_cons rfl (sub_cons rfl (sub_cons rfl (sub_cons rfl (sub_cons rfl (sub_cons rfl (sub_cons rfl (sub_cons rfl (sub_cons rfl (sub_cons rfl sub_nil))))))))))))))))))) rfl (Nat.zero_le _) ?_
              rintro l hinv KL281 hKL281
              simp only [updL, List.foldl_cons, List.foldl_nil, List.set_cons_succ, List.set_cons_zero, List.cons_append, List.nil_append] at hinv hKL281 ⊢
              have hl3 := hinv
              have hl4 := fillTo_len (fun j => idxI xs (c.th (at0 xs (k : Int)) (at0 xs (j : Int)))) xs.length l
              refine gc_seq fun K282 hK282 => ?_
              refine gc_region ?_
              refine g_v (.free rfl) rfl rfl (qt_lss rfl rfl rfl) ?_
              refine g_nil ?_
              refine gk_then (hK282 _ _ ?_)
              refine gc_seq fun K283 hK283 => ?_
              refine gc_cond rfl (fun hc11 => ?_) (fun hc11 => ?_)
              · try simp only [decide_eq_true_eq, decide_eq_false_iff_not, Bool.not_eq_true', Bool.not_eq_false', Bool.not_eq_eq_eq_not, Bool.not_true, Bool.not_false, ne_eq, Decidable.not_not, Classical.not_not] at hc11
                refine gc_skip ?_
                refine gk_then (hK283 _ _ ?_)
                refine gc_seq fun K284 hK284 => ?_
                refine gc_block ?_
                refine gc_seq fun K285 hK285 => ?_
                refine gc_region ?_
                refine g_v (.free rfl) rfl rfl (qt_move rfl rfl) ?_
                refine g_v (.free rfl) rfl rfl (qt_index rfl rfl rfl ulE1 szE1 (fun w M => lenA_rd hu) (by omega) (by omega)) ?_
                refine g_v (.free rfl) rfl rfl (qt_load1 rfl rfl Try.underlying2 rfl (fun w M => mem_rd M hu) (by omega) (by omega)) ?_
                refine g_v (.free rfl) rfl rfl (qt_assign rfl rfl) ?_
                refine g_v (.free rfl) rfl rfl (qt_assign rfl rfl) ?_
                refine g_nil ?_
                refine gk_then (hK285 _ _ ?_)
                have hk1 := allP_k hx (k := k) (by omega)
                have hA := arrP hS hk1.1 hk1.2
                have a0 := hk1.1; have a1 := hk1.2; have a2 := hA.fs; have a3 := hA.fm; have a4 := hA.row; have a5 := hA.ft
                have hl1 := allP_k hx (k := l) (by omega)
                have b0 := hl1.1; have b1 := hl1.2
                refine gc_region ?_
                refine g_v (.free rfl) rfl rfl (qt_move rfl rfl) ?_
                refine g_v (.free rfl) rfl rfl (qt_move rfl rfl) ?_
                refine g_v (.free rfl) rfl rfl (qt_move rfl rfl) ?_
                refine g_v (.free rfl) rfl rfl (qt_loadS (n := 0) rfl rfl Try.underlying28 rfl (by kernel_rfl) rfl) ?_
                refine g_v (.free rfl) rfl rfl (qt_move rfl rfl) ?_
                refine g_v (.free rfl) rfl rfl (qt_move rfl rfl) ?_
                refine g_q (.free rfl) rfl rfl (qt_call rfl Try.func60 rfl (by decide) rfl (fun w M => then_any w _ _ _ _ (mem_rdC M h0) (by first | assumption | omega) (by first | assumption | omega) (by first | assumption | omega) (by first | assumption | omega))) ?_
                refine g_q (.free rfl) rfl rfl (qt_call rfl Try.func95 rfl (by decide) rfl (fun w M => placeIn_any w _ _ _ (mem_rd M hu))) ?_
                refine g_v (.free rfl) rfl rfl (qt_index rfl rfl rfl ulE1 szE1 (fun w M => lenA_own1 (n := 10) rfl M) (by omega) (by omega)) ?_
                refine g_op (.free rfl) fun K286 hK286 => ?_
                refine go_store1 (n := 10) rfl rfl rfl rfl (by kernel_rfl) rfl (by omega) (by omega) ?_
                refine hK286 _ _ ?_
                refine g_nil ?_
                refine gk_block ?_
                refine gk_then (hK284 _ _ ?_)
                refine gc_region ?_
                refine g_v (.free rfl) rfl rfl (qt_add rfl rfl rfl (by omega)) ?_
                refine g_v (.free rfl) rfl rfl (qt_move rfl rfl) ?_
                refine g_nil ?_
                rw [fillTo_set (fun j => idxI xs (c.th (at0 xs (k : Int)) (at0 xs (j : Int)))) (by omega)]
                refine gk_then (gk_take 11 ?_)
                refine gk_sub ?hs_287 (hKL281 (l + 1) ?hi_287 ?hm_287)
                case hs_287 => exact (sub_cons rfl (sub_cons rfl (sub_cons rfl (sub_cons rfl (sub_cons rfl (sub_cons rfl (sub_cons rfl (sub_cons rfl (sub_cons rfl (sub_cons rfl (sub_cons rfl (sub_cons rfl (sub_cons rfl (sub_cons rfl (sub_cons rfl (sub_cons rfl (sub_cons rfl (sub_cons rfl (sub_cons rfl sub_nil)))))))))))))))))))
                case hi_287 => omega
                case hm_287 => omega
              · try simp only [decide_eq_true_eq, decide_eq_false_iff_not, Bool.not_eq_true', Bool.not_eq_false', Bool.not_eq_eq_eq_not, Bool.not_true, Bool.not_false, ne_eq, Decidable.not_not, Classical.not_not] at hc11
                refine gc_exit ?_
                refine gk_then_exit ?_
                refine gk_then_exit ?_
                refine gk_block_hit ?_
                refine gk_then (hK279 _ _ ?_)
                refine gc_region ?_
                refine g_v (.free rfl) rfl rfl (qt_field (z := 0) (off := 4) rfl rfl Try.underlying28 rfl (by kernel_rfl) rfl) ?_
                refine g_v (.free rfl) rfl rfl (qt_loadB (n := 2) rfl rfl Try.underlying23 rfl rfl rfl) ?_
                refine g_v (.free rfl) rfl rfl (qt_move rfl rfl) ?_
                refine g_op (.free rfl) fun K289 hK289 => ?_
                refine go_sliceR1 (m := 10) rfl rfl rfl rfl Try.underlying23 rfl ?_
                intro B288
                refine hK289 _ _ ?_
                refine g_op (.free rfl) fun K291 hK291 => ?_
                refine go_appendRow (n := 7) (m := 10) (m' := 9) rfl rfl rfl Try.underlying23 rfl rfl rfl rfl rfl (by omega) ?_
                intro va290 vc290
                refine hK291 _ _ ?_
                refine g_v (.free rfl) rfl rfl (qt_field (z := 0) (off := 4) rfl rfl Try.underlying28 rfl (by kernel_rfl) rfl) ?_
                refine g_op (.free rfl) fun K292 hK292 => ?_
                refine go_storeB (n := 2) rfl rfl rfl rfl (by kernel_rfl) rfl rfl rfl (by first | decide | simp) ?_
                refine hK292 _ _ ?_
                refine g_nil ?_
                refine gk_block ?_
                refine gk_then (hK38 _ _ ?_)
                refine gc_region ?_
                refine g_v (.free rfl) rfl rfl (qt_add rfl rfl rfl (by omega)) ?_
                refine g_v (.free rfl) rfl rfl (qt_move rfl rfl) ?_
                refine g_nil ?_
                obtain rfl : l = xs.length := by omega
                simp only [fillTo_end, rowsTo_succ]
                refine gk_then (gk_take 8 ?_)
                refine gk_sub ?hs_293 (hKL35 (k + 1, _, _, _, _, _, _, _) ?hi_293 ?hm_293)
                case hs_293 => exact (sub_cons rfl (sub_cons rfl (sub_cons rfl (sub_cons rfl (sub_cons rfl (sub_cons rfl (sub_cons rfl (sub_cons rfl (sub_cons rfl (sub_cons rfl (sub_cons rfl (sub_cons rfl (sub_cons rfl sub_nil)))))))))))))
                case hi_293 => omega
                case hm_293 => omega
    · try simp only [decide_eq_true_eq, decide_eq_false_iff_not, Bool.not_eq_true', Bool.not_eq_false', Bool.not_eq_eq_eq_not, Bool.not_true, Bool.not_false, ne_eq, Decidable.not_not, Classical.not_not] at hc2
      refine gc_exit ?_
      refine gk_then_exit ?_
      refine gk_then_exit ?_
      refine gk_block_hit ?_
      refine gk_then (hK33 _ _ ?_)
      refine gc_seq fun K294 hK294 => ?_
      refine gc_region ?_
      refine g_v (.free rfl) rfl rfl (qt_loadS (n := 2) rfl rfl Try.underlying28 rfl (by kernel_rfl) rfl) ?_
      refine g_op (.free rfl) fun K295 hK295 => ?_
      refine go_storeS (n := 1) rfl rfl rfl rfl (by kernel_rfl) rfl rfl rfl ?_
      refine hK295 _ _ ?_
      refine g_nil ?_
      refine gk_then (hK294 _ _ ?_)
      refine gc_ret ?_
      refine ret_S (n := 1) rfl rfl Try.underlying28 rfl (by kernel_rfl) rfl (fun w M => ?_)
      obtain rfl : k = xs.length := by omega
      exact ⟨_, rfl, ownC_star (c := partC c xs) (mem_pick (n := 7) (mem_pick (n := 7) (mem_pick (n := 5) (mem_pick (n := 7) (M) rfl) rfl) rfl) rfl).2, M.1⟩

end Go.Proofs.Ytelbjdbefaffpab
