
/- Congruences: the walks of the model's and of the program's test. -/
import Derived.Test.YtpfcfhjpgngneacCong
import Derived.Test.YtpfcfhjpgngneacOwnL
set_option linter.unusedSimpArgs false
set_option linter.unusedVariables false
set_option linter.unusedSectionVars false
namespace Go.Proofs.Ytpfcfhjpgngneac
open Go.RowKit


theorem ulEP : Try.prog.underlying 125 = some (.slice (Try.prog.elem 125)) := by kernel_rfl
theorem szEP : (Try.prog.info? (Try.prog.elem 125)).map (fun i => i.size) = some 1 := by kernel_rfl
theorem specPairsR_any (w : World) (v : Value) (p : List Int) (h : Rd w v p) (hp : p.length ≤ 256) : Calls Try.prog 165 #[v] w (RetR w (plist p p.length)) :=
  (specPairs_any w v p h hp).mono fun e w' ⟨g, cap, h1, h2, h3⟩ => ⟨_, h1, h2, h3⟩
theorem compS_def (c : Cat) (q : List Int) (f g : Nat) : [c.th (c.th (f : Int) (at0 q 0)) (g : Int), c.th (c.th (f : Int) (at0 q 1)) (g : Int)] = compS c q f g := rfl
/-- What a pair of arrows has, all as inequalities. -/
theorem parL_at {c : Cat} {ps : List (List Int)} (h : ParL c ps) {k : Nat} (hk : k < ps.length) : (row2 ps (k : Int)).length = 2 ∧ (0 ≤ at0 (row2 ps (k : Int)) 0 ∧ at0 (row2 ps (k : Int)) 0 < c.s.length) ∧ (0 ≤ at0 (row2 ps (k : Int)) 1 ∧ at0 (row2 ps (k : Int)) 1 < c.s.length) ∧ at0 c.s (at0 (row2 ps (k : Int)) 0) = at0 c.s (at0 (row2 ps (k : Int)) 1) ∧ at0 c.t (at0 (row2 ps (k : Int)) 0) = at0 c.t (at0 (row2 ps (k : Int)) 1) := by
  have hq := h _ (row2_memL hk)
  obtain ⟨e0, e1, l0, l1⟩ := pair_at hq.1
  rw [e0, e1]
  exact ⟨hq.1.1, by omega, by omega, hq.2⟩
noncomputable def fIsCongruence (c : Cat) (p : List Int) : Bool × Int := if fIsCategory c = true then (bP (congM c p), 0) else (false, 1)
theorem cg_f {c : Cat} {p : List Int} (h : fIsCategory c = false) : fIsCongruence c p = (false, 1) := if_neg (by rw [h]; decide)
theorem cg_t {c : Cat} {p : List Int} (h : fIsCategory c = true) : fIsCongruence c p = (bP (congM c p), 0) := if_pos h

set_option maxHeartbeats 1000000 in
set_option maxRecDepth 100000 in
theorem specPar_any (w : World) (v : Value) (c : Cat) (h : RdC w v c) (f g : Int) (f0 : 0 ≤ f) (f1 : f < c.s.length) (g0 : 0 ≤ g) (g1 : g < c.s.length) (htl : c.t.length = c.s.length) :
    Calls Try.prog 116 #[v, .int .i64 f, .int .i64 g] w (RetB w (bP (at0 c.s f = at0 c.s g ∧ at0 c.t f = at0 c.t g))) := by
  have h0 := h
  obtain ⟨va, vb, vc, vd, ve, vf, vg, vh, rfl, h1, h2, h3, h4, _⟩ := h.lists
  go_enter Try.func116, Try.ntmps116
  refine gc_enter (N := 31) rfl (look_cons (k := 0) rfl (look_cons (k := 1) rfl (look_cons (k := 2) rfl (look_nil _)))) ?_
  refine gc_seq fun K1 hK1 => ?_
  refine gc_region ?_
  refine g_op (.free rfl) fun K3 hK3 => ?_
  refine go_box rfl rfl rfl rfl rfl ?_
  intro B2
  refine hK3 _ _ ?_
  refine g_v (.free rfl) rfl rfl (qt_assign rfl rfl) ?_
  refine g_nil ?_
  refine gk_then (hK1 _ _ ?_)
  refine gc_seq fun K4 hK4 => ?_
  refine gc_draw (by kernel_rfl) ?_
  refine gd_v (.free rfl) rfl rfl (qt_field (z := 0) (off := 1) rfl rfl Try.underlying27 rfl (by kernel_rfl) rfl) ?_
  refine gd_v (.free rfl) rfl rfl (qt_loadB (n := 0) rfl rfl Try.underlying24 rfl rfl rfl) ?_
  refine gd_v (.free rfl) rfl rfl (qt_move rfl rfl) ?_
  refine gd_v (.free rfl) rfl rfl (qt_index rfl rfl rfl ulE1 szE1 (fun w M => lenA_rd h1) (by omega) (by omega)) ?_
  refine gd_v (.free rfl) rfl rfl (qt_load1 rfl rfl Try.underlying2 rfl (fun w M => mem_rd M h1) (by omega) (by omega)) ?_
  refine gd_v (.free rfl) rfl rfl (qt_field (z := 0) (off := 1) rfl rfl Try.underlying27 rfl (by kernel_rfl) rfl) ?_
  refine gd_v (.free rfl) rfl rfl (qt_loadB (n := 0) rfl rfl Try.underlying24 rfl rfl rfl) ?_
  refine gd_v (.free rfl) rfl rfl (qt_move rfl rfl) ?_
  refine gd_v (.free rfl) rfl rfl (qt_index rfl rfl rfl ulE1 szE1 (fun w M => lenA_rd h1) (by omega) (by omega)) ?_
  refine gd_v (.free rfl) rfl rfl (qt_load1 rfl rfl Try.underlying2 rfl (fun w M => mem_rd M h1) (by omega) (by omega)) ?_
  refine gd_v (.free rfl) rfl rfl (qt_eql rfl rfl rfl) ?_
  refine gd_splitv (.free rfl) rfl rfl (qt_move rfl rfl) (fun hs1_11 => ?_) (fun hs1_11 => ?_)
  · try simp only [decide_eq_true_eq, decide_eq_false_iff_not, Bool.not_eq_true', Bool.not_eq_false', Bool.not_eq_eq_eq_not, Bool.not_true, Bool.not_false, ne_eq, Decidable.not_not, Classical.not_not] at hs1_11
    refine gd_v (.held _ _ _ rfl rfl rfl) rfl rfl (qt_field (z := 0) (off := 2) rfl rfl Try.underlying27 rfl (by kernel_rfl) rfl) ?_
    refine gd_v (.held _ _ _ rfl rfl rfl) rfl rfl (qt_loadB (n := 0) rfl rfl Try.underlying24 rfl rfl rfl) ?_
    refine gd_v (.held _ _ _ rfl rfl rfl) rfl rfl (qt_move rfl rfl) ?_
    refine gd_v (.held _ _ _ rfl rfl rfl) rfl rfl (qt_index rfl rfl rfl ulE1 szE1 (fun w M => lenA_rd h2) (by omega) (by omega)) ?_
    refine gd_v (.held _ _ _ rfl rfl rfl) rfl rfl (qt_load1 rfl rfl Try.underlying2 rfl (fun w M => mem_rd M h2) (by omega) (by omega)) ?_
    refine gd_v (.held _ _ _ rfl rfl rfl) rfl rfl (qt_field (z := 0) (off := 2) rfl rfl Try.underlying27 rfl (by kernel_rfl) rfl) ?_
    refine gd_v (.held _ _ _ rfl rfl rfl) rfl rfl (qt_loadB (n := 0) rfl rfl Try.underlying24 rfl rfl rfl) ?_
    refine gd_v (.held _ _ _ rfl rfl rfl) rfl rfl (qt_move rfl rfl) ?_
    refine gd_v (.held _ _ _ rfl rfl rfl) rfl rfl (qt_index rfl rfl rfl ulE1 szE1 (fun w M => lenA_rd h2) (by omega) (by omega)) ?_
    refine gd_v (.held _ _ _ rfl rfl rfl) rfl rfl (qt_load1 rfl rfl Try.underlying2 rfl (fun w M => mem_rd M h2) (by omega) (by omega)) ?_
    refine gd_v (.held _ _ _ rfl rfl rfl) rfl rfl (qt_eql rfl rfl rfl) ?_
    refine gd_v (.free rfl) rfl rfl (qt_pick_t rfl rfl rfl) ?_
    refine gd_v (.free rfl) rfl rfl (qt_assign rfl rfl) ?_
    refine gd_nil ?_
    refine gk_then (hK4 _ _ ?_)
    refine gc_ret ?_
    refine ret_1 rfl rfl  (fun w M => ?_)
    rw [← bP_dec]; rw [show bP (at0 c.s f = at0 c.s g ∧ at0 c.t f = at0 c.t g) = bP (at0 c.t f = at0 c.t g) from bP_congr ⟨fun h => h.2, fun h => ⟨hs1_11, h⟩⟩]; exact ⟨rfl, M.1⟩
  · try simp only [decide_eq_true_eq, decide_eq_false_iff_not, Bool.not_eq_true', Bool.not_eq_false', Bool.not_eq_eq_eq_not, Bool.not_true, Bool.not_false, ne_eq, Decidable.not_not, Classical.not_not] at hs1_11
    refine gd_skip (.not _ _ _ _ rfl rfl rfl rfl) rfl rfl ?_
    refine gd_skip (.not _ _ _ _ rfl rfl rfl rfl) rfl rfl ?_
    refine gd_skip (.not _ _ _ _ rfl rfl rfl rfl) rfl rfl ?_
    refine gd_skip (.not _ _ _ _ rfl rfl rfl rfl) rfl rfl ?_
    refine gd_skip (.not _ _ _ _ rfl rfl rfl rfl) rfl rfl ?_
    refine gd_skip (.not _ _ _ _ rfl rfl rfl rfl) rfl rfl ?_
    refine gd_skip (.not _ _ _ _ rfl rfl rfl rfl) rfl rfl ?_
    refine gd_skip (.not _ _ _ _ rfl rfl rfl rfl) rfl rfl ?_
    refine gd_skip (.not _ _ _ _ rfl rfl rfl rfl) rfl rfl ?_
    refine gd_skip (.not _ _ _ _ rfl rfl rfl rfl) rfl rfl ?_
    refine gd_skip (.not _ _ _ _ rfl rfl rfl rfl) rfl rfl ?_
    refine gd_v (.free rfl) rfl rfl (qt_pick_f rfl rfl rfl) ?_
    refine gd_v (.free rfl) rfl rfl (qt_assign rfl rfl) ?_
    refine gd_nil ?_
    refine gk_then (hK4 _ _ ?_)
    refine gc_ret ?_
    refine ret_1 rfl rfl  (fun w M => ?_)
    rw [bP_f (fun h : at0 c.s f = at0 c.s g ∧ at0 c.t f = at0 c.t g => hs1_11 h.1)]; exact ⟨rfl, M.1⟩

set_option maxHeartbeats 1000000 in
set_option maxRecDepth 100000 in
theorem specSpread_any (w : World) (v : Value) (c : Cat) (h : RdC w v c) (u : Value) (ps : List (List Int)) (hu : Rd2 w u ps) (hC : IsCat c) (hps : ParL c ps) (hl : ps.length ≤ 2000000000) :
    Calls Try.prog 117 #[v, u] w (RetL w (clsOf (specL c.s.length (spread c ps)))) := by
  have h0 := h
  obtain ⟨va, vb, vc, vd, ve, vf, vg, vh, rfl, h1, h2, h3, h4, _⟩ := h.lists
  obtain ⟨ua, uc, rfl⟩ := rd2_form hu
  have hS := hC.toShapeP
  have hn40 := hS.n40; have htl := hS.tl; have hel := hS.el; have hob0 := hS.ob0; have hob8 := hS.ob8; have hml := hS.ml
  go_enter Try.func117, Try.ntmps117
  refine gc_enter (N := 90) rfl (look_cons (k := 0) rfl (look_cons (k := 1) rfl (look_nil _))) ?_
  refine gc_seq fun K1 hK1 => ?_
  refine gc_region ?_
  refine g_op (.free rfl) fun K3 hK3 => ?_
  refine go_box rfl rfl rfl rfl rfl ?_
  intro B2
  refine hK3 _ _ ?_
  refine g_v (.free rfl) rfl rfl (qt_assign rfl rfl) ?_
  refine g_nil ?_
  refine gk_then (hK1 _ _ ?_)
  refine gc_seq fun K4 hK4 => ?_
  refine gc_region ?_
  refine g_v (.free rfl) rfl rfl (qt_field (z := 0) (off := 1) rfl rfl Try.underlying27 rfl (by kernel_rfl) rfl) ?_
  refine g_v (.free rfl) rfl rfl (qt_loadB (n := 0) rfl rfl Try.underlying24 rfl rfl rfl) ?_
  refine g_v (.free rfl) rfl rfl (qt_len rfl rfl ulE1 (fun w M => lenV_rd h1)) ?_
  refine g_v (.free rfl) rfl rfl (qt_assign rfl rfl) ?_
  refine g_nil ?_
  refine gk_then (hK4 _ _ ?_)
  refine gc_seq fun K5 hK5 => ?_
  refine gc_region ?_
  refine g_v (.free rfl) rfl rfl (qt_move rfl rfl) ?_
  refine g_op (.free rfl) fun K7 hK7 => ?_
  refine go_callR rfl rfl rfl Try.func169 rfl (by decide) rfl (fun w M => specOwn2_any w _ _ (mem_rd2 M hu)) ?_
  intro va6 vc6 us6
  refine hK7 _ _ ?_
  refine g_v (.free rfl) rfl rfl (qt_assign rfl rfl) ?_
  refine g_nil ?_
  refine gk_then (hK5 _ _ ?_)
  refine gc_seq fun K8 hK8 => ?_
  refine gc_seq fun K9 hK9 => ?_
  refine gc_region ?_
  refine g_v (.free rfl) rfl rfl (qt_assign rfl rfl) ?_
  refine g_nil ?_
  refine gk_then (hK9 _ _ ?_)
  refine gc_block ?_
  rw [show ∀ v us, own2U v us ps = own2U v us (sprL c ps 0 0 0) from fun v us => by rw [← sprL_zero]]
  try simp only [List.nil_append, List.cons_append, List.append_assoc, List.set_cons_succ, List.set_cons_zero]
  refine gc_loop ([(0, _), (1, _), (2, _), (4, _), (5, _)] : Env) (fun s : Nat × (Option Addr) × Nat × Nat × (List Value) => (fun (k : Nat) (an : Option Addr) (nl : Nat) (qn : Nat) (us : List Value) => ([(6, .slice an nl qn), (7, .int .i64 (k : Int))] : Env)) s.1 s.2.1 s.2.2.1 s.2.2.2.1 s.2.2.2.2) (fun s : Nat × (Option Addr) × Nat × Nat × (List Value) => (fun (k : Nat) (an : Option Addr) (nl : Nat) (qn : Nat) (us : List Value) => ([(1, own2U (.slice an nl qn) us (sprL c ps k 0 0))] : List (Nat × Itm))) s.1 s.2.1 s.2.2.1 s.2.2.2.1 s.2.2.2.2) (fun s : Nat × (Option Addr) × Nat × Nat × (List Value) => (fun (k : Nat) (an : Option Addr) (nl : Nat) (qn : Nat) (us : List Value) => k ≤ ps.length) s.1 s.2.1 s.2.2.1 s.2.2.2.1 s.2.2.2.2) (fun s : Nat × (Option Addr) × Nat × Nat × (List Value) => (fun (k : Nat) (an : Option Addr) (nl : Nat) (qn : Nat) (us : List Value) => ps.length - k) s.1 s.2.1 s.2.2.1 s.2.2.2.1 s.2.2.2.2) (0, _, _, _, _) (sub_cons rfl (sub_cons rfl (sub_cons rfl (sub_cons rfl (sub_cons rfl (sub_cons rfl (sub_cons rfl sub_nil))))))) rfl (Nat.zero_le _) ?_
  rintro ⟨k, an, nl, qn, us⟩ hinv KL10 hKL10
  simp only [updL, List.foldl_cons, List.foldl_nil, List.set_cons_succ, List.set_cons_zero, List.cons_append, List.nil_append] at hinv hKL10 ⊢
  have hk := hinv
  refine gc_seq fun K11 hK11 => ?_
  refine gc_seq fun K12 hK12 => ?_
  refine gc_region ?_
  refine g_v (.free rfl) rfl rfl (qt_move rfl rfl) ?_
  refine g_v (.free rfl) rfl rfl (qt_move rfl rfl) ?_
  refine g_v (.free rfl) rfl rfl (qt_len rfl rfl ulE2 (fun w M => lenV_rd2 hu)) ?_
  refine g_v (.free rfl) rfl rfl (qt_lss rfl rfl rfl) ?_
  refine g_nil ?_
  refine gk_then (hK12 _ _ ?_)
  refine gc_cond rfl (fun hc0 => ?_) (fun hc0 => ?_)
  · try simp only [decide_eq_true_eq, decide_eq_false_iff_not, Bool.not_eq_true', Bool.not_eq_false', Bool.not_eq_eq_eq_not, Bool.not_true, Bool.not_false, ne_eq, Decidable.not_not, Classical.not_not] at hc0
    refine gc_skip ?_
    refine gk_then (hK11 _ _ ?_)
    refine gc_seq fun K13 hK13 => ?_
    refine gc_block ?_
    refine gc_seq fun K14 hK14 => ?_
    have hq := parL_at hps (k := k) (by omega)
    have q1 := hq.1; have q2 := hq.2.1.1; have q3 := hq.2.1.2; have q4 := hq.2.2.1.1; have q5 := hq.2.2.1.2
    refine gc_draw (by kernel_rfl) ?_
    refine gd_v (.free rfl) rfl rfl (qt_move rfl rfl) ?_
    refine gd_v (.free rfl) rfl rfl (qt_move rfl rfl) ?_
    refine gd_v (.free rfl) rfl rfl (qt_index rfl rfl rfl ulE2 szE2 (fun w M => lenA_rd2 hu) (by omega) (by omega)) ?_
    refine gd_load2 (.free rfl) rfl rfl rfl rfl Try.underlying24 rfl hu (by omega) (by omega) ?_
    intro ra15 rc15 hr15
    refine gd_v (.free rfl) rfl rfl (qt_index rfl rfl rfl ulE1 szE1 (fun w M => lenA_rd hr15) (by omega) (by omega)) ?_
    refine gd_v (.free rfl) rfl rfl (qt_load1 rfl rfl Try.underlying2 rfl (fun w M => mem_rd M hr15) (by omega) (by omega)) ?_
    refine gd_v (.free rfl) rfl rfl (qt_move rfl rfl) ?_
    refine gd_v (.free rfl) rfl rfl (qt_move rfl rfl) ?_
    refine gd_v (.free rfl) rfl rfl (qt_index rfl rfl rfl ulE2 szE2 (fun w M => lenA_rd2 hu) (by omega) (by omega)) ?_
    refine gd_load2 (.free rfl) rfl rfl rfl rfl Try.underlying24 rfl hu (by omega) (by omega) ?_
    intro ra16 rc16 hr16
    refine gd_v (.free rfl) rfl rfl (qt_index rfl rfl rfl ulE1 szE1 (fun w M => lenA_rd hr16) (by omega) (by omega)) ?_
    refine gd_v (.free rfl) rfl rfl (qt_load1 rfl rfl Try.underlying2 rfl (fun w M => mem_rd M hr16) (by omega) (by omega)) ?_
    refine gd_v (.free rfl) rfl rfl (qt_assign rfl rfl) ?_
    refine gd_v (.free rfl) rfl rfl (qt_assign rfl rfl) ?_
    refine gd_nil ?_
    refine gk_then (hK14 _ _ ?_)
    refine gc_seq fun K17 hK17 => ?_
    refine gc_region ?_
    refine g_v (.free rfl) rfl rfl (qt_assign rfl rfl) ?_
    refine g_nil ?_
    refine gk_then (hK17 _ _ ?_)
    refine gc_block ?_
    try simp only [List.nil_append, List.cons_append, List.append_assoc, List.set_cons_succ, List.set_cons_zero]
    refine gc_loop ([(0, _), (1, _), (2, _), (4, _), (5, _), (7, _), (8, _), (9, _), (20, _)] : Env) (fun s : Nat × (Option Addr) × Nat × Nat × (List Value) => (fun (f : Nat) (an : Option Addr) (nl : Nat) (qn : Nat) (us : List Value) => ([(6, .slice an nl qn), (10, .int .i64 (f : Int))] : Env)) s.1 s.2.1 s.2.2.1 s.2.2.2.1 s.2.2.2.2) (fun s : Nat × (Option Addr) × Nat × Nat × (List Value) => (fun (f : Nat) (an : Option Addr) (nl : Nat) (qn : Nat) (us : List Value) => ([(1, own2U (.slice an nl qn) us (sprL c ps k f 0))] : List (Nat × Itm))) s.1 s.2.1 s.2.2.1 s.2.2.2.1 s.2.2.2.2) (fun s : Nat × (Option Addr) × Nat × Nat × (List Value) => (fun (f : Nat) (an : Option Addr) (nl : Nat) (qn : Nat) (us : List Value) => f ≤ c.s.length) s.1 s.2.1 s.2.2.1 s.2.2.2.1 s.2.2.2.2) (fun s : Nat × (Option Addr) × Nat × Nat × (List Value) => (fun (f : Nat) (an : Option Addr) (nl : Nat) (qn : Nat) (us : List Value) => c.s.length - f) s.1 s.2.1 s.2.2.1 s.2.2.2.1 s.2.2.2.2) (0, _, _, _, _) (sub_cons rfl (sub_cons rfl (sub_cons rfl (sub_cons rfl (sub_cons rfl (sub_cons rfl (sub_cons rfl (sub_cons rfl (sub_cons rfl (sub_cons rfl (sub_cons rfl sub_nil))))))))))) rfl (Nat.zero_le _) ?_
    rintro ⟨f, an, nl, qn, us⟩ hinv KL18 hKL18
    simp only [updL, List.foldl_cons, List.foldl_nil, List.set_cons_succ, List.set_cons_zero, List.cons_append, List.nil_append] at hinv hKL18 ⊢
    have hf := hinv
    refine gc_seq fun K19 hK19 => ?_
    refine gc_seq fun K20 hK20 => ?_
    refine gc_region ?_
    refine g_v (.free rfl) rfl rfl (qt_move rfl rfl) ?_
    refine g_v (.free rfl) rfl rfl (qt_move rfl rfl) ?_
    refine g_v (.free rfl) rfl rfl (qt_lss rfl rfl rfl) ?_
    refine g_nil ?_
    refine gk_then (hK20 _ _ ?_)
    refine gc_cond rfl (fun hc1 => ?_) (fun hc1 => ?_)
    · try simp only [decide_eq_true_eq, decide_eq_false_iff_not, Bool.not_eq_true', Bool.not_eq_false', Bool.not_eq_eq_eq_not, Bool.not_true, Bool.not_false, ne_eq, Decidable.not_not, Classical.not_not] at hc1
      refine gc_skip ?_
      refine gk_then (hK19 _ _ ?_)
      refine gc_seq fun K21 hK21 => ?_
      refine gc_block ?_
      refine gc_seq fun K22 hK22 => ?_
      refine gc_region ?_
      refine g_v (.free rfl) rfl rfl (qt_assign rfl rfl) ?_
      refine g_nil ?_
      refine gk_then (hK22 _ _ ?_)
      refine gc_block ?_
      try simp only [List.nil_append, List.cons_append, List.append_assoc, List.set_cons_succ, List.set_cons_zero]
      refine gc_loop ([(0, _), (1, _), (2, _), (4, _), (5, _), (7, _), (8, _), (9, _), (10, _), (20, _), (37, _)] : Env) (fun s : Nat × (Option Addr) × Nat × Nat × (List Value) => (fun (g : Nat) (an : Option Addr) (nl : Nat) (qn : Nat) (us : List Value) => ([(6, .slice an nl qn), (11, .int .i64 (g : Int))] : Env)) s.1 s.2.1 s.2.2.1 s.2.2.2.1 s.2.2.2.2) (fun s : Nat × (Option Addr) × Nat × Nat × (List Value) => (fun (g : Nat) (an : Option Addr) (nl : Nat) (qn : Nat) (us : List Value) => ([(1, own2U (.slice an nl qn) us (sprL c ps k f g))] : List (Nat × Itm))) s.1 s.2.1 s.2.2.1 s.2.2.2.1 s.2.2.2.2) (fun s : Nat × (Option Addr) × Nat × Nat × (List Value) => (fun (g : Nat) (an : Option Addr) (nl : Nat) (qn : Nat) (us : List Value) => g ≤ c.s.length) s.1 s.2.1 s.2.2.1 s.2.2.2.1 s.2.2.2.2) (fun s : Nat × (Option Addr) × Nat × Nat × (List Value) => (fun (g : Nat) (an : Option Addr) (nl : Nat) (qn : Nat) (us : List Value) => c.s.length - g) s.1 s.2.1 s.2.2.1 s.2.2.2.1 s.2.2.2.2) (0, _, _, _, _) (sub_cons rfl (sub_cons rfl (sub_cons rfl (sub_cons rfl (sub_cons rfl (sub_cons rfl (sub_cons rfl (sub_cons rfl (sub_cons rfl (sub_cons rfl (sub_cons rfl (sub_cons rfl (sub_cons rfl sub_nil))))))))))))) rfl (Nat.zero_le _) ?_
      rintro ⟨g, an, nl, qn, us⟩ hinv KL23 hKL23
      simp only [updL, List.foldl_cons, List.foldl_nil, List.set_cons_succ, List.set_cons_zero, List.cons_append, List.nil_append] at hinv hKL23 ⊢
      have hg := hinv
      refine gc_seq fun K24 hK24 => ?_
      refine gc_seq fun K25 hK25 => ?_
      refine gc_region ?_
      refine g_v (.free rfl) rfl rfl (qt_move rfl rfl) ?_
      refine g_v (.free rfl) rfl rfl (qt_move rfl rfl) ?_
      refine g_v (.free rfl) rfl rfl (qt_lss rfl rfl rfl) ?_
      refine g_nil ?_
      refine gk_then (hK25 _ _ ?_)
      refine gc_cond rfl (fun hc2 => ?_) (fun hc2 => ?_)
      · try simp only [decide_eq_true_eq, decide_eq_false_iff_not, Bool.not_eq_true', Bool.not_eq_false', Bool.not_eq_eq_eq_not, Bool.not_true, Bool.not_false, ne_eq, Decidable.not_not, Classical.not_not] at hc2
        refine gc_skip ?_
        refine gk_then (hK24 _ _ ?_)
        refine gc_seq fun K26 hK26 => ?_
        refine gc_block ?_
        refine gc_seq fun K27 hK27 => ?_
        have hpl := sprL_len hn40 (ps := ps) (k := k) (f := f) (m := g) hf hg
        refine gc_draw (by kernel_rfl) ?_
        refine gd_v (.free rfl) rfl rfl (qt_field (z := 0) (off := 2) rfl rfl Try.underlying27 rfl (by kernel_rfl) rfl) ?_
        refine gd_v (.free rfl) rfl rfl (qt_loadB (n := 0) rfl rfl Try.underlying24 rfl rfl rfl) ?_
        refine gd_v (.free rfl) rfl rfl (qt_move rfl rfl) ?_
        refine gd_v (.free rfl) rfl rfl (qt_index rfl rfl rfl ulE1 szE1 (fun w M => lenA_rd h2) (by omega) (by omega)) ?_
        refine gd_v (.free rfl) rfl rfl (qt_load1 rfl rfl Try.underlying2 rfl (fun w M => mem_rd M h2) (by omega) (by omega)) ?_
        refine gd_v (.free rfl) rfl rfl (qt_field (z := 0) (off := 1) rfl rfl Try.underlying27 rfl (by kernel_rfl) rfl) ?_
        refine gd_v (.free rfl) rfl rfl (qt_loadB (n := 0) rfl rfl Try.underlying24 rfl rfl rfl) ?_
        refine gd_v (.free rfl) rfl rfl (qt_move rfl rfl) ?_
        refine gd_v (.free rfl) rfl rfl (qt_index rfl rfl rfl ulE1 szE1 (fun w M => lenA_rd h1) (by omega) (by omega)) ?_
        refine gd_v (.free rfl) rfl rfl (qt_load1 rfl rfl Try.underlying2 rfl (fun w M => mem_rd M h1) (by omega) (by omega)) ?_
        refine gd_v (.free rfl) rfl rfl (qt_eql rfl rfl rfl) ?_
        refine gd_splitv (.free rfl) rfl rfl (qt_move rfl rfl) (fun hs13_11 => ?_) (fun hs13_11 => ?_)
        · try simp only [decide_eq_true_eq, decide_eq_false_iff_not, Bool.not_eq_true', Bool.not_eq_false', Bool.not_eq_eq_eq_not, Bool.not_true, Bool.not_false, ne_eq, Decidable.not_not, Classical.not_not] at hs13_11
          refine gd_v (.held _ _ _ rfl rfl rfl) rfl rfl (qt_field (z := 0) (off := 2) rfl rfl Try.underlying27 rfl (by kernel_rfl) rfl) ?_
          refine gd_v (.held _ _ _ rfl rfl rfl) rfl rfl (qt_loadB (n := 0) rfl rfl Try.underlying24 rfl rfl rfl) ?_
          refine gd_v (.held _ _ _ rfl rfl rfl) rfl rfl (qt_move rfl rfl) ?_
          refine gd_v (.held _ _ _ rfl rfl rfl) rfl rfl (qt_index rfl rfl rfl ulE1 szE1 (fun w M => lenA_rd h2) (by omega) (by omega)) ?_
          refine gd_v (.held _ _ _ rfl rfl rfl) rfl rfl (qt_load1 rfl rfl Try.underlying2 rfl (fun w M => mem_rd M h2) (by omega) (by omega)) ?_
          refine gd_v (.held _ _ _ rfl rfl rfl) rfl rfl (qt_field (z := 0) (off := 1) rfl rfl Try.underlying27 rfl (by kernel_rfl) rfl) ?_
          refine gd_v (.held _ _ _ rfl rfl rfl) rfl rfl (qt_loadB (n := 0) rfl rfl Try.underlying24 rfl rfl rfl) ?_
          refine gd_v (.held _ _ _ rfl rfl rfl) rfl rfl (qt_move rfl rfl) ?_
          refine gd_v (.held _ _ _ rfl rfl rfl) rfl rfl (qt_index rfl rfl rfl ulE1 szE1 (fun w M => lenA_rd h1) (by omega) (by omega)) ?_
          refine gd_v (.held _ _ _ rfl rfl rfl) rfl rfl (qt_load1 rfl rfl Try.underlying2 rfl (fun w M => mem_rd M h1) (by omega) (by omega)) ?_
          refine gd_v (.held _ _ _ rfl rfl rfl) rfl rfl (qt_eql rfl rfl rfl) ?_
          refine gd_v (.free rfl) rfl rfl (qt_pick_t rfl rfl rfl) ?_
          refine gd_nil ?_
          refine gk_then (hK27 _ _ ?_)
          refine gc_cond rfl (fun hc3 => ?_) (fun hc3 => ?_)
          · try simp only [decide_eq_true_eq, decide_eq_false_iff_not, Bool.not_eq_true', Bool.not_eq_false', Bool.not_eq_eq_eq_not, Bool.not_true, Bool.not_false, ne_eq, Decidable.not_not, Classical.not_not] at hc3
            have T1 := th_ends hS (f := (f : Int)) (g := at0 (row2 ps (k : Int)) 0) (by omega) (by omega) (by omega) (by omega) hs13_11
            have T2 := th_ends hS (f := (f : Int)) (g := at0 (row2 ps (k : Int)) 1) (by omega) (by omega) (by omega) (by omega) (hs13_11.trans hq.2.2.2.1)
            have u1 := T1.1.1; have u2 := T1.1.2; have u3 := T2.1.1; have u4 := T2.1.2
            have G0 := arrP hS (f := (f : Int)) (by omega) (by omega)
            have G1 := arrP hS u1 u2
            have G2 := arrP hS u3 u4
            have x1 := G0.fm; have x2 := G0.row; have x3 := G1.fm; have x4 := G1.row; have x5 := G2.fm; have x6 := G2.row
            try simp only [List.nil_append, List.cons_append, List.append_assoc, List.set_cons_succ, List.set_cons_zero]
            refine ga_start _ (fun w M => mem_erase 1 (M)) ?_
            refine ga_v 0 rfl (by kernel_rfl) (by kernel_rfl) (by kernel_rfl) (.free rfl) rfl rfl (qt_move rfl rfl) (fun _ _ _ h => h) ?_
            refine ga_v 1 rfl (by kernel_rfl) (by kernel_rfl) (by kernel_rfl) (.free rfl) rfl rfl (qt_loadS (n := 0) rfl rfl Try.underlying27 rfl (by kernel_rfl) rfl) (fun _ _ _ h => h) ?_
            refine ga_v 2 rfl (by kernel_rfl) (by kernel_rfl) (by kernel_rfl) (.free rfl) rfl rfl (qt_loadS (n := 0) rfl rfl Try.underlying27 rfl (by kernel_rfl) rfl) (fun _ _ _ h => h) ?_
            refine ga_v 3 rfl (by kernel_rfl) (by kernel_rfl) (by kernel_rfl) (.free rfl) rfl rfl (qt_move rfl rfl) (fun _ _ _ h => h) ?_
            refine ga_v 4 rfl (by kernel_rfl) (by kernel_rfl) (by kernel_rfl) (.free rfl) rfl rfl (qt_move rfl rfl) (fun _ _ _ h => h) ?_
            refine ga_v 6 rfl (by kernel_rfl) (by kernel_rfl) (by kernel_rfl) (.free rfl) rfl rfl (qt_move rfl rfl) (fun _ _ _ h => h) ?_
            refine ga_v 8 rfl (by kernel_rfl) (by kernel_rfl) (by kernel_rfl) (.free rfl) rfl rfl (qt_loadS (n := 0) rfl rfl Try.underlying27 rfl (by kernel_rfl) rfl) (fun _ _ _ h => h) ?_
            refine ga_v 9 rfl (by kernel_rfl) (by kernel_rfl) (by kernel_rfl) (.free rfl) rfl rfl (qt_loadS (n := 0) rfl rfl Try.underlying27 rfl (by kernel_rfl) rfl) (fun _ _ _ h => h) ?_
            refine ga_v 10 rfl (by kernel_rfl) (by kernel_rfl) (by kernel_rfl) (.free rfl) rfl rfl (qt_move rfl rfl) (fun _ _ _ h => h) ?_
            refine ga_v 11 rfl (by kernel_rfl) (by kernel_rfl) (by kernel_rfl) (.free rfl) rfl rfl (qt_move rfl rfl) (fun _ _ _ h => h) ?_
            refine ga_v 13 rfl (by kernel_rfl) (by kernel_rfl) (by kernel_rfl) (.free rfl) rfl rfl (qt_move rfl rfl) (fun _ _ _ h => h) ?_
            refine ga_op 5 (by kernel_rfl) rfl (.free rfl) fun K28 hK28 => ?_
            refine go_q rfl rfl (qt_call rfl Try.func170 rfl (by decide) rfl (fun w M => specThen_any w _ _ _ _ (mem_rdC M h0) (by first | assumption | omega) (by first | assumption | omega) (by first | assumption | omega) (by first | assumption | omega))) ?_
            refine hK28 _ _ (fun w M => (mem_erase 1 (mem_take 2 M) :)) ?_
            refine ga_op 7 (by kernel_rfl) rfl (.free rfl) fun K29 hK29 => ?_
            refine go_q rfl rfl (qt_call rfl Try.func170 rfl (by decide) rfl (fun w M => specThen_any w _ _ _ _ (mem_rdC M h0) (by first | assumption | omega) (by first | assumption | omega) (by first | assumption | omega) (by first | assumption | omega))) ?_
            refine hK29 _ _ (fun w M => (mem_erase 1 (mem_take 2 M) :)) ?_
            refine ga_op 12 (by kernel_rfl) rfl (.free rfl) fun K30 hK30 => ?_
            refine go_q rfl rfl (qt_call rfl Try.func170 rfl (by decide) rfl (fun w M => specThen_any w _ _ _ _ (mem_rdC M h0) (by first | assumption | omega) (by first | assumption | omega) (by first | assumption | omega) (by first | assumption | omega))) ?_
            refine hK30 _ _ (fun w M => (mem_erase 1 (mem_take 2 M) :)) ?_
            refine ga_op 14 (by kernel_rfl) rfl (.free rfl) fun K31 hK31 => ?_
            refine go_q rfl rfl (qt_call rfl Try.func170 rfl (by decide) rfl (fun w M => specThen_any w _ _ _ _ (mem_rdC M h0) (by first | assumption | omega) (by first | assumption | omega) (by first | assumption | omega) (by first | assumption | omega))) ?_
            refine hK31 _ _ (fun w M => (mem_erase 1 (mem_take 2 M) :)) ?_
            refine ga_op 15 (by kernel_rfl) rfl (.free rfl) fun K33 hK33 => ?_
            refine go_slice2 rfl rfl rfl rfl rfl Try.underlying24 ?_
            intro B32
            refine hK33 _ _ (fun w M => (mem_erase 1 (mem_take 2 M) :)) ?_
            refine ga_op 16 (by kernel_rfl) rfl (.free rfl) fun K35 hK35 => ?_
            refine go_sliceR1 (m := 2) rfl rfl rfl rfl Try.underlying25 rfl ?_
            intro B34
            refine hK35 _ _ (fun w M => (mem_erase 1 (mem_take 2 M) :)) ?_
            refine ga_op 17 (by kernel_rfl) rfl (.free rfl) fun K37 hK37 => ?_
            refine go_appendRow (n := 1) (m := 2) (m' := 1) rfl rfl rfl Try.underlying25 rfl rfl rfl rfl rfl (by omega) ?_
            intro va36 vc36
            refine hK37 _ _ (fun w M => (mem_erase 1 (mem_take 2 M) :)) ?_
            refine ga_v 18 rfl (by kernel_rfl) (by kernel_rfl) (by kernel_rfl) (.free rfl) rfl rfl (qt_assign rfl rfl) (fun _ _ _ h => h) ?_
            refine ga_done (by kernel_rfl) ?_
            refine gk_block ?_
            refine gk_then (hK26 _ _ ?_)
            refine gc_region ?_
            refine g_v (.free rfl) rfl rfl (qt_move rfl rfl) ?_
            refine g_v (.free rfl) rfl rfl (qt_add rfl rfl rfl (by omega)) ?_
            refine g_v (.free rfl) rfl rfl (qt_assign rfl rfl) ?_
            refine g_nil ?_
            rw [compS_def]
            simp only [sprL_t (c := c) (ps := ps) (k := k) (f := f) (m := g) ⟨hs13_11, by assumption⟩]
            refine gk_then (gk_take 2 ?_)
            refine gk_sub ?hs_38 (hKL23 (g + 1, _, _, _, _) ?hi_38 ?hm_38)
            case hs_38 => exact (sub_cons rfl (sub_cons rfl (sub_cons rfl (sub_cons rfl (sub_cons rfl (sub_cons rfl (sub_cons rfl (sub_cons rfl (sub_cons rfl (sub_cons rfl (sub_cons rfl (sub_cons rfl (sub_cons rfl sub_nil)))))))))))))
            case hi_38 => omega
            case hm_38 => omega
          · try simp only [decide_eq_true_eq, decide_eq_false_iff_not, Bool.not_eq_true', Bool.not_eq_false', Bool.not_eq_eq_eq_not, Bool.not_true, Bool.not_false, ne_eq, Decidable.not_not, Classical.not_not] at hc3
            refine gc_skip ?_
            refine gk_block ?_
            refine gk_then (hK26 _ _ ?_)
            refine gc_region ?_
            refine g_v (.free rfl) rfl rfl (qt_move rfl rfl) ?_
            refine g_v (.free rfl) rfl rfl (qt_add rfl rfl rfl (by omega)) ?_
            refine g_v (.free rfl) rfl rfl (qt_assign rfl rfl) ?_
            refine g_nil ?_
            rw [sprL_f (c := c) (ps := ps) (k := k) (f := f) (m := g) (fun hh => absurd hh.2 (by assumption))]
            refine gk_then (gk_take 2 ?_)
            refine gk_sub ?hs_39 (hKL23 (g + 1, _, _, _, _) ?hi_39 ?hm_39)
            case hs_39 => exact (sub_cons rfl (sub_cons rfl (sub_cons rfl (sub_cons rfl (sub_cons rfl (sub_cons rfl (sub_cons rfl (sub_cons rfl (sub_cons rfl (sub_cons rfl (sub_cons rfl (sub_cons rfl (sub_cons rfl sub_nil)))))))))))))
            case hi_39 => omega
            case hm_39 => omega
        · try simp only [decide_eq_true_eq, decide_eq_false_iff_not, Bool.not_eq_true', Bool.not_eq_false', Bool.not_eq_eq_eq_not, Bool.not_true, Bool.not_false, ne_eq, Decidable.not_not, Classical.not_not] at hs13_11
          refine gd_skip (.not _ _ _ _ rfl rfl rfl rfl) rfl rfl ?_
          refine gd_skip (.not _ _ _ _ rfl rfl rfl rfl) rfl rfl ?_
          refine gd_skip (.not _ _ _ _ rfl rfl rfl rfl) rfl rfl ?_
          refine gd_skip (.not _ _ _ _ rfl rfl rfl rfl) rfl rfl ?_
          refine gd_skip (.not _ _ _ _ rfl rfl rfl rfl) rfl rfl ?_
          refine gd_skip (.not _ _ _ _ rfl rfl rfl rfl) rfl rfl ?_
          refine gd_skip (.not _ _ _ _ rfl rfl rfl rfl) rfl rfl ?_
          refine gd_skip (.not _ _ _ _ rfl rfl rfl rfl) rfl rfl ?_
          refine gd_skip (.not _ _ _ _ rfl rfl rfl rfl) rfl rfl ?_
          refine gd_skip (.not _ _ _ _ rfl rfl rfl rfl) rfl rfl ?_
          refine gd_skip (.not _ _ _ _ rfl rfl rfl rfl) rfl rfl ?_
          refine gd_v (.free rfl) rfl rfl (qt_pick_f rfl rfl rfl) ?_
          refine gd_nil ?_
          refine gk_then (hK27 _ _ ?_)
          refine gc_cond_f rfl ?_
          refine gc_skip ?_
          refine gk_block ?_
          refine gk_then (hK26 _ _ ?_)
          refine gc_region ?_
          refine g_v (.free rfl) rfl rfl (qt_move rfl rfl) ?_
          refine g_v (.free rfl) rfl rfl (qt_add rfl rfl rfl (by omega)) ?_
          refine g_v (.free rfl) rfl rfl (qt_assign rfl rfl) ?_
          refine g_nil ?_
          rw [sprL_f (c := c) (ps := ps) (k := k) (f := f) (m := g) (fun hh => hs13_11 hh.1)]
          refine gk_then (gk_take 2 ?_)
          refine gk_sub ?hs_40 (hKL23 (g + 1, _, _, _, _) ?hi_40 ?hm_40)
          case hs_40 => exact (sub_cons rfl (sub_cons rfl (sub_cons rfl (sub_cons rfl (sub_cons rfl (sub_cons rfl (sub_cons rfl (sub_cons rfl (sub_cons rfl (sub_cons rfl (sub_cons rfl (sub_cons rfl (sub_cons rfl sub_nil)))))))))))))
          case hi_40 => omega
          case hm_40 => omega
      · try simp only [decide_eq_true_eq, decide_eq_false_iff_not, Bool.not_eq_true', Bool.not_eq_false', Bool.not_eq_eq_eq_not, Bool.not_true, Bool.not_false, ne_eq, Decidable.not_not, Classical.not_not] at hc2
        refine gc_exit ?_
        refine gk_then_exit ?_
        refine gk_then_exit ?_
        refine gk_block_hit ?_
        refine gk_block ?_
        refine gk_then (hK21 _ _ ?_)
        refine gc_region ?_
        refine g_v (.free rfl) rfl rfl (qt_move rfl rfl) ?_
        refine g_v (.free rfl) rfl rfl (qt_add rfl rfl rfl (by omega)) ?_
        refine g_v (.free rfl) rfl rfl (qt_assign rfl rfl) ?_
        refine g_nil ?_
        obtain rfl : g = c.s.length := by omega
        rw [sprL_row]
        refine gk_then (gk_take 2 ?_)
        refine gk_sub ?hs_41 (hKL18 (f + 1, _, _, _, _) ?hi_41 ?hm_41)
        case hs_41 => exact (sub_cons rfl (sub_cons rfl (sub_cons rfl (sub_cons rfl (sub_cons rfl (sub_cons rfl (sub_cons rfl (sub_cons rfl (sub_cons rfl (sub_cons rfl (sub_cons rfl sub_nil)))))))))))
        case hi_41 => omega
        case hm_41 => omega
    · try simp only [decide_eq_true_eq, decide_eq_false_iff_not, Bool.not_eq_true', Bool.not_eq_false', Bool.not_eq_eq_eq_not, Bool.not_true, Bool.not_false, ne_eq, Decidable.not_not, Classical.not_not] at hc1
      refine gc_exit ?_
      refine gk_then_exit ?_
      refine gk_then_exit ?_
      refine gk_block_hit ?_
      refine gk_block ?_
      refine gk_then (hK13 _ _ ?_)
      refine gc_region ?_
      refine g_v (.free rfl) rfl rfl (qt_move rfl rfl) ?_
      refine g_v (.free rfl) rfl rfl (qt_add rfl rfl rfl (by omega)) ?_
      refine g_v (.free rfl) rfl rfl (qt_assign rfl rfl) ?_
      refine g_nil ?_
      obtain rfl : f = c.s.length := by omega
      rw [sprL_pair]
      refine gk_then (gk_take 2 ?_)
      refine gk_sub ?hs_42 (hKL10 (k + 1, _, _, _, _) ?hi_42 ?hm_42)
      case hs_42 => exact (sub_cons rfl (sub_cons rfl (sub_cons rfl (sub_cons rfl (sub_cons rfl (sub_cons rfl (sub_cons rfl sub_nil)))))))
      case hi_42 => omega
      case hm_42 => omega
  · try simp only [decide_eq_true_eq, decide_eq_false_iff_not, Bool.not_eq_true', Bool.not_eq_false', Bool.not_eq_eq_eq_not, Bool.not_true, Bool.not_false, ne_eq, Decidable.not_not, Classical.not_not] at hc0
    refine gc_exit ?_
    refine gk_then_exit ?_
    refine gk_then_exit ?_
    refine gk_block_hit ?_
    refine gk_then (hK8 _ _ ?_)
    refine gc_seq fun K43 hK43 => ?_
    obtain rfl : k = ps.length := by omega
    refine gc_region ?_
    refine g_v (.free rfl) rfl rfl (qt_move rfl rfl) ?_
    refine g_v (.free rfl) rfl rfl (qt_move rfl rfl) ?_
    refine g_op (.free rfl) fun K45 hK45 => ?_
    refine go_callL rfl rfl rfl Try.func171 rfl (by decide) rfl (fun w M => specJoin_any w (c.s.length) _ (sprL c ps ps.length 0 0) (by first | assumption | omega) (mem_rdU (n := 1) M rfl) (fun r hr => (spread_pair hC hps r (by rw [← sprL_end]; exact hr)).1)) ?_
    intro va44 vc44
    refine hK45 _ _ ?_
    refine g_v (.free rfl) rfl rfl (qt_assign rfl rfl) ?_
    refine g_nil ?_
    refine gk_then (hK43 _ _ ?_)
    refine gc_ret ?_
    refine ret_1 rfl rfl  (fun w M => ?_)
    rw [← sprL_end]
    exact ⟨_, rfl, mem_own1 (n := 2) M rfl, M.1⟩


theorem plist_at {p : List Int} {k : Nat} (hk : k < p.length) : (row2 (plist p p.length) (k : Int)).length = 2 ∧ at0 (row2 (plist p p.length) (k : Int)) 0 = (lfN p k : Int) ∧ at0 (row2 (plist p p.length) (k : Int)) 1 = (k : Int) := by
  have h : row2 (plist p p.length) (k : Int) = [(lfN p k : Int), (k : Int)] := by simp [row2, plist, List.getD_eq_getElem?_getD, List.getElem?_eq_getElem, hk, lfN, at0_nat]
  rw [h]; exact ⟨rfl, rfl, rfl⟩

set_option maxHeartbeats 1000000 in
set_option maxRecDepth 100000 in
theorem specCong_any (w : World) (v : Value) (c : Cat) (h : RdC w v c) (u : Value) (p : List Int) (hu : Rd w u p) (hC : IsCat c) :
    Calls Try.prog 113 #[v, u] w (RetB w (bP (congM c p))) := by
  have h0 := h
  obtain ⟨va, vb, vc, vd, ve, vf, vg, vh, rfl, h1, h2, h3, h4, _⟩ := h.lists
  obtain ⟨ua, uc, rfl⟩ := rd_form hu
  have hS := hC.toShapeP
  have hn40 := hS.n40; have htl := hS.tl; have hel := hS.el; have hob0 := hS.ob0; have hob8 := hS.ob8; have hml := hS.ml
  have hpl := plist_len p p.length
  go_enter Try.func113, Try.ntmps113
  refine gc_enter (N := 46) rfl (look_cons (k := 0) rfl (look_cons (k := 1) rfl (look_nil _))) ?_
  refine gc_seq fun K1 hK1 => ?_
  refine gc_region ?_
  refine g_op (.free rfl) fun K3 hK3 => ?_
  refine go_box rfl rfl rfl rfl rfl ?_
  intro B2
  refine hK3 _ _ ?_
  refine g_v (.free rfl) rfl rfl (qt_assign rfl rfl) ?_
  refine g_nil ?_
  refine gk_then (hK1 _ _ ?_)
  refine gc_seq fun K4 hK4 => ?_
  refine gc_seq fun K5 hK5 => ?_
  refine gc_region ?_
  refine g_v (.free rfl) rfl rfl (qt_move rfl rfl) ?_
  refine g_v (.free rfl) rfl rfl (qt_len rfl rfl ulE1 (fun w M => lenV_rd hu)) ?_
  refine g_v (.free rfl) rfl rfl (qt_field (z := 0) (off := 1) rfl rfl Try.underlying27 rfl (by kernel_rfl) rfl) ?_
  refine g_v (.free rfl) rfl rfl (qt_loadB (n := 0) rfl rfl Try.underlying24 rfl rfl rfl) ?_
  refine g_v (.free rfl) rfl rfl (qt_len rfl rfl ulE1 (fun w M => lenV_rd h1)) ?_
  refine g_v (.free rfl) rfl rfl (qt_neq rfl rfl rfl) ?_
  refine g_splitv (.free rfl) rfl rfl (qt_move rfl rfl) (fun hs1_6 => ?_) (fun hs1_6 => ?_)
  · try simp only [decide_eq_true_eq, decide_eq_false_iff_not, Bool.not_eq_true', Bool.not_eq_false', Bool.not_eq_eq_eq_not, Bool.not_true, Bool.not_false, ne_eq, Decidable.not_not, Classical.not_not] at hs1_6
    refine g_skip (.not _ _ _ _ rfl rfl rfl rfl) rfl rfl ?_
    refine g_skip (.not _ _ _ _ rfl rfl rfl rfl) rfl rfl ?_
    refine g_skip (.not _ _ _ _ rfl rfl rfl rfl) rfl rfl ?_
    refine g_v (.free rfl) rfl rfl (qt_pick_t rfl rfl rfl) ?_
    refine g_nil ?_
    refine gk_then (hK5 _ _ ?_)
    refine gc_cond_t rfl ?_
    refine gc_seq fun K6 hK6 => ?_
    refine gc_region ?_
    refine g_v (.free rfl) rfl rfl (qt_assign rfl rfl) ?_
    refine g_nil ?_
    refine gk_then (hK6 _ _ ?_)
    refine gc_ret ?_
    refine gk_then_ret ?_
    refine ret_1 rfl rfl  (fun w M => ?_)
    rw [bP_f (fun hh : congM c p => by have := hh.1.1; omega)]; exact ⟨rfl, M.1⟩
  · try simp only [decide_eq_true_eq, decide_eq_false_iff_not, Bool.not_eq_true', Bool.not_eq_false', Bool.not_eq_eq_eq_not, Bool.not_true, Bool.not_false, ne_eq, Decidable.not_not, Classical.not_not] at hs1_6
    refine g_v (.held _ _ _ rfl rfl rfl) rfl rfl (qt_move rfl rfl) ?_
    refine g_q (.held _ _ _ rfl rfl rfl) rfl rfl (qt_call rfl Try.func164 rfl (by decide) rfl (fun w M => spec_IsPartition w _ _ (mem_rd M hu))) ?_
    refine g_v (.held _ _ _ rfl rfl rfl) rfl rfl (qt_not rfl rfl) ?_
    refine g_v (.free rfl) rfl rfl (qt_pick_f rfl rfl rfl) ?_
    refine g_nil ?_
    refine gk_then (hK5 _ _ ?_)
    refine gc_cond rfl (fun hc0 => ?_) (fun hc0 => ?_)
    · try simp only [decide_eq_true_eq, decide_eq_false_iff_not, Bool.not_eq_true', Bool.not_eq_false', Bool.not_eq_eq_eq_not, Bool.not_true, Bool.not_false, ne_eq, Decidable.not_not, Classical.not_not] at hc0
      refine gc_seq fun K7 hK7 => ?_
      refine gc_region ?_
      refine g_v (.free rfl) rfl rfl (qt_assign rfl rfl) ?_
      refine g_nil ?_
      refine gk_then (hK7 _ _ ?_)
      refine gc_ret ?_
      refine gk_then_ret ?_
      refine ret_1 rfl rfl  (fun w M => ?_)
      rw [bP_f (fun hh : congM c p => (of_decide_eq_false hc0) hh.1.2)]; exact ⟨rfl, M.1⟩
    · try simp only [decide_eq_true_eq, decide_eq_false_iff_not, Bool.not_eq_true', Bool.not_eq_false', Bool.not_eq_eq_eq_not, Bool.not_true, Bool.not_false, ne_eq, Decidable.not_not, Classical.not_not] at hc0
      refine gc_skip ?_
      refine gk_then (hK4 _ _ ?_)
      refine gc_seq fun K8 hK8 => ?_
      have hPp : PartP p := of_decide_eq_true hc0
      have hP2 := hPp.1
      refine gc_region ?_
      refine g_v (.free rfl) rfl rfl (qt_move rfl rfl) ?_
      refine g_op (.free rfl) fun K10 hK10 => ?_
      refine go_callR rfl rfl rfl Try.func165 rfl (by decide) rfl (fun w M => specPairsR_any w _ _ (mem_rd M hu) (by first | assumption | omega)) ?_
      intro va9 vc9 us9
      refine hK10 _ _ ?_
      refine g_v (.free rfl) rfl rfl (qt_assign rfl rfl) ?_
      refine g_nil ?_
      refine gk_then (hK8 _ _ ?_)
      refine gc_seq fun K11 hK11 => ?_
      refine gc_seq fun K12 hK12 => ?_
      refine gc_region ?_
      refine g_v (.free rfl) rfl rfl (qt_assign rfl rfl) ?_
      refine g_nil ?_
      refine gk_then (hK12 _ _ ?_)
      refine gc_block ?_
      try simp only [List.nil_append, List.cons_append, List.append_assoc, List.set_cons_succ, List.set_cons_zero]
      refine gc_loop ([(0, _), (1, _), (2, _), (5, _), (17, _)] : Env) (fun s : Nat => (fun (k : Nat) => ([(6, .int .i64 (k : Int))] : Env)) s) (fun s : Nat => (fun (k : Nat) => ([] : List (Nat × Itm))) s) (fun s : Nat => (fun (k : Nat) => k ≤ c.s.length ∧ ∀ j : Nat, j < k → Par c (lfN p j) j) s) (fun s : Nat => (fun (k : Nat) => c.s.length - k) s) (0) (sub_cons rfl (sub_cons rfl (sub_cons rfl (sub_cons rfl (sub_cons rfl (sub_cons rfl sub_nil)))))) rfl ⟨Nat.zero_le _, fun f hf => absurd hf (by omega)⟩ ?_
      rintro k hinv KL13 hKL13
      simp only [updL, List.foldl_cons, List.foldl_nil, List.set_cons_succ, List.set_cons_zero, List.cons_append, List.nil_append] at hinv hKL13 ⊢
      obtain ⟨hk, hall⟩ := hinv
      refine gc_seq fun K14 hK14 => ?_
      refine gc_seq fun K15 hK15 => ?_
      refine gc_region ?_
      refine g_v (.free rfl) rfl rfl (qt_move rfl rfl) ?_
      refine g_v (.free rfl) rfl rfl (qt_move rfl rfl) ?_
      refine g_v (.free rfl) rfl rfl (qt_len rfl rfl ulE2 (fun w M => lenV_U (n := 1) rfl M)) ?_
      refine g_v (.free rfl) rfl rfl (qt_lss rfl rfl rfl) ?_
      refine g_nil ?_
      refine gk_then (hK15 _ _ ?_)
      refine gc_cond rfl (fun hc1 => ?_) (fun hc1 => ?_)
      · try simp only [decide_eq_true_eq, decide_eq_false_iff_not, Bool.not_eq_true', Bool.not_eq_false', Bool.not_eq_eq_eq_not, Bool.not_true, Bool.not_false, ne_eq, Decidable.not_not, Classical.not_not] at hc1
        refine gc_skip ?_
        refine gk_then (hK14 _ _ ?_)
        refine gc_seq fun K16 hK16 => ?_
        refine gc_block ?_
        refine gc_seq fun K17 hK17 => ?_
        have hq := plist_at (p := p) (k := k) (by omega)
        have q1 := hq.1
        have q2 := hq.2.1
        have q3 := hq.2.2
        have q4 := lf_lt (p := p) (k := k) (by omega)
        refine gc_draw (by kernel_rfl) ?_
        refine gd_v (.free rfl) rfl rfl (qt_loadS (n := 0) rfl rfl Try.underlying27 rfl (by kernel_rfl) rfl) ?_
        refine gd_v (.free rfl) rfl rfl (qt_move rfl rfl) ?_
        refine gd_v (.free rfl) rfl rfl (qt_move rfl rfl) ?_
        refine gd_v (.free rfl) rfl rfl (qt_index rfl rfl rfl ulE2 szE2 (fun w M => lenA_U (n := 1) rfl M) (by omega) (by omega)) ?_
        refine gd_v (.free rfl) rfl rfl (qt_loadU (n := 1) rfl rfl Try.underlying24 rfl rfl (by omega) (by omega)) ?_
        refine gd_v (.free rfl) rfl rfl (qt_index rfl rfl rfl ulE1 szE1 (fun w M => lenA_row (n := 1) rfl (by omega) (by omega) M) (by omega) (by omega)) ?_
        refine gd_v (.free rfl) rfl rfl (qt_load1 rfl rfl Try.underlying2 rfl (fun w M => mem_rowU (n := 1) M rfl (by omega) (by omega)) (by omega) (by omega)) ?_
        refine gd_v (.free rfl) rfl rfl (qt_move rfl rfl) ?_
        refine gd_v (.free rfl) rfl rfl (qt_move rfl rfl) ?_
        refine gd_v (.free rfl) rfl rfl (qt_index rfl rfl rfl ulE2 szE2 (fun w M => lenA_U (n := 1) rfl M) (by omega) (by omega)) ?_
        refine gd_v (.free rfl) rfl rfl (qt_loadU (n := 1) rfl rfl Try.underlying24 rfl rfl (by omega) (by omega)) ?_
        refine gd_v (.free rfl) rfl rfl (qt_index rfl rfl rfl ulE1 szE1 (fun w M => lenA_row (n := 1) rfl (by omega) (by omega) M) (by omega) (by omega)) ?_
        refine gd_v (.free rfl) rfl rfl (qt_load1 rfl rfl Try.underlying2 rfl (fun w M => mem_rowU (n := 1) M rfl (by omega) (by omega)) (by omega) (by omega)) ?_
        refine gd_q (.free rfl) rfl rfl (qt_call rfl Try.func116 rfl (by decide) rfl (fun w M => specPar_any w _ _ (mem_rdC M h0) _ _ (by first | assumption | omega) (by first | assumption | omega) (by first | assumption | omega) (by first | assumption | omega) (by first | assumption | omega))) ?_
        refine gd_v (.free rfl) rfl rfl (qt_not rfl rfl) ?_
        refine gd_nil ?_
        refine gk_then (hK17 _ _ ?_)
        refine gc_cond rfl (fun hc2 => ?_) (fun hc2 => ?_)
        · try simp only [decide_eq_true_eq, decide_eq_false_iff_not, Bool.not_eq_true', Bool.not_eq_false', Bool.not_eq_eq_eq_not, Bool.not_true, Bool.not_false, ne_eq, Decidable.not_not, Classical.not_not] at hc2
          refine gc_seq fun K18 hK18 => ?_
          refine gc_region ?_
          refine g_v (.free rfl) rfl rfl (qt_assign rfl rfl) ?_
          refine g_nil ?_
          refine gk_then (hK18 _ _ ?_)
          refine gc_ret ?_
          refine gk_block_ret ?_
          refine gk_then_ret ?_
          refine gk_then_ret ?_
          refine gk_block_ret ?_
          refine gk_then_ret ?_
          refine ret_1 rfl rfl  (fun w M => ?_)
          rw [bP_f (fun hh : congM c p => bP_f' hc2 (by rw [q2, q3]; exact hh.2.1 k (by omega)))]; exact ⟨rfl, M.1⟩
        · try simp only [decide_eq_true_eq, decide_eq_false_iff_not, Bool.not_eq_true', Bool.not_eq_false', Bool.not_eq_eq_eq_not, Bool.not_true, Bool.not_false, ne_eq, Decidable.not_not, Classical.not_not] at hc2
          refine gc_skip ?_
          refine gk_block ?_
          refine gk_then (hK16 _ _ ?_)
          refine gc_region ?_
          refine g_v (.free rfl) rfl rfl (qt_move rfl rfl) ?_
          refine g_v (.free rfl) rfl rfl (qt_add rfl rfl rfl (by omega)) ?_
          refine g_v (.free rfl) rfl rfl (qt_assign rfl rfl) ?_
          refine g_nil ?_
          refine gk_then (gk_take 2 ?_)
          refine gk_sub ?hs_19 (hKL13 (k + 1) ?hi_19 ?hm_19)
          case hs_19 => exact (sub_cons rfl (sub_cons rfl (sub_cons rfl (sub_cons rfl (sub_cons rfl (sub_cons rfl sub_nil))))))
          case hi_19 => exact ⟨by omega, all_next hall (by have h1 := bP_t' hc2; rw [q2, q3] at h1; exact h1)⟩
          case hm_19 => omega
      · try simp only [decide_eq_true_eq, decide_eq_false_iff_not, Bool.not_eq_true', Bool.not_eq_false', Bool.not_eq_eq_eq_not, Bool.not_true, Bool.not_false, ne_eq, Decidable.not_not, Classical.not_not] at hc1
        refine gc_exit ?_
        refine gk_then_exit ?_
        refine gk_then_exit ?_
        refine gk_block_hit ?_
        refine gk_then (hK11 _ _ ?_)
        refine gc_seq fun K20 hK20 => ?_
        obtain rfl : k = c.s.length := by omega
        refine gc_region ?_
        refine g_v (.free rfl) rfl rfl (qt_move rfl rfl) ?_
        refine g_v (.free rfl) rfl rfl (qt_loadS (n := 0) rfl rfl Try.underlying27 rfl (by kernel_rfl) rfl) ?_
        refine g_v (.free rfl) rfl rfl (qt_move rfl rfl) ?_
        refine g_op (.free rfl) fun K22 hK22 => ?_
        refine go_callL rfl rfl rfl Try.func117 rfl (by decide) rfl (fun w M => specSpread_any w _ _ (mem_rdC M h0) _ _ (mem_rdU (n := 1) M rfl) (hC) (plist_par (by omega) hall) (by first | assumption | omega)) ?_
        intro va21 vc21
        refine hK22 _ _ ?_
        refine g_q (.free rfl) rfl rfl (qt_call rfl Try.func166 rfl (by decide) rfl (fun w M => specSame_any w _ _ _ _ (mem_rd M hu) ((mem_own1 (n := 2) M rfl).rd))) ?_
        refine g_v (.free rfl) rfl rfl (qt_assign rfl rfl) ?_
        refine g_nil ?_
        refine gk_then (hK20 _ _ ?_)
        refine gc_ret ?_
        refine ret_1 rfl rfl  (fun w M => ?_)
        rw [← bP_dec, show bP (congM c p) = bP (p = clsOf (specL c.s.length (spread c (plist p p.length)))) from bP_congr ⟨fun hh => hh.2.2, fun hh => ⟨⟨by omega, hPp⟩, hall, hh⟩⟩]; exact ⟨rfl, M.1⟩

set_option maxHeartbeats 1000000 in
set_option maxRecDepth 100000 in
theorem spec_IsCongruence (w : World) (v : Value) (c : Cat) (u : Value) (p : List Int) (h : RdC w v c) (hu : Rd w u p) :
    Calls Try.prog 50 #[v, u] w (RetBI w (fIsCongruence c p).1 (fIsCongruence c p).2) := by
  have h0 := h
  obtain ⟨va, vb, vc, vd, ve, vf, vg, vh, rfl, h1, h2, h3, h4, _⟩ := h.lists
  obtain ⟨ua, uc, rfl⟩ := rd_form hu
  go_enter Try.func50, Try.ntmps50
  refine gc_enter (N := 12) rfl (look_cons (k := 0) rfl (look_cons (k := 1) rfl (look_nil _))) ?_
  refine gc_seq fun K1 hK1 => ?_
  refine gc_region ?_
  refine g_op (.free rfl) fun K3 hK3 => ?_
  refine go_box rfl rfl rfl rfl rfl ?_
  intro B2
  refine hK3 _ _ ?_
  refine g_v (.free rfl) rfl rfl (qt_assign rfl rfl) ?_
  refine g_v (.free rfl) rfl rfl (qt_assign rfl rfl) ?_
  refine g_nil ?_
  refine gk_then (hK1 _ _ ?_)
  refine gc_seq fun K4 hK4 => ?_
  refine gc_seq fun K5 hK5 => ?_
  refine gc_region ?_
  refine g_v (.free rfl) rfl rfl (qt_loadS (n := 0) rfl rfl Try.underlying27 rfl (by kernel_rfl) rfl) ?_
  refine g_q (.free rfl) rfl rfl (qt_call rfl Try.func84 rfl (by decide) rfl (fun w M => specIs_any w _ _ (mem_rdC M h0))) ?_
  refine g_v (.free rfl) rfl rfl (qt_not rfl rfl) ?_
  refine g_nil ?_
  refine gk_then (hK5 _ _ ?_)
  refine gc_cond rfl (fun hc0 => ?_) (fun hc0 => ?_)
  · try simp only [decide_eq_true_eq, decide_eq_false_iff_not, Bool.not_eq_true', Bool.not_eq_false', Bool.not_eq_eq_eq_not, Bool.not_true, Bool.not_false, ne_eq, Decidable.not_not, Classical.not_not] at hc0
    refine gc_seq fun K6 hK6 => ?_
    refine gc_region ?_
    refine g_v (.free rfl) rfl rfl (qt_assign rfl rfl) ?_
    refine g_v (.free rfl) rfl rfl (qt_assign rfl rfl) ?_
    refine g_nil ?_
    refine gk_then (hK6 _ _ ?_)
    refine gc_ret ?_
    refine gk_then_ret ?_
    refine ret_2 rfl rfl rfl  (fun w M => ?_)
    rw [cg_f hc0]; exact ⟨rfl, M.1⟩
  · try simp only [decide_eq_true_eq, decide_eq_false_iff_not, Bool.not_eq_true', Bool.not_eq_false', Bool.not_eq_eq_eq_not, Bool.not_true, Bool.not_false, ne_eq, Decidable.not_not, Classical.not_not] at hc0
    refine gc_skip ?_
    refine gk_then (hK4 _ _ ?_)
    refine gc_seq fun K7 hK7 => ?_
    refine gc_region ?_
    refine g_v (.free rfl) rfl rfl (qt_loadS (n := 0) rfl rfl Try.underlying27 rfl (by kernel_rfl) rfl) ?_
    refine g_v (.free rfl) rfl rfl (qt_move rfl rfl) ?_
    refine g_q (.free rfl) rfl rfl (qt_call rfl Try.func113 rfl (by decide) rfl (fun w M => specCong_any w _ _ (mem_rdC M h0) _ _ (mem_rd M hu) (isCat_of hc0))) ?_
    refine g_v (.free rfl) rfl rfl (qt_assign rfl rfl) ?_
    refine g_v (.free rfl) rfl rfl (qt_assign rfl rfl) ?_
    refine g_nil ?_
    refine gk_then (hK7 _ _ ?_)
    refine gc_ret ?_
    refine ret_2 rfl rfl rfl  (fun w M => ?_)
    rw [cg_t hc0]; exact ⟨rfl, M.1⟩

set_option maxHeartbeats 1000000 in
set_option maxRecDepth 100000 in
theorem leastsP_any (w : World) (v : Value) (p : List Int) (h : Rd w v p) (hp : p = clsOf p) :
    Calls Try.prog 168 #[v] w (RetL w (lstL p (nC p p.length))) := by
  obtain ⟨va, vc, rfl⟩ := rd_form h
  have hxl : p.length ≤ 17592186044415 := by obtain ⟨_, _, _, hl, _⟩ := h; exact hl
  go_enter Try.func168, Try.ntmps168
  refine gc_enter (N := 23) rfl (look_cons (k := 0) rfl (look_nil _)) ?_
  refine gc_seq fun K1 hK1 => ?_
  refine gc_region ?_
  refine g_v (.free rfl) rfl rfl (qt_assign rfl rfl) ?_
  refine g_nil ?_
  refine gk_then (hK1 _ _ ?_)
  refine gc_seq fun K2 hK2 => ?_
  refine gc_region ?_
  refine g_v (.free rfl) rfl rfl (qt_assign rfl rfl) ?_
  refine g_nil ?_
  refine gk_then (hK2 _ _ ?_)
  refine gc_seq fun K3 hK3 => ?_
  refine gc_seq fun K4 hK4 => ?_
  refine gc_region ?_
  refine g_v (.free rfl) rfl rfl (qt_move rfl rfl) ?_
  refine g_v (.free rfl) rfl rfl (qt_len rfl rfl ulEP (fun w M => lenV_rd h)) ?_
  refine g_v (.free rfl) rfl rfl (qt_move rfl rfl) ?_
  refine g_nil ?_
  refine gk_then (hK4 _ _ ?_)
  refine gc_block ?_
  refine gc_nilS ?_
  try simp only [List.nil_append, List.cons_append, List.append_assoc, List.set_cons_succ, List.set_cons_zero]
  refine gc_loop ([(0, _), (2, _), (6, _), (7, _)] : Env) (fun s : Nat × (Option Addr) × Nat => (fun (k : Nat) (a : Option Addr) (q : Nat) => ([(3, .slice a (lstL p (nC p k)).length q), (8, .int .i64 (k : Int))] : Env)) s.1 s.2.1 s.2.2) (fun s : Nat × (Option Addr) × Nat => (fun (k : Nat) (a : Option Addr) (q : Nat) => ([(0, own1I (.slice a (lstL p (nC p k)).length q) (lstL p (nC p k)))] : List (Nat × Itm))) s.1 s.2.1 s.2.2) (fun s : Nat × (Option Addr) × Nat => (fun (k : Nat) (a : Option Addr) (q : Nat) => k ≤ p.length) s.1 s.2.1 s.2.2) (fun s : Nat × (Option Addr) × Nat => (fun (k : Nat) (a : Option Addr) (q : Nat) => p.length - k) s.1 s.2.1 s.2.2) (0, _, _) (sub_cons rfl (sub_cons rfl (sub_cons rfl (sub_cons rfl (sub_cons rfl (sub_cons rfl sub_nil)))))) rfl (Nat.zero_le _) ?_
  rintro ⟨k, a, q⟩ hinv KL5 hKL5
  simp only [updL, List.foldl_cons, List.foldl_nil, List.set_cons_succ, List.set_cons_zero, List.cons_append, List.nil_append] at hinv hKL5 ⊢
  have hk := hinv
  have hl := lstL_len p (nC p k)
  have hn := nC_le p k
  refine gc_seq fun K6 hK6 => ?_
  refine gc_region ?_
  refine g_v (.free rfl) rfl rfl (qt_lss rfl rfl rfl) ?_
  refine g_nil ?_
  refine gk_then (hK6 _ _ ?_)
  refine gc_seq fun K7 hK7 => ?_
  refine gc_cond rfl (fun hc0 => ?_) (fun hc0 => ?_)
  · try simp only [decide_eq_true_eq, decide_eq_false_iff_not, Bool.not_eq_true', Bool.not_eq_false', Bool.not_eq_eq_eq_not, Bool.not_true, Bool.not_false, ne_eq, Decidable.not_not, Classical.not_not] at hc0
    refine gc_skip ?_
    refine gk_then (hK7 _ _ ?_)
    refine gc_seq fun K8 hK8 => ?_
    refine gc_block ?_
    refine gc_seq fun K9 hK9 => ?_
    refine gc_region ?_
    refine g_v (.free rfl) rfl rfl (qt_move rfl rfl) ?_
    refine g_v (.free rfl) rfl rfl (qt_index rfl rfl rfl ulEP szEP (fun w M => lenA_rd h) (by omega) (by omega)) ?_
    refine g_v (.free rfl) rfl rfl (qt_load1 rfl rfl Try.underlying2 rfl (fun w M => mem_rd M h) (by omega) (by omega)) ?_
    refine g_v (.free rfl) rfl rfl (qt_assign rfl rfl) ?_
    refine g_v (.free rfl) rfl rfl (qt_assign rfl rfl) ?_
    refine g_nil ?_
    refine gk_then (hK9 _ _ ?_)
    refine gc_seq fun K10 hK10 => ?_
    refine gc_region ?_
    refine g_v (.free rfl) rfl rfl (qt_move rfl rfl) ?_
    refine g_v (.free rfl) rfl rfl (qt_move rfl rfl) ?_
    refine g_v (.free rfl) rfl rfl (qt_len rfl rfl ulE1 (fun w M => lenV_own1 (n := 0) rfl M)) ?_
    refine g_v (.free rfl) rfl rfl (qt_eql rfl rfl rfl) ?_
    refine g_nil ?_
    refine gk_then (hK10 _ _ ?_)
    refine gc_cond rfl (fun hc1 => ?_) (fun hc1 => ?_)
    · try simp only [decide_eq_true_eq, decide_eq_false_iff_not, Bool.not_eq_true', Bool.not_eq_false', Bool.not_eq_eq_eq_not, Bool.not_true, Bool.not_false, ne_eq, Decidable.not_not, Classical.not_not] at hc1
      refine gc_region ?_
      refine g_v (.free rfl) rfl rfl (qt_move rfl rfl) ?_
      refine g_v (.free rfl) rfl rfl (qt_move rfl rfl) ?_
      refine g_op (.free rfl) fun K12 hK12 => ?_
      refine go_slice1 rfl rfl rfl rfl Try.underlying24 ?_
      intro B11
      refine hK12 _ _ ?_
      refine g_op (.free rfl) fun K14 hK14 => ?_
      refine go_append (n := 0) (m := 1) rfl rfl rfl Try.underlying24 rfl rfl rfl rfl (by omega) ?_
      intro va13 vc13
      refine hK14 _ _ ?_
      refine g_v (.free rfl) rfl rfl (qt_assign rfl rfl) ?_
      refine g_nil ?_
      refine gk_block ?_
      refine gk_then (hK8 _ _ ?_)
      refine gc_region ?_
      refine g_v (.free rfl) rfl rfl (qt_add rfl rfl rfl (by omega)) ?_
      refine g_v (.free rfl) rfl rfl (qt_move rfl rfl) ?_
      refine g_nil ?_
      simp only [lst_t hp (k := k) (by omega) (by assumption)]
      refine gk_then (gk_take 1 ?_)
      refine gk_sub ?hs_15 (hKL5 (k + 1, _, _) ?hi_15 ?hm_15)
      case hs_15 => exact (sub_cons rfl (sub_cons rfl (sub_cons rfl (sub_cons rfl (sub_cons rfl (sub_cons rfl sub_nil))))))
      case hi_15 => omega
      case hm_15 => omega
    · try simp only [decide_eq_true_eq, decide_eq_false_iff_not, Bool.not_eq_true', Bool.not_eq_false', Bool.not_eq_eq_eq_not, Bool.not_true, Bool.not_false, ne_eq, Decidable.not_not, Classical.not_not] at hc1
      refine gc_skip ?_
      refine gk_block ?_
      refine gk_then (hK8 _ _ ?_)
      refine gc_region ?_
      refine g_v (.free rfl) rfl rfl (qt_add rfl rfl rfl (by omega)) ?_
      refine g_v (.free rfl) rfl rfl (qt_move rfl rfl) ?_
      refine g_nil ?_
      rw [lst_f hp (k := k) (by omega) (by assumption)]
      refine gk_then (gk_take 1 ?_)
      refine gk_sub ?hs_16 (hKL5 (k + 1, _, _) ?hi_16 ?hm_16)
      case hs_16 => exact (sub_cons rfl (sub_cons rfl (sub_cons rfl (sub_cons rfl (sub_cons rfl (sub_cons rfl sub_nil))))))
      case hi_16 => omega
      case hm_16 => omega
  · try simp only [decide_eq_true_eq, decide_eq_false_iff_not, Bool.not_eq_true', Bool.not_eq_false', Bool.not_eq_eq_eq_not, Bool.not_true, Bool.not_false, ne_eq, Decidable.not_not, Classical.not_not] at hc0
    refine gc_exit ?_
    refine gk_then_exit ?_
    refine gk_then_exit ?_
    refine gk_block_hit ?_
    refine gk_then (hK3 _ _ ?_)
    refine gc_seq fun K17 hK17 => ?_
    refine gc_region ?_
    refine g_v (.free rfl) rfl rfl (qt_move rfl rfl) ?_
    refine g_v (.free rfl) rfl rfl (qt_assign rfl rfl) ?_
    refine g_nil ?_
    refine gk_then (hK17 _ _ ?_)
    refine gc_ret ?_
    refine ret_1 rfl rfl  (fun w M => ?_)
    obtain rfl : k = p.length := by omega
    exact ⟨_, rfl, mem_own1 (n := 0) M rfl, M.1⟩

set_option maxHeartbeats 1000000 in
set_option maxRecDepth 100000 in
theorem isCong_any (w : World) (v : Value) (c : Cat) (h : RdC w v c) (u : Value) (p : List Int) (hu : Rd w u p) (hC : IsCat c) :
    Calls Try.prog 114 #[v, u] w (RetB w (bP (congI c p))) := by
  have h0 := h
  obtain ⟨va, vb, vc, vd, ve, vf, vg, vh, rfl, h1, h2, h3, h4, _⟩ := h.lists
  obtain ⟨ua, uc, rfl⟩ := rd_form hu
  have hS := hC.toShapeP
  have hn40 := hS.n40; have htl := hS.tl; have hel := hS.el; have hob0 := hS.ob0; have hob8 := hS.ob8; have hml := hS.ml
  go_enter Try.func114, Try.ntmps114
  refine gc_enter (N := 85) rfl (look_cons (k := 0) rfl (look_cons (k := 1) rfl (look_nil _))) ?_
  refine gc_seq fun K1 hK1 => ?_
  refine gc_region ?_
  refine g_op (.free rfl) fun K3 hK3 => ?_
  refine go_box rfl rfl rfl rfl rfl ?_
  intro B2
  refine hK3 _ _ ?_
  refine g_v (.free rfl) rfl rfl (qt_assign rfl rfl) ?_
  refine g_nil ?_
  refine gk_then (hK1 _ _ ?_)
  refine gc_seq fun K4 hK4 => ?_
  refine gc_seq fun K5 hK5 => ?_
  refine gc_region ?_
  refine g_v (.free rfl) rfl rfl (qt_move rfl rfl) ?_
  refine g_v (.free rfl) rfl rfl (qt_len rfl rfl ulEP (fun w M => lenV_rd hu)) ?_
  refine g_v (.free rfl) rfl rfl (qt_loadS (n := 0) rfl rfl Try.underlying27 rfl (by kernel_rfl) rfl) ?_
  refine g_q (.free rfl) rfl rfl (qt_call rfl Try.func88 rfl (by decide) rfl (fun w M => arrows_any w _ _ (mem_rdC M h0))) ?_
  refine g_v (.free rfl) rfl rfl (qt_neq rfl rfl rfl) ?_
  refine g_splitv (.free rfl) rfl rfl (qt_move rfl rfl) (fun hs1_5 => ?_) (fun hs1_5 => ?_)
  · try simp only [decide_eq_true_eq, decide_eq_false_iff_not, Bool.not_eq_true', Bool.not_eq_false', Bool.not_eq_eq_eq_not, Bool.not_true, Bool.not_false, ne_eq, Decidable.not_not, Classical.not_not] at hs1_5
    refine g_skip (.not _ _ _ _ rfl rfl rfl rfl) rfl rfl ?_
    refine g_skip (.not _ _ _ _ rfl rfl rfl rfl) rfl rfl ?_
    refine g_skip (.not _ _ _ _ rfl rfl rfl rfl) rfl rfl ?_
    refine g_v (.free rfl) rfl rfl (qt_pick_t rfl rfl rfl) ?_
    refine g_nil ?_
    refine gk_then (hK5 _ _ ?_)
    refine gc_cond_t rfl ?_
    refine gc_seq fun K6 hK6 => ?_
    refine gc_region ?_
    refine g_v (.free rfl) rfl rfl (qt_assign rfl rfl) ?_
    refine g_nil ?_
    refine gk_then (hK6 _ _ ?_)
    refine gc_ret ?_
    refine gk_then_ret ?_
    refine ret_1 rfl rfl  (fun w M => ?_)
    rw [bP_f (fun hh : congI c p => by have := hh.1.1; omega)]; exact ⟨rfl, M.1⟩
  · try simp only [decide_eq_true_eq, decide_eq_false_iff_not, Bool.not_eq_true', Bool.not_eq_false', Bool.not_eq_eq_eq_not, Bool.not_true, Bool.not_false, ne_eq, Decidable.not_not, Classical.not_not] at hs1_5
    refine g_v (.held _ _ _ rfl rfl rfl) rfl rfl (qt_move rfl rfl) ?_
    refine g_q (.held _ _ _ rfl rfl rfl) rfl rfl (qt_call rfl Try.func167 rfl (by decide) rfl (fun w M => isProper_any w _ _ (mem_rd M hu))) ?_
    refine g_v (.held _ _ _ rfl rfl rfl) rfl rfl (qt_not rfl rfl) ?_
    refine g_v (.free rfl) rfl rfl (qt_pick_f rfl rfl rfl) ?_
    refine g_nil ?_
    refine gk_then (hK5 _ _ ?_)
    refine gc_cond rfl (fun hc0 => ?_) (fun hc0 => ?_)
    · try simp only [decide_eq_true_eq, decide_eq_false_iff_not, Bool.not_eq_true', Bool.not_eq_false', Bool.not_eq_eq_eq_not, Bool.not_true, Bool.not_false, ne_eq, Decidable.not_not, Classical.not_not] at hc0
      refine gc_seq fun K7 hK7 => ?_
      refine gc_region ?_
      refine g_v (.free rfl) rfl rfl (qt_assign rfl rfl) ?_
      refine g_nil ?_
      refine gk_then (hK7 _ _ ?_)
      refine gc_ret ?_
      refine gk_then_ret ?_
      refine ret_1 rfl rfl  (fun w M => ?_)
      rw [bP_f (fun hh : congI c p => hc0 hh.1.2)]; exact ⟨rfl, M.1⟩
    · try simp only [decide_eq_true_eq, decide_eq_false_iff_not, Bool.not_eq_true', Bool.not_eq_false', Bool.not_eq_eq_eq_not, Bool.not_true, Bool.not_false, ne_eq, Decidable.not_not, Classical.not_not] at hc0
      refine gc_skip ?_
      refine gk_then (hK4 _ _ ?_)
      refine gc_seq fun K8 hK8 => ?_
      have hp : p = clsOf p := hc0
      have hll := lstL_len p (nC p p.length)
      refine gc_region ?_
      refine g_v (.free rfl) rfl rfl (qt_move rfl rfl) ?_
      refine g_op (.free rfl) fun K10 hK10 => ?_
      refine go_callL rfl rfl rfl Try.func168 rfl (by decide) rfl (fun w M => leastsP_any w _ _ (mem_rd M hu) (hp)) ?_
      intro va9 vc9
      refine hK10 _ _ ?_
      refine g_v (.free rfl) rfl rfl (qt_assign rfl rfl) ?_
      refine g_nil ?_
      refine gk_then (hK8 _ _ ?_)
      refine gc_seq fun K11 hK11 => ?_
      refine gc_seq fun K12 hK12 => ?_
      refine gc_region ?_
      refine g_v (.free rfl) rfl rfl (qt_move rfl rfl) ?_
      refine g_v (.free rfl) rfl rfl (qt_len rfl rfl ulEP (fun w M => lenV_rd hu)) ?_
      refine g_v (.free rfl) rfl rfl (qt_move rfl rfl) ?_
      refine g_nil ?_
      refine gk_then (hK12 _ _ ?_)
      refine gc_block ?_
      try simp only [List.nil_append, List.cons_append, List.append_assoc, List.set_cons_succ, List.set_cons_zero]
      refine gc_loop ([(0, _), (1, _), (2, _), (5, _), (20, _), (23, _), (24, _)] : Env) (fun s : Nat => (fun (k : Nat) => ([(25, .int .i64 (k : Int))] : Env)) s) (fun s : Nat => (fun (k : Nat) => ([] : List (Nat × Itm))) s) (fun s : Nat => (fun (k : Nat) => k ≤ c.s.length ∧ ∀ j : Nat, j < k → Par c j (lfN p j)) s) (fun s : Nat => (fun (k : Nat) => c.s.length - k) s) (0) (sub_cons rfl (sub_cons rfl (sub_cons rfl (sub_cons rfl (sub_cons rfl (sub_cons rfl (sub_cons rfl (sub_cons rfl sub_nil)))))))) rfl ⟨Nat.zero_le _, fun f hf => absurd hf (by omega)⟩ ?_
      rintro k hinv KL13 hKL13
      simp only [updL, List.foldl_cons, List.foldl_nil, List.set_cons_succ, List.set_cons_zero, List.cons_append, List.nil_append] at hinv hKL13 ⊢
      obtain ⟨hk, hall⟩ := hinv
      refine gc_seq fun K14 hK14 => ?_
      refine gc_region ?_
      refine g_v (.free rfl) rfl rfl (qt_lss rfl rfl rfl) ?_
      refine g_nil ?_
      refine gk_then (hK14 _ _ ?_)
      refine gc_seq fun K15 hK15 => ?_
      refine gc_cond rfl (fun hc1 => ?_) (fun hc1 => ?_)
      · try simp only [decide_eq_true_eq, decide_eq_false_iff_not, Bool.not_eq_true', Bool.not_eq_false', Bool.not_eq_eq_eq_not, Bool.not_true, Bool.not_false, ne_eq, Decidable.not_not, Classical.not_not] at hc1
        refine gc_skip ?_
        refine gk_then (hK15 _ _ ?_)
        refine gc_seq fun K16 hK16 => ?_
        refine gc_block ?_
        refine gc_seq fun K17 hK17 => ?_
        refine gc_region ?_
        refine g_v (.free rfl) rfl rfl (qt_move rfl rfl) ?_
        refine g_v (.free rfl) rfl rfl (qt_index rfl rfl rfl ulEP szEP (fun w M => lenA_rd hu) (by omega) (by omega)) ?_
        refine g_v (.free rfl) rfl rfl (qt_load1 rfl rfl Try.underlying2 rfl (fun w M => mem_rd M hu) (by omega) (by omega)) ?_
        refine g_v (.free rfl) rfl rfl (qt_assign rfl rfl) ?_
        refine g_v (.free rfl) rfl rfl (qt_assign rfl rfl) ?_
        refine g_nil ?_
        refine gk_then (hK17 _ _ ?_)
        refine gc_seq fun K18 hK18 => ?_
        have z1 := cls_rng hp (k := k) (by omega)
        have z2 := lst_at hp (k := k) (by omega)
        have z3 := lf_lt (p := p) (k := k) (by omega)
        refine gc_draw (by kernel_rfl) ?_
        refine gd_v (.free rfl) rfl rfl (qt_loadS (n := 0) rfl rfl Try.underlying27 rfl (by kernel_rfl) rfl) ?_
        refine gd_v (.free rfl) rfl rfl (qt_move rfl rfl) ?_
        refine gd_q (.free rfl) rfl rfl (qt_call rfl Try.func111 rfl (by decide) rfl (fun w M => ends_any w _ _ _ (mem_rdC M h0) (by first | assumption | omega) (by first | assumption | omega) (by first | assumption | omega))) ?_
        refine gd_v (.free rfl) rfl rfl (qt_loadS (n := 0) rfl rfl Try.underlying27 rfl (by kernel_rfl) rfl) ?_
        refine gd_v (.free rfl) rfl rfl (qt_move rfl rfl) ?_
        refine gd_v (.free rfl) rfl rfl (qt_move rfl rfl) ?_
        refine gd_v (.free rfl) rfl rfl (qt_index rfl rfl rfl ulE1 szE1 (fun w M => lenA_own1 (n := 1) rfl M) (by omega) (by omega)) ?_
        refine gd_v (.free rfl) rfl rfl (qt_load1 rfl rfl Try.underlying2 rfl (fun w M => (mem_own1 (n := 1) M rfl).rd) (by omega) (by omega)) ?_
        refine gd_q (.free rfl) rfl rfl (qt_call rfl Try.func111 rfl (by decide) rfl (fun w M => ends_any w _ _ _ (mem_rdC M h0) (by first | assumption | omega) (by first | assumption | omega) (by first | assumption | omega))) ?_
        refine gd_v (.free rfl) rfl rfl (qt_neA rfl rfl rfl (fun w => eqA_arrowEnds _ _ _ _ w) eqG_arrowEnds) ?_
        refine gd_nil ?_
        refine gk_then (hK18 _ _ ?_)
        refine gc_cond rfl (fun hc2 => ?_) (fun hc2 => ?_)
        · try simp only [decide_eq_true_eq, decide_eq_false_iff_not, Bool.not_eq_true', Bool.not_eq_false', Bool.not_eq_eq_eq_not, Bool.not_true, Bool.not_false, ne_eq, Decidable.not_not, Classical.not_not] at hc2
          refine gc_seq fun K19 hK19 => ?_
          refine gc_region ?_
          refine g_v (.free rfl) rfl rfl (qt_assign rfl rfl) ?_
          refine g_nil ?_
          refine gk_then (hK19 _ _ ?_)
          refine gc_ret ?_
          refine gk_block_ret ?_
          refine gk_then_ret ?_
          refine gk_then_ret ?_
          refine gk_block_ret ?_
          refine gk_then_ret ?_
          refine ret_1 rfl rfl  (fun w M => ?_)
          rw [bP_f (fun hh : congI c p => absurd (by rw [z2]; exact hh.2.1 k (by omega)) hc2)]; exact ⟨rfl, M.1⟩
        · try simp only [decide_eq_true_eq, decide_eq_false_iff_not, Bool.not_eq_true', Bool.not_eq_false', Bool.not_eq_eq_eq_not, Bool.not_true, Bool.not_false, ne_eq, Decidable.not_not, Classical.not_not] at hc2
          refine gc_skip ?_
          refine gk_block ?_
          refine gk_then (hK16 _ _ ?_)
          refine gc_region ?_
          refine g_v (.free rfl) rfl rfl (qt_add rfl rfl rfl (by omega)) ?_
          refine g_v (.free rfl) rfl rfl (qt_move rfl rfl) ?_
          refine g_nil ?_
          refine gk_then (gk_take 2 ?_)
          refine gk_sub ?hs_20 (hKL13 (k + 1) ?hi_20 ?hm_20)
          case hs_20 => exact (sub_cons rfl (sub_cons rfl (sub_cons rfl (sub_cons rfl (sub_cons rfl (sub_cons rfl (sub_cons rfl (sub_cons rfl sub_nil))))))))
          case hi_20 => exact ⟨by omega, all_next hall (by rw [z2] at hc2; exact hc2)⟩
          case hm_20 => omega
      · try simp only [decide_eq_true_eq, decide_eq_false_iff_not, Bool.not_eq_true', Bool.not_eq_false', Bool.not_eq_eq_eq_not, Bool.not_true, Bool.not_false, ne_eq, Decidable.not_not, Classical.not_not] at hc1
        refine gc_exit ?_
        refine gk_then_exit ?_
        refine gk_then_exit ?_
        refine gk_block_hit ?_
        refine gk_then (hK11 _ _ ?_)
        refine gc_seq fun K21 hK21 => ?_
        refine gc_seq fun K22 hK22 => ?_
        obtain rfl : k = c.s.length := by omega
        refine gc_region ?_
        refine g_v (.free rfl) rfl rfl (qt_loadS (n := 0) rfl rfl Try.underlying27 rfl (by kernel_rfl) rfl) ?_
        refine g_q (.free rfl) rfl rfl (qt_call rfl Try.func88 rfl (by decide) rfl (fun w M => arrows_any w _ _ (mem_rdC M h0))) ?_
        refine g_v (.free rfl) rfl rfl (qt_move rfl rfl) ?_
        refine g_nil ?_
        refine gk_then (hK22 _ _ ?_)
        refine gc_block ?_
        try simp only [List.nil_append, List.cons_append, List.append_assoc, List.set_cons_succ, List.set_cons_zero]
        refine gc_loop ([(0, _), (1, _), (2, _), (5, _), (20, _), (23, _), (24, _), (25, _), (26, _), (42, _)] : Env) (fun s : Nat => (fun (f : Nat) => ([(43, .int .i64 (f : Int))] : Env)) s) (fun s : Nat => (fun (f : Nat) => ([] : List (Nat × Itm))) s) (fun s : Nat => (fun (f : Nat) => f ≤ c.s.length ∧ ∀ x : Nat, x < f → ∀ g : Nat, g < c.s.length → respC c p x g) s) (fun s : Nat => (fun (f : Nat) => c.s.length - f) s) (0) (sub_cons rfl (sub_cons rfl (sub_cons rfl (sub_cons rfl (sub_cons rfl (sub_cons rfl (sub_cons rfl (sub_cons rfl (sub_cons rfl (sub_cons rfl (sub_cons rfl sub_nil))))))))))) rfl ⟨Nat.zero_le _, fun f hf => absurd hf (by omega)⟩ ?_
        rintro f hinv KL23 hKL23
        simp only [updL, List.foldl_cons, List.foldl_nil, List.set_cons_succ, List.set_cons_zero, List.cons_append, List.nil_append] at hinv hKL23 ⊢
        obtain ⟨hf, hin⟩ := hinv
        refine gc_seq fun K24 hK24 => ?_
        refine gc_region ?_
        refine g_v (.free rfl) rfl rfl (qt_lss rfl rfl rfl) ?_
        refine g_nil ?_
        refine gk_then (hK24 _ _ ?_)
        refine gc_seq fun K25 hK25 => ?_
        refine gc_cond rfl (fun hc3 => ?_) (fun hc3 => ?_)
        · try simp only [decide_eq_true_eq, decide_eq_false_iff_not, Bool.not_eq_true', Bool.not_eq_false', Bool.not_eq_eq_eq_not, Bool.not_true, Bool.not_false, ne_eq, Decidable.not_not, Classical.not_not] at hc3
          refine gc_skip ?_
          refine gk_then (hK25 _ _ ?_)
          refine gc_seq fun K26 hK26 => ?_
          refine gc_block ?_
          refine gc_seq fun K27 hK27 => ?_
          refine gc_region ?_
          refine g_v (.free rfl) rfl rfl (qt_move rfl rfl) ?_
          refine g_v (.free rfl) rfl rfl (qt_assign rfl rfl) ?_
          refine g_nil ?_
          refine gk_then (hK27 _ _ ?_)
          refine gc_seq fun K28 hK28 => ?_
          refine gc_region ?_
          refine g_v (.free rfl) rfl rfl (qt_loadS (n := 0) rfl rfl Try.underlying27 rfl (by kernel_rfl) rfl) ?_
          refine g_q (.free rfl) rfl rfl (qt_call rfl Try.func88 rfl (by decide) rfl (fun w M => arrows_any w _ _ (mem_rdC M h0))) ?_
          refine g_v (.free rfl) rfl rfl (qt_move rfl rfl) ?_
          refine g_nil ?_
          refine gk_then (hK28 _ _ ?_)
          refine gc_block ?_
          try simp only [List.nil_append, List.cons_append, List.append_assoc, List.set_cons_succ, List.set_cons_zero]
          refine gc_loop ([(0, _), (1, _), (2, _), (5, _), (8, _), (20, _), (23, _), (24, _), (25, _), (26, _), (42, _), (43, _), (44, _), (47, _)] : Env) (fun s : Nat => (fun (g : Nat) => ([(48, .int .i64 (g : Int))] : Env)) s) (fun s : Nat => (fun (g : Nat) => ([] : List (Nat × Itm))) s) (fun s : Nat => (fun (g : Nat) => g ≤ c.s.length ∧ ∀ y : Nat, y < g → respC c p f y) s) (fun s : Nat => (fun (g : Nat) => c.s.length - g) s) (0) (sub_cons rfl (sub_cons rfl (sub_cons rfl (sub_cons rfl (sub_cons rfl (sub_cons rfl (sub_cons rfl (sub_cons rfl (sub_cons rfl (sub_cons rfl (sub_cons rfl (sub_cons rfl (sub_cons rfl (sub_cons rfl (sub_cons rfl sub_nil))))))))))))))) rfl ⟨Nat.zero_le _, fun f hf => absurd hf (by omega)⟩ ?_
          rintro g hinv KL29 hKL29
          simp only [updL, List.foldl_cons, List.foldl_nil, List.set_cons_succ, List.set_cons_zero, List.cons_append, List.nil_append] at hinv hKL29 ⊢
          obtain ⟨hg, him⟩ := hinv
          refine gc_seq fun K30 hK30 => ?_
          refine gc_region ?_
          refine g_v (.free rfl) rfl rfl (qt_lss rfl rfl rfl) ?_
          refine g_nil ?_
          refine gk_then (hK30 _ _ ?_)
          refine gc_seq fun K31 hK31 => ?_
          refine gc_cond rfl (fun hc4 => ?_) (fun hc4 => ?_)
          · try simp only [decide_eq_true_eq, decide_eq_false_iff_not, Bool.not_eq_true', Bool.not_eq_false', Bool.not_eq_eq_eq_not, Bool.not_true, Bool.not_false, ne_eq, Decidable.not_not, Classical.not_not] at hc4
            refine gc_skip ?_
            refine gk_then (hK31 _ _ ?_)
            refine gc_seq fun K32 hK32 => ?_
            refine gc_block ?_
            refine gc_seq fun K33 hK33 => ?_
            refine gc_region ?_
            refine g_v (.free rfl) rfl rfl (qt_move rfl rfl) ?_
            refine g_v (.free rfl) rfl rfl (qt_assign rfl rfl) ?_
            refine g_nil ?_
            refine gk_then (hK33 _ _ ?_)
            refine gc_seq fun K34 hK34 => ?_
            have hG := arrP hS (f := (f : Int)) (by omega) (by omega)
            have g3 := hG.fm; have g4 := hG.row
            refine gc_region ?_
            refine g_v (.free rfl) rfl rfl (qt_loadS (n := 0) rfl rfl Try.underlying27 rfl (by kernel_rfl) rfl) ?_
            refine g_v (.free rfl) rfl rfl (qt_move rfl rfl) ?_
            refine g_v (.free rfl) rfl rfl (qt_move rfl rfl) ?_
            refine g_q (.free rfl) rfl rfl (qt_call rfl Try.func75 rfl (by decide) rfl (fun w M => then_any w _ _ _ _ (mem_rdC M h0) (by first | assumption | omega) (by first | assumption | omega) (by first | assumption | omega) (by first | assumption | omega))) ?_
            refine g_v (.free rfl) rfl rfl (qt_assign rfl rfl) ?_
            refine g_nil ?_
            refine gk_then (hK34 _ _ ?_)
            refine gc_seq fun K35 hK35 => ?_
            have y0 := th_rng hS (f := f) (g := g) (by omega) (by omega)
            have y1 := cls_rng hp (k := f) (by omega)
            have y2 := cls_rng hp (k := g) (by omega)
            have y3 := lst_at hp (k := f) (by omega)
            have y4 := lst_at hp (k := g) (by omega)
            have y5 := lf_lt (p := p) (k := f) (by omega)
            have y6 := lf_lt (p := p) (k := g) (by omega)
            have kG := arrP hS (f := at0 (lstL p (nC p p.length)) (at0 p (f : Int))) (by omega) (by omega)
            have k3 := kG.fm; have k4 := kG.row
            have y7 : c.th (f : Int) (g : Int) ≠ -1 → 0 ≤ c.th (at0 (lstL p (nC p p.length)) (at0 p (f : Int))) (at0 (lstL p (nC p p.length)) (at0 p (g : Int))) ∧ c.th (at0 (lstL p (nC p p.length)) (at0 p (f : Int))) (at0 (lstL p (nC p p.length)) (at0 p (g : Int))) < c.s.length := fun hne => by rw [y3, y4]; exact th_par hS hall (by omega) (by omega) (by omega) hne
            refine gc_draw (by kernel_rfl) ?_
            refine gd_v (.free rfl) rfl rfl (qt_move rfl rfl) ?_
            refine gd_v (.free rfl) rfl rfl (qt_neq rfl rfl rfl) ?_
            refine gd_splitv (.free rfl) rfl rfl (qt_move rfl rfl) (fun hs17_2 => ?_) (fun hs17_2 => ?_)
            · try simp only [decide_eq_true_eq, decide_eq_false_iff_not, Bool.not_eq_true', Bool.not_eq_false', Bool.not_eq_eq_eq_not, Bool.not_true, Bool.not_false, ne_eq, Decidable.not_not, Classical.not_not] at hs17_2
              refine gd_v (.held _ _ _ rfl rfl rfl) rfl rfl (qt_move rfl rfl) ?_
              refine gd_v (.held _ _ _ rfl rfl rfl) rfl rfl (qt_move rfl rfl) ?_
              refine gd_v (.held _ _ _ rfl rfl rfl) rfl rfl (qt_index rfl rfl rfl ulEP szEP (fun w M => lenA_rd hu) (by omega) (by omega)) ?_
              refine gd_v (.held _ _ _ rfl rfl rfl) rfl rfl (qt_load1 rfl rfl Try.underlying2 rfl (fun w M => mem_rd M hu) (by omega) (by omega)) ?_
              refine gd_v (.held _ _ _ rfl rfl rfl) rfl rfl (qt_move rfl rfl) ?_
              refine gd_v (.held _ _ _ rfl rfl rfl) rfl rfl (qt_loadS (n := 0) rfl rfl Try.underlying27 rfl (by kernel_rfl) rfl) ?_
              refine gd_v (.held _ _ _ rfl rfl rfl) rfl rfl (qt_move rfl rfl) ?_
              refine gd_v (.held _ _ _ rfl rfl rfl) rfl rfl (qt_move rfl rfl) ?_
              refine gd_v (.held _ _ _ rfl rfl rfl) rfl rfl (qt_move rfl rfl) ?_
              refine gd_v (.held _ _ _ rfl rfl rfl) rfl rfl (qt_index rfl rfl rfl ulEP szEP (fun w M => lenA_rd hu) (by omega) (by omega)) ?_
              refine gd_v (.held _ _ _ rfl rfl rfl) rfl rfl (qt_load1 rfl rfl Try.underlying2 rfl (fun w M => mem_rd M hu) (by omega) (by omega)) ?_
              refine gd_v (.held _ _ _ rfl rfl rfl) rfl rfl (qt_index rfl rfl rfl ulE1 szE1 (fun w M => lenA_own1 (n := 1) rfl M) (by omega) (by omega)) ?_
              refine gd_v (.held _ _ _ rfl rfl rfl) rfl rfl (qt_load1 rfl rfl Try.underlying2 rfl (fun w M => (mem_own1 (n := 1) M rfl).rd) (by omega) (by omega)) ?_
              refine gd_v (.held _ _ _ rfl rfl rfl) rfl rfl (qt_move rfl rfl) ?_
              refine gd_v (.held _ _ _ rfl rfl rfl) rfl rfl (qt_move rfl rfl) ?_
              refine gd_v (.held _ _ _ rfl rfl rfl) rfl rfl (qt_move rfl rfl) ?_
              refine gd_v (.held _ _ _ rfl rfl rfl) rfl rfl (qt_index rfl rfl rfl ulEP szEP (fun w M => lenA_rd hu) (by omega) (by omega)) ?_
              refine gd_v (.held _ _ _ rfl rfl rfl) rfl rfl (qt_load1 rfl rfl Try.underlying2 rfl (fun w M => mem_rd M hu) (by omega) (by omega)) ?_
              refine gd_v (.held _ _ _ rfl rfl rfl) rfl rfl (qt_index rfl rfl rfl ulE1 szE1 (fun w M => lenA_own1 (n := 1) rfl M) (by omega) (by omega)) ?_
              refine gd_v (.held _ _ _ rfl rfl rfl) rfl rfl (qt_load1 rfl rfl Try.underlying2 rfl (fun w M => (mem_own1 (n := 1) M rfl).rd) (by omega) (by omega)) ?_
              refine gd_q (.held _ _ _ rfl rfl rfl) rfl rfl (qt_call rfl Try.func75 rfl (by decide) rfl (fun w M => then_any w _ _ _ _ (mem_rdC M h0) (by first | assumption | omega) (by first | assumption | omega) (by first | assumption | omega) (by first | assumption | omega))) ?_
              refine gd_v (.held _ _ _ rfl rfl rfl) rfl rfl (qt_index rfl rfl rfl ulEP szEP (fun w M => lenA_rd hu) (by omega) (by omega)) ?_
              refine gd_v (.held _ _ _ rfl rfl rfl) rfl rfl (qt_load1 rfl rfl Try.underlying2 rfl (fun w M => mem_rd M hu) (by omega) (by omega)) ?_
              refine gd_v (.held _ _ _ rfl rfl rfl) rfl rfl (qt_neq rfl rfl rfl) ?_
              refine gd_v (.free rfl) rfl rfl (qt_pick_t rfl rfl rfl) ?_
              refine gd_nil ?_
              refine gk_then (hK35 _ _ ?_)
              refine gc_cond rfl (fun hc5 => ?_) (fun hc5 => ?_)
              · try simp only [decide_eq_true_eq, decide_eq_false_iff_not, Bool.not_eq_true', Bool.not_eq_false', Bool.not_eq_eq_eq_not, Bool.not_true, Bool.not_false, ne_eq, Decidable.not_not, Classical.not_not] at hc5
                refine gc_seq fun K36 hK36 => ?_
                refine gc_region ?_
                refine g_v (.free rfl) rfl rfl (qt_assign rfl rfl) ?_
                refine g_nil ?_
                refine gk_then (hK36 _ _ ?_)
                refine gc_ret ?_
                refine gk_block_ret ?_
                refine gk_then_ret ?_
                refine gk_then_ret ?_
                refine gk_block_ret ?_
                refine gk_block_ret ?_
                refine gk_then_ret ?_
                refine gk_then_ret ?_
                refine gk_block_ret ?_
                refine gk_then_ret ?_
                refine ret_1 rfl rfl  (fun w M => ?_)
                rw [bP_f (fun hh : congI c p => absurd (by rw [y3, y4]; exact hh.2.2 f (by omega) g (by omega) (by assumption)) hc5)]; exact ⟨rfl, M.1⟩
              · try simp only [decide_eq_true_eq, decide_eq_false_iff_not, Bool.not_eq_true', Bool.not_eq_false', Bool.not_eq_eq_eq_not, Bool.not_true, Bool.not_false, ne_eq, Decidable.not_not, Classical.not_not] at hc5
                refine gc_skip ?_
                refine gk_block ?_
                refine gk_then (hK32 _ _ ?_)
                refine gc_region ?_
                refine g_v (.free rfl) rfl rfl (qt_add rfl rfl rfl (by omega)) ?_
                refine g_v (.free rfl) rfl rfl (qt_move rfl rfl) ?_
                refine g_nil ?_
                refine gk_then (gk_take 2 ?_)
                refine gk_sub ?hs_37 (hKL29 (g + 1) ?hi_37 ?hm_37)
                case hs_37 => exact (sub_cons rfl (sub_cons rfl (sub_cons rfl (sub_cons rfl (sub_cons rfl (sub_cons rfl (sub_cons rfl (sub_cons rfl (sub_cons rfl (sub_cons rfl (sub_cons rfl (sub_cons rfl (sub_cons rfl (sub_cons rfl (sub_cons rfl sub_nil)))))))))))))))
                case hi_37 => exact ⟨by omega, all_next him fun _ => by rw [← y3, ← y4]; assumption⟩
                case hm_37 => omega
            · try simp only [decide_eq_true_eq, decide_eq_false_iff_not, Bool.not_eq_true', Bool.not_eq_false', Bool.not_eq_eq_eq_not, Bool.not_true, Bool.not_false, ne_eq, Decidable.not_not, Classical.not_not] at hs17_2
              refine gd_skip (.not _ _ _ _ rfl rfl rfl rfl) rfl rfl ?_
              refine gd_skip (.not _ _ _ _ rfl rfl rfl rfl) rfl rfl ?_
              refine gd_skip (.not _ _ _ _ rfl rfl rfl rfl) rfl rfl ?_
              refine gd_skip (.not _ _ _ _ rfl rfl rfl rfl) rfl rfl ?_
              refine gd_skip (.not _ _ _ _ rfl rfl rfl rfl) rfl rfl ?_
              refine gd_skip (.not _ _ _ _ rfl rfl rfl rfl) rfl rfl ?_
              refine gd_skip (.not _ _ _ _ rfl rfl rfl rfl) rfl rfl ?_
              refine gd_skip (.not _ _ _ _ rfl rfl rfl rfl) rfl rfl ?_
              refine gd_skip (.not _ _ _ _ rfl rfl rfl rfl) rfl rfl ?_
              refine gd_skip (.not _ _ _ _ rfl rfl rfl rfl) rfl rfl ?_
              refine gd_skip (.not _ _ _ _ rfl rfl rfl rfl) rfl rfl ?_
              refine gd_skip (.not _ _ _ _ rfl rfl rfl rfl) rfl rfl ?_
              refine gd_skip (.not _ _ _ _ rfl rfl rfl rfl) rfl rfl ?_
              refine gd_skip (.not _ _ _ _ rfl rfl rfl rfl) rfl rfl ?_
              refine gd_skip (.not _ _ _ _ rfl rfl rfl rfl) rfl rfl ?_
              refine gd_skip (.not _ _ _ _ rfl rfl rfl rfl) rfl rfl ?_
              refine gd_skip (.not _ _ _ _ rfl rfl rfl rfl) rfl rfl ?_
              refine gd_skip (.not _ _ _ _ rfl rfl rfl rfl) rfl rfl ?_
              refine gd_skip (.not _ _ _ _ rfl rfl rfl rfl) rfl rfl ?_
              refine gd_skip (.not _ _ _ _ rfl rfl rfl rfl) rfl rfl ?_
              refine gd_skip (.not _ _ _ _ rfl rfl rfl rfl) rfl rfl ?_
              refine gd_skip (.not _ _ _ _ rfl rfl rfl rfl) rfl rfl ?_
              refine gd_skip (.not _ _ _ _ rfl rfl rfl rfl) rfl rfl ?_
              refine gd_skip (.not _ _ _ _ rfl rfl rfl rfl) rfl rfl ?_
              refine gd_v (.free rfl) rfl rfl (qt_pick_f rfl rfl rfl) ?_
              refine gd_nil ?_
              refine gk_then (hK35 _ _ ?_)
              refine gc_cond_f rfl ?_
              refine gc_skip ?_
              refine gk_block ?_
              refine gk_then (hK32 _ _ ?_)
              refine gc_region ?_
              refine g_v (.free rfl) rfl rfl (qt_add rfl rfl rfl (by omega)) ?_
              refine g_v (.free rfl) rfl rfl (qt_move rfl rfl) ?_
              refine g_nil ?_
              refine gk_then (gk_take 2 ?_)
              refine gk_sub ?hs_38 (hKL29 (g + 1) ?hi_38 ?hm_38)
              case hs_38 => exact (sub_cons rfl (sub_cons rfl (sub_cons rfl (sub_cons rfl (sub_cons rfl (sub_cons rfl (sub_cons rfl (sub_cons rfl (sub_cons rfl (sub_cons rfl (sub_cons rfl (sub_cons rfl (sub_cons rfl (sub_cons rfl (sub_cons rfl sub_nil)))))))))))))))
              case hi_38 => exact ⟨by omega, all_next him fun hne => absurd (by assumption) hne⟩
              case hm_38 => omega
          · try simp only [decide_eq_true_eq, decide_eq_false_iff_not, Bool.not_eq_true', Bool.not_eq_false', Bool.not_eq_eq_eq_not, Bool.not_true, Bool.not_false, ne_eq, Decidable.not_not, Classical.not_not] at hc4
            refine gc_exit ?_
            refine gk_then_exit ?_
            refine gk_then_exit ?_
            refine gk_block_hit ?_
            refine gk_block ?_
            refine gk_then (hK26 _ _ ?_)
            refine gc_region ?_
            refine g_v (.free rfl) rfl rfl (qt_add rfl rfl rfl (by omega)) ?_
            refine g_v (.free rfl) rfl rfl (qt_move rfl rfl) ?_
            refine g_nil ?_
            refine gk_then (gk_take 2 ?_)
            refine gk_sub ?hs_39 (hKL23 (f + 1) ?hi_39 ?hm_39)
            case hs_39 => exact (sub_cons rfl (sub_cons rfl (sub_cons rfl (sub_cons rfl (sub_cons rfl (sub_cons rfl (sub_cons rfl (sub_cons rfl (sub_cons rfl (sub_cons rfl (sub_cons rfl sub_nil)))))))))))
            case hi_39 => exact ⟨by omega, all_next hin fun g hg => him g (by omega)⟩
            case hm_39 => omega
        · try simp only [decide_eq_true_eq, decide_eq_false_iff_not, Bool.not_eq_true', Bool.not_eq_false', Bool.not_eq_eq_eq_not, Bool.not_true, Bool.not_false, ne_eq, Decidable.not_not, Classical.not_not] at hc3
          refine gc_exit ?_
          refine gk_then_exit ?_
          refine gk_then_exit ?_
          refine gk_block_hit ?_
          refine gk_then (hK21 _ _ ?_)
          refine gc_seq fun K40 hK40 => ?_
          refine gc_region ?_
          refine g_v (.free rfl) rfl rfl (qt_assign rfl rfl) ?_
          refine g_nil ?_
          refine gk_then (hK40 _ _ ?_)
          refine gc_ret ?_
          refine ret_1 rfl rfl  (fun w M => ?_)
          obtain rfl : f = c.s.length := by omega
          rw [bP_t (show congI c p from ⟨⟨by omega, hp⟩, hall, hin⟩)]; exact ⟨rfl, M.1⟩

set_option maxHeartbeats 1000000 in
set_option maxRecDepth 100000 in
theorem impl_IsCongruence (w : World) (v : Value) (c : Cat) (u : Value) (p : List Int) (h : RdC w v c) (hu : Rd w u p) :
    Calls Try.prog 52 #[v, u] w (RetBI w (fIsCongruence c p).1 (fIsCongruence c p).2) := by
  have h0 := h
  obtain ⟨va, vb, vc, vd, ve, vf, vg, vh, rfl, h1, h2, h3, h4, _⟩ := h.lists
  obtain ⟨ua, uc, rfl⟩ := rd_form hu
  go_enter Try.func52, Try.ntmps52
  refine gc_enter (N := 19) rfl (look_cons (k := 0) rfl (look_cons (k := 1) rfl (look_nil _))) ?_
  refine gc_seq fun K1 hK1 => ?_
  refine gc_region ?_
  refine g_op (.free rfl) fun K3 hK3 => ?_
  refine go_box rfl rfl rfl rfl rfl ?_
  intro B2
  refine hK3 _ _ ?_
  refine g_v (.free rfl) rfl rfl (qt_assign rfl rfl) ?_
  refine g_v (.free rfl) rfl rfl (qt_assign rfl rfl) ?_
  refine g_nil ?_
  refine gk_then (hK1 _ _ ?_)
  refine gc_seq fun K4 hK4 => ?_
  refine gc_region ?_
  refine g_v (.free rfl) rfl rfl (qt_loadS (n := 0) rfl rfl Try.underlying27 rfl (by kernel_rfl) rfl) ?_
  refine g_op (.free rfl) fun K6 hK6 => ?_
  refine go_callCI rfl rfl rfl Try.func87 rfl (by decide) rfl (fun w M => readCat_any w _ _ (mem_rdC M h0)) ?_
  intro ca5 cb5 cc5 cd5 ce5 cf5 cg5 ch5 cu5
  refine hK6 _ _ ?_
  refine g_v (.free rfl) rfl rfl (qt_move rfl rfl) ?_
  refine g_v (.free rfl) rfl rfl (qt_extract rfl rfl rfl) ?_
  refine g_v (.free rfl) rfl rfl (qt_extract rfl rfl rfl) ?_
  refine g_op (.free rfl) fun K8 hK8 => ?_
  refine go_alloc (z := (.agg #[.int .i64 0, .slice none 0 0, .slice none 0 0, .slice none 0 0, .slice none 0 0])) (cs := [.int .i64 0, .slice none 0 0, .slice none 0 0, .slice none 0 0, .slice none 0 0]) rfl rfl rfl (fun w => by kernel_rfl) rfl ?_
  intro B7
  refine hK8 _ _ ?_
  refine g_op (.free rfl) fun K9 hK9 => ?_
  refine go_storeS (n := 5) rfl rfl rfl rfl (by kernel_rfl) rfl rfl rfl ?_
  refine hK9 _ _ ?_
  refine g_v (.free rfl) rfl rfl (qt_assign rfl rfl) ?_
  refine g_nil ?_
  refine gk_then (hK4 _ _ ?_)
  refine gc_seq fun K10 hK10 => ?_
  refine gc_seq fun K11 hK11 => ?_
  refine gc_region ?_
  refine g_v (.free rfl) rfl rfl (qt_move rfl rfl) ?_
  refine g_v (.free rfl) rfl rfl (qt_neq rfl rfl rfl) ?_
  refine g_nil ?_
  refine gk_then (hK11 _ _ ?_)
  refine gc_cond rfl (fun hc0 => ?_) (fun hc0 => ?_)
  · try simp only [decide_eq_true_eq, decide_eq_false_iff_not, Bool.not_eq_true', Bool.not_eq_false', Bool.not_eq_eq_eq_not, Bool.not_true, Bool.not_false, ne_eq, Decidable.not_not, Classical.not_not] at hc0
    refine gc_seq fun K12 hK12 => ?_
    refine gc_region ?_
    refine g_v (.free rfl) rfl rfl (qt_move rfl rfl) ?_
    refine g_v (.free rfl) rfl rfl (qt_assign rfl rfl) ?_
    refine g_v (.free rfl) rfl rfl (qt_assign rfl rfl) ?_
    refine g_nil ?_
    refine gk_then (hK12 _ _ ?_)
    refine gc_ret ?_
    refine gk_then_ret ?_
    refine ret_2 rfl rfl rfl  (fun w M => ?_)
    rw [(catErr_n hc0).2, cg_f (catErr_n hc0).1]; exact ⟨rfl, M.1⟩
  · try simp only [decide_eq_true_eq, decide_eq_false_iff_not, Bool.not_eq_true', Bool.not_eq_false', Bool.not_eq_eq_eq_not, Bool.not_true, Bool.not_false, ne_eq, Decidable.not_not, Classical.not_not] at hc0
    refine gc_skip ?_
    refine gk_then (hK10 _ _ ?_)
    refine gc_seq fun K13 hK13 => ?_
    have hI := catErr_0 hc0
    simp only [catCat_t hc0]
    refine gc_region ?_
    refine g_v (.free rfl) rfl rfl (qt_loadS (n := 5) rfl rfl Try.underlying27 rfl (by kernel_rfl) rfl) ?_
    refine g_v (.free rfl) rfl rfl (qt_move rfl rfl) ?_
    refine g_q (.free rfl) rfl rfl (qt_call rfl Try.func114 rfl (by decide) rfl (fun w M => isCong_any w _ _ (rdC_mk ((mem_own1 (n := 1) M rfl).rd) ((mem_own1 (n := 2) M rfl).rd) ((mem_own1 (n := 3) M rfl).rd) (mem_rdU (n := 4) M rfl)) _ _ (mem_rd M hu) (isCat_of hI))) ?_
    refine g_v (.free rfl) rfl rfl (qt_assign rfl rfl) ?_
    refine g_v (.free rfl) rfl rfl (qt_assign rfl rfl) ?_
    refine g_nil ?_
    refine gk_then (hK13 _ _ ?_)
    refine gc_ret ?_
    refine ret_2 rfl rfl rfl  (fun w M => ?_)
    rw [cg_t hI, bP_congr (cong_iff (isCat_of hI) p)]; exact ⟨rfl, M.1⟩

end Go.Proofs.Ytpfcfhjpgngneac
