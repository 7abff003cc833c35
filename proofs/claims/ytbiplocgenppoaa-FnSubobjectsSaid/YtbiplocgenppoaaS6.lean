import Derived.Test.YtbiplocgenppoaaS4
import Derived.Test.YtbiplocgenppoaaS5
set_option maxHeartbeats 4000000
set_option maxRecDepth 100000
set_option linter.unusedSimpArgs false
set_option linter.unusedVariables false
set_option linter.unusedSectionVars false
namespace Go.Proofs.Ytbiplocgenppoaa
open _root_.Go.Proofs.Try
open Go.RowKit
theorem specEnds_any (w : World) (v : Value) (xs : List Int) (L : Nat) (n : Int) (b : Bool) (h : Rd w v xs) (hb : bP (xs.length = L ∧ AllP n xs) = b) :
  Calls Try.prog 88 #[v, .int .i64 ((L : Int)), .int .i64 n] w (RetB w b) := by
 obtain ⟨va, vc, rfl⟩ := rd_form h
 go_enter func88, Try.ntmps88
 refine gc_enter (N := 16) rfl (look_cons (k := 0) rfl (look_cons (k := 1) rfl (look_cons (k := 2) rfl (look_nil _)))) ?_
 refine gc_sr fun K1 hK1 => ?_
 refine gas ?_
 refine gnt (hK1 _ _ ?_)
 refine gc_sr fun K2 hK2 => ?_
 refine gm ?_
 refine gv (qln (fun w M => lenV_rd h)) ?_
 refine gm ?_
 refine gv (qt_eql rfl rfl rfl) ?_
 refine g_splitv (.free rfl) rfl rfl (qt_move rfl rfl) (fun hs1_4 => ?_) (fun hs1_4 => ?_)
 ·try simp only [sA] at hs1_4
  refine gvh (qt_move rfl rfl) ?_
  refine gvh (qt_move rfl rfl) ?_
  refine g_q (.held _ _ _ rfl rfl rfl) rfl rfl (qt_call rfl func89 rfl (by decide) rfl (fun w M => specMap_any w _ _ _ _ (mem_rd M h) rfl)) ?_
  refine gv (qt_pick_t rfl rfl rfl) ?_
  refine gas ?_
  refine gnt (hK2 _ _ ?_)
  refine gc_ret ?_
  refine ret_1 rfl rfl  (fun w M => ?_)
  rw [← hb]; refine ⟨?_, M.1⟩; congr 2; by_cases hp : AllP n xs
  ·rw [decide_eq_true hp, bP_t ⟨by omega, hp⟩]
  rw [decide_eq_false hp, bP_f fun h => hp h.2]
 try simp only [sA] at hs1_4
 refine gsk ?_
 refine gsk ?_
 refine gsk ?_
 refine gv (qt_pick_f rfl rfl rfl) ?_
 refine gas ?_
 refine gnt (hK2 _ _ ?_)
 refine gc_ret ?_
 refine ret_1 rfl rfl  (fun w M => ?_)
 rw [← hb, bP_f fun h => by have := h.1; omega]; exact ⟨rfl, M.1⟩
theorem shape_false {c : Cat} (h : ¬ ShapeP c) : fIsShape c = false := bP_f h
theorem shape_true {c : Cat} (h : ShapeP c) : fIsShape c = true := bP_t h
theorem bP_no {p : Prop} (h : bP p = false) : ¬ p := fun hp => by rw [bP_t hp] at h; cases h
theorem bP_yes {p : Prop} (h : bP p = true) : p := bP_iff.1 h
structure Pre (c : Cat) : Prop where
 ob0 : 0 ≤ c.ob
 ob8 : c.ob ≤ 8
 n40 : c.s.length ≤ 40
 el : (c.e.length : Int) = c.ob
 tl : c.t.length = c.s.length
 ml : c.m.length = c.s.length
 sa : AllP c.ob c.s
 ta : AllP c.ob c.t
 ea : AllP c.s.length c.e
theorem pre_shape {c : Cat} (P : Pre c) (hi : ∀ x : Nat, (x : Int) < c.ob → okIdent c x) (hr : ∀ j, j < c.s.length → (row2 c.m (j : Int)).length = c.s.length) (hc : ∀ f g : Nat, f < c.s.length → g < c.s.length → okComp c f g) : ShapeP c :=
 ⟨⟨P.ob0, P.ob8, P.n40, P.el, P.tl, P.ml⟩, fun j hj => by have := hr j (by have := P.ml; omega); simpa [row2] using this, P.sa, P.ta, fun x hx => hi x (by have := P.el; omega), hc⟩
theorem rl_row {c : Cat} (h : ShapeP c) {p : Nat} (hp : p < c.m.length) : ((row2 c.m (p : Int)).length : Int) = c.s.length := by
 have := h.rl p hp
 have e : row2 c.m (p : Int) = c.m.getD p [] := by simp [row2]
 rw [e]; omega
theorem okI {c : Cat} {k : Nat} (h : 0 ≤ at0 c.e k ∧ at0 c.e k < c.s.length) (h1 : at0 c.s (at0 c.e k) = k) (h2 : at0 c.t (at0 c.e k) = k) : okIdent c k := ⟨h, h1, h2⟩
theorem spec_IsShape (w : World) (v : Value) (c : Cat) (h : RdC w v c) :
  Calls Try.prog 66 #[v] w (RetB w (fIsShape c)) := by
 have h0 := h
 obtain ⟨va, vb, vc, vd, ve, vf, vg, vh, rfl, h1, h2, h3, h4, _⟩ := h.lists
 go_enter func66, Try.ntmps66
 refine gc_enter (N := 159) rfl (look_cons (k := 0) rfl (look_nil _)) ?_
 refine gc_sr fun K1 hK1 => ?_
 refine gop fun K3 hK3 => ?_
 refine go_box rfl rfl rfl rfl rfl ?_
 intro B2
 refine hK3 _ _ ?_
 refine gas ?_
 refine gnt (hK1 _ _ ?_)
 refine gc_sr fun K4 hK4 => ?_
 refine gv (qtf underlying27 (z := 0) (off := 1)) ?_
 refine gv (qtl underlying24 (n := 0)) ?_
 refine gv (qln (fun w M => lenV_rd h1)) ?_
 refine gas ?_
 refine gnt (hK4 _ _ ?_)
 refine gc_seq fun K5 hK5 => ?_
 refine gc_sr fun K6 hK6 => ?_
 refine gv (qtf underlying27 (z := 0) (off := 0)) ?_
 refine gv (qtl underlying2 (n := 0)) ?_
 refine g_q (.free rfl) rfl rfl (qt_call rfl func87 rfl (by decide) rfl (fun w M => same_q (specIn_any w _ _ _ _ rfl))) ?_
 refine gv (qt_not rfl rfl) ?_
 refine g_splitv (.free rfl) rfl rfl (qt_move rfl rfl) (fun hs2_4 => ?_) (fun hs2_4 => ?_)
 ·try simp only [sA] at hs2_4
  refine gsk ?_
  refine gsk ?_
  refine gv (qt_pick_t rfl rfl rfl) ?_
  refine gm ?_
  refine gsk ?_
  refine gsk ?_
  refine gsk ?_
  refine gsk ?_
  refine gsk ?_
  refine gsk ?_
  refine gsk ?_
  refine gv (qt_pick_t rfl rfl rfl) ?_
  refine gm ?_
  refine gsk ?_
  refine gsk ?_
  refine gsk ?_
  refine gsk ?_
  refine gsk ?_
  refine gsk ?_
  refine gsk ?_
  refine gv (qt_pick_t rfl rfl rfl) ?_
  refine gm ?_
  refine gsk ?_
  refine gsk ?_
  refine gsk ?_
  refine gsk ?_
  refine gsk ?_
  refine gv (qt_pick_t rfl rfl rfl) ?_
  refine gnt (hK6 _ _ ?_)
  refine gc_cond_t rfl ?_
  refine gc_sr fun K7 hK7 => ?_
  refine gas ?_
  refine gnt (hK7 _ _ ?_)
  refine gc_ret ?_
  refine gk_then_ret ?_
  refine ret_1 rfl rfl  (fun w M => ?_)
  rw [shape_false fun h => hs2_4 ⟨h.ob0, h.ob8⟩]; exact ⟨rfl, M.1⟩
 try simp only [sA] at hs2_4
 refine gvh (qt_move rfl rfl) ?_
 refine gvh (qt_gtr rfl rfl rfl) ?_
 refine gv (qt_pick_f rfl rfl rfl) ?_
 refine g_splitv (.free rfl) rfl rfl (qt_move rfl rfl) (fun hs2_8 => ?_) (fun hs2_8 => ?_)
 ·try simp only [sA] at hs2_8
  refine gsk ?_
  refine gsk ?_
  refine gsk ?_
  refine gsk ?_
  refine gsk ?_
  refine gsk ?_
  refine gsk ?_
  refine gv (qt_pick_t rfl rfl rfl) ?_
  refine gm ?_
  refine gsk ?_
  refine gsk ?_
  refine gsk ?_
  refine gsk ?_
  refine gsk ?_
  refine gsk ?_
  refine gsk ?_
  refine gv (qt_pick_t rfl rfl rfl) ?_
  refine gm ?_
  refine gsk ?_
  refine gsk ?_
  refine gsk ?_
  refine gsk ?_
  refine gsk ?_
  refine gv (qt_pick_t rfl rfl rfl) ?_
  refine gnt (hK6 _ _ ?_)
  refine gc_cond_t rfl ?_
  refine gc_sr fun K8 hK8 => ?_
  refine gas ?_
  refine gnt (hK8 _ _ ?_)
  refine gc_ret ?_
  refine gk_then_ret ?_
  refine ret_1 rfl rfl  (fun w M => ?_)
  rw [shape_false fun h => by have := h.n40; omega]; exact ⟨rfl, M.1⟩
 try simp only [sA] at hs2_8
 refine gvh (qtf underlying27 (z := 0) (off := 1)) ?_
 refine gvh (qtl underlying24 (n := 0)) ?_
 refine gvh (qt_move rfl rfl) ?_
 refine gvh (qtf underlying27 (z := 0) (off := 0)) ?_
 refine gvh (qtl underlying2 (n := 0)) ?_
 refine g_q (.held _ _ _ rfl rfl rfl) rfl rfl (qt_call rfl func88 rfl (by decide) rfl (fun w M => specEnds_any w _ _ _ _ _ (mem_rd M h1) rfl)) ?_
 refine gvh (qt_not rfl rfl) ?_
 refine gv (qt_pick_f rfl rfl rfl) ?_
 refine g_splitv (.free rfl) rfl rfl (qt_move rfl rfl) (fun hs2_17 => ?_) (fun hs2_17 => ?_)
 ·try simp only [sA] at hs2_17
  refine gsk ?_
  refine gsk ?_
  refine gsk ?_
  refine gsk ?_
  refine gsk ?_
  refine gsk ?_
  refine gsk ?_
  refine gv (qt_pick_t rfl rfl rfl) ?_
  refine gm ?_
  refine gsk ?_
  refine gsk ?_
  refine gsk ?_
  refine gsk ?_
  refine gsk ?_
  refine gv (qt_pick_t rfl rfl rfl) ?_
  refine gnt (hK6 _ _ ?_)
  refine gc_cond_t rfl ?_
  refine gc_sr fun K9 hK9 => ?_
  refine gas ?_
  refine gnt (hK9 _ _ ?_)
  refine gc_ret ?_
  refine gk_then_ret ?_
  refine ret_1 rfl rfl  (fun w M => ?_)
  rw [shape_false fun h => bP_no hs2_17 (by simpa using h.sa)]; exact ⟨rfl, M.1⟩
 try simp only [sA] at hs2_17
 refine gvh (qtf underlying27 (z := 0) (off := 2)) ?_
 refine gvh (qtl underlying24 (n := 0)) ?_
 refine gvh (qt_move rfl rfl) ?_
 refine gvh (qtf underlying27 (z := 0) (off := 0)) ?_
 refine gvh (qtl underlying2 (n := 0)) ?_
 refine g_q (.held _ _ _ rfl rfl rfl) rfl rfl (qt_call rfl func88 rfl (by decide) rfl (fun w M => specEnds_any w _ _ _ _ _ (mem_rd M h2) rfl)) ?_
 refine gvh (qt_not rfl rfl) ?_
 refine gv (qt_pick_f rfl rfl rfl) ?_
 refine g_splitv (.free rfl) rfl rfl (qt_move rfl rfl) (fun hs2_26 => ?_) (fun hs2_26 => ?_)
 ·try simp only [sA] at hs2_26
  refine gsk ?_
  refine gsk ?_
  refine gsk ?_
  refine gsk ?_
  refine gsk ?_
  refine gv (qt_pick_t rfl rfl rfl) ?_
  refine gnt (hK6 _ _ ?_)
  refine gc_cond_t rfl ?_
  refine gc_sr fun K10 hK10 => ?_
  refine gas ?_
  refine gnt (hK10 _ _ ?_)
  refine gc_ret ?_
  refine gk_then_ret ?_
  refine ret_1 rfl rfl  (fun w M => ?_)
  rw [shape_false fun h => bP_no hs2_26 ⟨h.tl, h.ta⟩]; exact ⟨rfl, M.1⟩
 try simp only [sA] at hs2_26
 refine gvh (qtf underlying27 (z := 0) (off := 4)) ?_
 refine gvh (qtl underlying25 (n := 0)) ?_
 refine gvh (qt_len rfl rfl ulE2 (fun w M => lenV_rd2 h4)) ?_
 refine gvh (qt_move rfl rfl) ?_
 refine gvh (qt_neq rfl rfl rfl) ?_
 refine gv (qt_pick_f rfl rfl rfl) ?_
 refine gnt (hK6 _ _ ?_)
 refine gc_cond rfl (fun hc0 => ?_) (fun hc0 => ?_)
 ·try simp only [sA] at hc0
  refine gc_sr fun K11 hK11 => ?_
  refine gas ?_
  refine gnt (hK11 _ _ ?_)
  refine gc_ret ?_
  refine gk_then_ret ?_
  refine ret_1 rfl rfl  (fun w M => ?_)
  rw [shape_false fun h => by have := h.ml; omega]; exact ⟨rfl, M.1⟩
 try simp only [sA] at hc0
 refine gc_skip ?_
 refine gk_then (hK5 _ _ ?_)
 refine gc_seq fun K12 hK12 => ?_
 refine gc_sr fun K13 hK13 => ?_
 refine gv (qtf underlying27 (z := 0) (off := 3)) ?_
 refine gv (qtl underlying24 (n := 0)) ?_
 refine gv (qln (fun w M => lenV_rd h3)) ?_
 refine gv (qtf underlying27 (z := 0) (off := 0)) ?_
 refine gv (qtl underlying2 (n := 0)) ?_
 refine gv (qt_neq rfl rfl rfl) ?_
 refine g_splitv (.free rfl) rfl rfl (qt_move rfl rfl) (fun hs4_6 => ?_) (fun hs4_6 => ?_)
 ·try simp only [sA] at hs4_6
  refine gsk ?_
  refine gsk ?_
  refine gsk ?_
  refine gsk ?_
  refine gsk ?_
  refine gv (qt_pick_t rfl rfl rfl) ?_
  refine gnt (hK13 _ _ ?_)
  refine gc_cond_t rfl ?_
  refine gc_sr fun K14 hK14 => ?_
  refine gas ?_
  refine gnt (hK14 _ _ ?_)
  refine gc_ret ?_
  refine gk_then_ret ?_
  refine ret_1 rfl rfl  (fun w M => ?_)
  rw [shape_false fun h => hs4_6 h.el]; exact ⟨rfl, M.1⟩
 try simp only [sA] at hs4_6
 refine gvh (qt_move rfl rfl) ?_
 refine gvh (qtf underlying27 (z := 0) (off := 3)) ?_
 refine gvh (qtl underlying24 (n := 0)) ?_
 refine g_q (.held _ _ _ rfl rfl rfl) rfl rfl (qt_call rfl func89 rfl (by decide) rfl (fun w M => specMap_any w _ _ _ _ (mem_rd M h3) rfl)) ?_
 refine gvh (qt_not rfl rfl) ?_
 refine gv (qt_pick_f rfl rfl rfl) ?_
 refine gnt (hK13 _ _ ?_)
 refine gc_cond rfl (fun hc1 => ?_) (fun hc1 => ?_)
 ·try simp only [sA] at hc1
  refine gc_sr fun K15 hK15 => ?_
  refine gas ?_
  refine gnt (hK15 _ _ ?_)
  refine gc_ret ?_
  refine gk_then_ret ?_
  refine ret_1 rfl rfl  (fun w M => ?_)
  rw [shape_false fun h => hc1 fun y hy => by
  obtain ⟨j, hj, rfl⟩ := List.getElem_of_mem hy
  have := h.id j hj
  simp only [okIdent, Cat.arr, at0_nat, List.getD_eq_getElem?_getD, List.getElem?_eq_getElem hj, Option.getD_some] at this
  exact this.1]; exact ⟨rfl, M.1⟩
 try simp only [sA] at hc1
 refine gc_skip ?_
 refine gk_then (hK12 _ _ ?_)
 refine gc_seq fun K16 hK16 => ?_
 refine gc_seq fun K17 hK17 => ?_
 have P : Pre c := ⟨hs2_4.1, hs2_4.2, by omega, hs4_6, (bP_yes hs2_26).1, by omega, (bP_yes hs2_17).2, (bP_yes hs2_26).2, hc1⟩
 have q1 := P.ob0; have q2 := P.ob8; have q3 := P.n40; have q4 := P.el; have q5 := P.tl; have q6 := P.ml
 refine gc_region ?_
 refine gas ?_
 refine gnt (hK17 _ _ ?_)
 refine gc_block ?_
 try simp only [sL]
 refine gc_loopT ([(0, _), (1, _), (3, _), (43, _), (56, _)] : Env) (fun s : Nat => (fun (k : Nat) => (([(4, .int .i64 (k : Int))] : Env), ([] : List (Nat × Itm)), (k : Int) ≤ c.ob ∧ ∀ x : Nat, x < k → okIdent c x, (c.ob - (k : Int)).toNat)) s) (0) (by repeat first | exact sub_nil | refine sub_cons rfl ?_) rfl ⟨by omega, fun x hx => absurd hx (by omega)⟩ ?_
 rintro k hinv KL18 hKL18
 simp only [sU, sL] at hinv hKL18 ⊢
 obtain ⟨hk, hid⟩ := hinv
 refine gc_seq fun K19 hK19 => ?_
 refine gc_sr fun K20 hK20 => ?_
 refine gm ?_
 refine gv (qtf underlying27 (z := 0) (off := 0)) ?_
 refine gv (qtl underlying2 (n := 0)) ?_
 refine gv (qt_lss rfl rfl rfl) ?_
 refine gnt (hK20 _ _ ?_)
 refine gc_cond rfl (fun hc2 => ?_) (fun hc2 => ?_)
 ·try simp only [sA] at hc2
  refine gc_skip ?_
  refine gk_then (hK19 _ _ ?_)
  refine gc_seq fun K21 hK21 => ?_
  refine gc_block ?_
  refine gc_seq fun K22 hK22 => ?_
  have e0 := allP_at P.ea (k := k) (by omega)
  have e1 := e0.1; have e2 := e0.2
  refine gc_draw (by kernel_rfl) ?_
  refine gdv (qtf underlying27 (z := 0) (off := 1)) ?_
  refine gdv (qtl underlying24 (n := 0)) ?_
  refine gdv (qtf underlying27 (z := 0) (off := 3)) ?_
  refine gdv (qtl underlying24 (n := 0)) ?_
  refine gdv (qt_move rfl rfl) ?_
  refine gdv (qti (fun w M => lenA_rd h3)) ?_
  refine gdv (qtd (fun w M => mem_rd M h3)) ?_
  refine gdv (qti (fun w M => lenA_rd h1)) ?_
  refine gdv (qtd (fun w M => mem_rd M h1)) ?_
  refine gdv (qt_move rfl rfl) ?_
  refine gdv (qt_neq rfl rfl rfl) ?_
  refine gd_splitv (.free rfl) rfl rfl (qt_move rfl rfl) (fun hs9_11 => ?_) (fun hs9_11 => ?_)
  ·try simp only [sA] at hs9_11
   refine gdsk ?_
   refine gdsk ?_
   refine gdsk ?_
   refine gdsk ?_
   refine gdsk ?_
   refine gdsk ?_
   refine gdsk ?_
   refine gdsk ?_
   refine gdsk ?_
   refine gdsk ?_
   refine gdsk ?_
   refine gdv (qt_pick_t rfl rfl rfl) ?_
   refine gd_nil ?_
   refine gk_then (hK22 _ _ ?_)
   refine gc_cond_t rfl ?_
   refine gc_sr fun K23 hK23 => ?_
   refine gas ?_
   refine gnt (hK23 _ _ ?_)
   refine gc_ret ?_
   refine gk_block_ret ?_
   refine gk_then_ret ?_
   refine gk_then_ret ?_
   refine gk_block_ret ?_
   refine gk_then_ret ?_
   refine ret_1 rfl rfl  (fun w M => ?_)
   rw [shape_false fun h => hs9_11 (h.id k (by omega)).2.1]; exact ⟨rfl, M.1⟩
  try simp only [sA] at hs9_11
  refine gdvh (qtf underlying27 (z := 0) (off := 2)) ?_
  refine gdvh (qtl underlying24 (n := 0)) ?_
  refine gdvh (qtf underlying27 (z := 0) (off := 3)) ?_
  refine gdvh (qtl underlying24 (n := 0)) ?_
  refine gdvh (qt_move rfl rfl) ?_
  refine gdvh (qti (fun w M => lenA_rd h3)) ?_
  refine gdvh (qtd (fun w M => mem_rd M h3)) ?_
  refine gdvh (qti (fun w M => lenA_rd h2)) ?_
  refine gdvh (qtd (fun w M => mem_rd M h2)) ?_
  refine gdvh (qt_move rfl rfl) ?_
  refine gdvh (qt_neq rfl rfl rfl) ?_
  refine gdv (qt_pick_f rfl rfl rfl) ?_
  refine gd_nil ?_
  refine gk_then (hK22 _ _ ?_)
  refine gc_cond rfl (fun hc3 => ?_) (fun hc3 => ?_)
  ·try simp only [sA] at hc3
   refine gc_sr fun K24 hK24 => ?_
   refine gas ?_
   refine gnt (hK24 _ _ ?_)
   refine gc_ret ?_
   refine gk_block_ret ?_
   refine gk_then_ret ?_
   refine gk_then_ret ?_
   refine gk_block_ret ?_
   refine gk_then_ret ?_
   refine ret_1 rfl rfl  (fun w M => ?_)
   rw [shape_false fun h => hc3 (h.id k (by omega)).2.2]; exact ⟨rfl, M.1⟩
  try simp only [sA] at hc3
  refine gc_skip ?_
  refine gk_block ?_
  refine gk_then (hK21 _ _ ?_)
  refine gc_region ?_
  refine gm ?_
  refine gv (qt_add rfl rfl rfl (by omega)) ?_
  refine gas ?_
  refine g_nil ?_
  refine gk_then (gk_take 1 ?_)
  refine gk_sub ?hs_25 (hKL18 (k + 1) ?hi_25 ?hm_25)
  case hs_25 => repeat first | exact sub_nil | refine sub_cons rfl ?_
  case hi_25 => exact ⟨by omega, all_next0 hid (okI e0 hs9_11 hc3)⟩
  case hm_25 => omega
 try simp only [sA] at hc2
 refine gc_exit ?_
 refine gk_then_exit ?_
 refine gk_then_exit ?_
 refine gk_block_hit ?_
 refine gk_then (hK16 _ _ ?_)
 refine gc_seq fun K26 hK26 => ?_
 refine gc_sr fun K27 hK27 => ?_
 refine gas ?_
 refine gnt (hK27 _ _ ?_)
 refine gc_block ?_
 have hid2 : ∀ x : Nat, (x : Int) < c.ob → okIdent c x := fun x hx => hid x (by omega)
 try simp only [sL]
 refine gc_loopT ([(0, _), (1, _), (3, _), (4, _), (43, _), (56, _), (60, _)] : Env) (fun s : Nat => (fun (p : Nat) => (([(5, .int .i64 (p : Int))] : Env), ([] : List (Nat × Itm)), p ≤ c.s.length ∧ (∀ j : Nat, j < p → (row2 c.m (j : Int)).length = c.s.length) ∧ ∀ f g : Nat, f < p → g < c.s.length → okComp c f g, c.s.length - p)) s) (0) (by repeat first | exact sub_nil | refine sub_cons rfl ?_) rfl ⟨by omega, fun x hx => absurd hx (by omega), fun x y hx => absurd hx (by omega)⟩ ?_
 rintro p hinv KL28 hKL28
 simp only [sU, sL] at hinv hKL28 ⊢
 obtain ⟨hp, hrl, hco⟩ := hinv
 refine gc_seq fun K29 hK29 => ?_
 refine gc_sr fun K30 hK30 => ?_
 refine gm ?_
 refine gm ?_
 refine gv (qt_lss rfl rfl rfl) ?_
 refine gnt (hK30 _ _ ?_)
 refine gc_cond rfl (fun hc4 => ?_) (fun hc4 => ?_)
 ·try simp only [sA] at hc4
  refine gc_skip ?_
  refine gk_then (hK29 _ _ ?_)
  refine gc_seq fun K31 hK31 => ?_
  refine gc_block ?_
  refine gc_seq fun K32 hK32 => ?_
  refine gc_sr fun K33 hK33 => ?_
  refine gv (qtf underlying27 (z := 0) (off := 4)) ?_
  refine gv (qtl underlying25 (n := 0)) ?_
  refine gm ?_
  refine gv (qti2 (fun w M => lenA_rd2 h4)) ?_
  refine g_load2 (.free rfl) rfl rfl rfl rfl underlying24 rfl h4 (by omega) (by omega) ?_
  intro ra34 rc34 hr34
  refine gv (qln (fun w M => lenV_rd hr34)) ?_
  refine gm ?_
  refine gv (qt_neq rfl rfl rfl) ?_
  refine gnt (hK33 _ _ ?_)
  refine gc_cond rfl (fun hc5 => ?_) (fun hc5 => ?_)
  ·try simp only [sA] at hc5
   refine gc_sr fun K35 hK35 => ?_
   refine gas ?_
   refine gnt (hK35 _ _ ?_)
   refine gc_ret ?_
   refine gk_then_ret ?_
   refine gk_block_ret ?_
   refine gk_then_ret ?_
   refine gk_then_ret ?_
   refine gk_block_ret ?_
   refine gk_then_ret ?_
   refine ret_1 rfl rfl  (fun w M => ?_)
   rw [shape_false fun h => hc5 (rl_row h (by omega))]; exact ⟨rfl, M.1⟩
  try simp only [sA] at hc5
  refine gc_skip ?_
  refine gk_then (hK32 _ _ ?_)
  refine gc_sr fun K36 hK36 => ?_
  refine gas ?_
  refine gnt (hK36 _ _ ?_)
  refine gc_block ?_
  try simp only [sL]
  refine gc_loopT ([(0, _), (1, _), (3, _), (4, _), (5, _), (43, _), (56, _), (60, _), (89, _), (99, _)] : Env) (fun s : Nat => (fun (q : Nat) => (([(6, .int .i64 (q : Int))] : Env), ([] : List (Nat × Itm)), q ≤ c.s.length ∧ ∀ g : Nat, g < q → okComp c p g, c.s.length - q)) s) (0) (by repeat first | exact sub_nil | refine sub_cons rfl ?_) rfl ⟨by omega, fun x hx => absurd hx (by omega)⟩ ?_
  rintro q hinv KL37 hKL37
  simp only [sU, sL] at hinv hKL37 ⊢
  obtain ⟨hq, hcp⟩ := hinv
  refine gc_seq fun K38 hK38 => ?_
  refine gc_sr fun K39 hK39 => ?_
  refine gm ?_
  refine gm ?_
  refine gv (qt_lss rfl rfl rfl) ?_
  refine gnt (hK39 _ _ ?_)
  refine gc_cond rfl (fun hc6 => ?_) (fun hc6 => ?_)
  ·try simp only [sA] at hc6
   refine gc_skip ?_
   refine gk_then (hK38 _ _ ?_)
   refine gc_seq fun K40 hK40 => ?_
   refine gc_block ?_
   refine gc_seq fun K41 hK41 => ?_
   have hrw := hc5
   refine gc_region ?_
   refine gv (qtf underlying27 (z := 0) (off := 4)) ?_
   refine gv (qtl underlying25 (n := 0)) ?_
   refine gm ?_
   refine gv (qti2 (fun w M => lenA_rd2 h4)) ?_
   refine g_load2 (.free rfl) rfl rfl rfl rfl underlying24 rfl h4 (by omega) (by omega) ?_
   intro ra42 rc42 hr42
   refine gm ?_
   refine gv (qti (fun w M => lenA_rd hr42)) ?_
   refine gv (qtd (fun w M => mem_rd M hr42)) ?_
   refine gas ?_
   refine gnt (hK41 _ _ ?_)
   refine gc_seq fun K43 hK43 => ?_
   refine gc_seq fun K44 hK44 => ?_
   have g0 : (0 : Int) ≤ p := by omega
   refine gc_draw (by kernel_rfl) ?_
   refine gdv (qtf underlying27 (z := 0) (off := 2)) ?_
   refine gdv (qtl underlying24 (n := 0)) ?_
   refine gdv (qt_move rfl rfl) ?_
   refine gdv (qti (fun w M => lenA_rd h2)) ?_
   refine gdv (qtd (fun w M => mem_rd M h2)) ?_
   refine gdv (qtf underlying27 (z := 0) (off := 1)) ?_
   refine gdv (qtl underlying24 (n := 0)) ?_
   refine gdv (qt_move rfl rfl) ?_
   refine gdv (qti (fun w M => lenA_rd h1)) ?_
   refine gdv (qtd (fun w M => mem_rd M h1)) ?_
   refine gdv (qt_neq rfl rfl rfl) ?_
   refine gd_nil ?_
   refine gk_then (hK44 _ _ ?_)
   refine gc_cond rfl (fun hc7 => ?_) (fun hc7 => ?_)
   ·try simp only [sA] at hc7
    refine gc_seq fun K45 hK45 => ?_
    refine gc_sr fun K46 hK46 => ?_
    refine gm ?_
    refine gv (qt_neq rfl rfl rfl) ?_
    refine gnt (hK46 _ _ ?_)
    refine gc_cond rfl (fun hc8 => ?_) (fun hc8 => ?_)
    ·try simp only [sA] at hc8
     refine gc_sr fun K47 hK47 => ?_
     refine gas ?_
     refine gnt (hK47 _ _ ?_)
     refine gc_ret ?_
     refine gk_then_ret ?_
     refine gk_then_ret ?_
     refine gk_block_ret ?_
     refine gk_then_ret ?_
     refine gk_then_ret ?_
     refine gk_block_ret ?_
     refine gk_block_ret ?_
     refine gk_then_ret ?_
     refine gk_then_ret ?_
     refine gk_block_ret ?_
     refine gk_then_ret ?_
     refine ret_1 rfl rfl  (fun w M => ?_)
     rw [shape_false fun h => hc8 ((h.co p q (by omega) (by omega)).2 hc7)]; exact ⟨rfl, M.1⟩
    try simp only [sA] at hc8
    refine gc_skip ?_
    refine gk_then (hK45 _ _ ?_)
    refine gc_exit ?_
    refine gk_then_exit ?_
    refine gk_block_hit ?_
    refine gk_then (hK40 _ _ ?_)
    refine gc_region ?_
    refine gm ?_
    refine gv (qt_add rfl rfl rfl (by omega)) ?_
    refine gas ?_
    refine g_nil ?_
    refine gk_then (gk_take 1 ?_)
    refine gk_sub ?hs_48 (hKL37 (q + 1) ?hi_48 ?hm_48)
    case hs_48 => repeat first | exact sub_nil | refine sub_cons rfl ?_
    case hi_48 => exact ⟨by omega, all_next0 hcp ⟨fun h => absurd h hc7, fun _ => hc8⟩⟩
    case hm_48 => omega
   try simp only [sA] at hc7
   refine gc_skip ?_
   refine gk_then (hK43 _ _ ?_)
   refine gc_seq fun K49 hK49 => ?_
   have z1 : c.th p q = at0 (row2 c.m p) q := rfl
   refine gc_draw (by kernel_rfl) ?_
   refine gdv (qt_move rfl rfl) ?_
   refine gdv (qt_lss rfl rfl rfl) ?_
   refine gd_splitv (.free rfl) rfl rfl (qt_move rfl rfl) (fun hs23_2 => ?_) (fun hs23_2 => ?_)
   ·try simp only [sA] at hs23_2
    refine gdsk ?_
    refine gdsk ?_
    refine gdsk ?_
    refine gdv (qt_pick_t rfl rfl rfl) ?_
    refine gdv (qt_move rfl rfl) ?_
    refine gdsk ?_
    refine gdsk ?_
    refine gdsk ?_
    refine gdsk ?_
    refine gdsk ?_
    refine gdsk ?_
    refine gdsk ?_
    refine gdsk ?_
    refine gdsk ?_
    refine gdsk ?_
    refine gdsk ?_
    refine gdv (qt_pick_t rfl rfl rfl) ?_
    refine gdv (qt_move rfl rfl) ?_
    refine gdsk ?_
    refine gdsk ?_
    refine gdsk ?_
    refine gdsk ?_
    refine gdsk ?_
    refine gdsk ?_
    refine gdsk ?_
    refine gdsk ?_
    refine gdsk ?_
    refine gdsk ?_
    refine gdsk ?_
    refine gdv (qt_pick_t rfl rfl rfl) ?_
    refine gd_nil ?_
    refine gk_then (hK49 _ _ ?_)
    refine gc_cond_t rfl ?_
    refine gc_sr fun K50 hK50 => ?_
    refine gas ?_
    refine gnt (hK50 _ _ ?_)
    refine gc_ret ?_
    refine gk_block_ret ?_
    refine gk_then_ret ?_
    refine gk_then_ret ?_
    refine gk_block_ret ?_
    refine gk_block_ret ?_
    refine gk_then_ret ?_
    refine gk_then_ret ?_
    refine gk_block_ret ?_
    refine gk_then_ret ?_
    refine ret_1 rfl rfl  (fun w M => ?_)
    rw [shape_false fun h => by have := ((h.co p q (by omega) (by omega)).1 hc7).1.1; have z1 : c.th p q = at0 (row2 c.m p) q := rfl; omega]; exact ⟨rfl, M.1⟩
   try simp only [sA] at hs23_2
   refine gdvh (qt_move rfl rfl) ?_
   refine gdvh (qt_move rfl rfl) ?_
   refine gdvh (qt_geq rfl rfl rfl) ?_
   refine gdv (qt_pick_f rfl rfl rfl) ?_
   refine gd_splitv (.free rfl) rfl rfl (qt_move rfl rfl) (fun hs23_7 => ?_) (fun hs23_7 => ?_)
   ·try simp only [sA] at hs23_7
    refine gdsk ?_
    refine gdsk ?_
    refine gdsk ?_
    refine gdsk ?_
    refine gdsk ?_
    refine gdsk ?_
    refine gdsk ?_
    refine gdsk ?_
    refine gdsk ?_
    refine gdsk ?_
    refine gdsk ?_
    refine gdv (qt_pick_t rfl rfl rfl) ?_
    refine gdv (qt_move rfl rfl) ?_
    refine gdsk ?_
    refine gdsk ?_
    refine gdsk ?_
    refine gdsk ?_
    refine gdsk ?_
    refine gdsk ?_
    refine gdsk ?_
    refine gdsk ?_
    refine gdsk ?_
    refine gdsk ?_
    refine gdsk ?_
    refine gdv (qt_pick_t rfl rfl rfl) ?_
    refine gd_nil ?_
    refine gk_then (hK49 _ _ ?_)
    refine gc_cond_t rfl ?_
    refine gc_sr fun K51 hK51 => ?_
    refine gas ?_
    refine gnt (hK51 _ _ ?_)
    refine gc_ret ?_
    refine gk_block_ret ?_
    refine gk_then_ret ?_
    refine gk_then_ret ?_
    refine gk_block_ret ?_
    refine gk_block_ret ?_
    refine gk_then_ret ?_
    refine gk_then_ret ?_
    refine gk_block_ret ?_
    refine gk_then_ret ?_
    refine ret_1 rfl rfl  (fun w M => ?_)
    rw [shape_false fun h => by have := ((h.co p q (by omega) (by omega)).1 hc7).1.2; have z1 : c.th p q = at0 (row2 c.m p) q := rfl; omega]; exact ⟨rfl, M.1⟩
   try simp only [sA] at hs23_7
   refine gdvh (qtf underlying27 (z := 0) (off := 1)) ?_
   refine gdvh (qtl underlying24 (n := 0)) ?_
   refine gdvh (qt_move rfl rfl) ?_
   refine gdvh (qti (fun w M => lenA_rd h1)) ?_
   refine gdvh (qtd (fun w M => mem_rd M h1)) ?_
   refine gdvh (qtf underlying27 (z := 0) (off := 1)) ?_
   refine gdvh (qtl underlying24 (n := 0)) ?_
   refine gdvh (qt_move rfl rfl) ?_
   refine gdvh (qti (fun w M => lenA_rd h1)) ?_
   refine gdvh (qtd (fun w M => mem_rd M h1)) ?_
   refine gdvh (qt_neq rfl rfl rfl) ?_
   refine gdv (qt_pick_f rfl rfl rfl) ?_
   refine gd_splitv (.free rfl) rfl rfl (qt_move rfl rfl) (fun hs23_20 => ?_) (fun hs23_20 => ?_)
   ·try simp only [sA] at hs23_20
    refine gdsk ?_
    refine gdsk ?_
    refine gdsk ?_
    refine gdsk ?_
    refine gdsk ?_
    refine gdsk ?_
    refine gdsk ?_
    refine gdsk ?_
    refine gdsk ?_
    refine gdsk ?_
    refine gdsk ?_
    refine gdv (qt_pick_t rfl rfl rfl) ?_
    refine gd_nil ?_
    refine gk_then (hK49 _ _ ?_)
    refine gc_cond_t rfl ?_
    refine gc_sr fun K52 hK52 => ?_
    refine gas ?_
    refine gnt (hK52 _ _ ?_)
    refine gc_ret ?_
    refine gk_block_ret ?_
    refine gk_then_ret ?_
    refine gk_then_ret ?_
    refine gk_block_ret ?_
    refine gk_block_ret ?_
    refine gk_then_ret ?_
    refine gk_then_ret ?_
    refine gk_block_ret ?_
    refine gk_then_ret ?_
    refine ret_1 rfl rfl  (fun w M => ?_)
    rw [shape_false fun h => hs23_20 ((h.co p q (by omega) (by omega)).1 hc7).2.1]; exact ⟨rfl, M.1⟩
   try simp only [sA] at hs23_20
   refine gdvh (qtf underlying27 (z := 0) (off := 2)) ?_
   refine gdvh (qtl underlying24 (n := 0)) ?_
   refine gdvh (qt_move rfl rfl) ?_
   refine gdvh (qti (fun w M => lenA_rd h2)) ?_
   refine gdvh (qtd (fun w M => mem_rd M h2)) ?_
   refine gdvh (qtf underlying27 (z := 0) (off := 2)) ?_
   refine gdvh (qtl underlying24 (n := 0)) ?_
   refine gdvh (qt_move rfl rfl) ?_
   refine gdvh (qti (fun w M => lenA_rd h2)) ?_
   refine gdvh (qtd (fun w M => mem_rd M h2)) ?_
   refine gdvh (qt_neq rfl rfl rfl) ?_
   refine gdv (qt_pick_f rfl rfl rfl) ?_
   refine gd_nil ?_
   refine gk_then (hK49 _ _ ?_)
   refine gc_cond rfl (fun hc9 => ?_) (fun hc9 => ?_)
   ·try simp only [sA] at hc9
    refine gc_sr fun K53 hK53 => ?_
    refine gas ?_
    refine gnt (hK53 _ _ ?_)
    refine gc_ret ?_
    refine gk_block_ret ?_
    refine gk_then_ret ?_
    refine gk_then_ret ?_
    refine gk_block_ret ?_
    refine gk_block_ret ?_
    refine gk_then_ret ?_
    refine gk_then_ret ?_
    refine gk_block_ret ?_
    refine gk_then_ret ?_
    refine ret_1 rfl rfl  (fun w M => ?_)
    rw [shape_false fun h => hc9 ((h.co p q (by omega) (by omega)).1 hc7).2.2]; exact ⟨rfl, M.1⟩
   try simp only [sA] at hc9
   refine gc_skip ?_
   refine gk_block ?_
   refine gk_then (hK40 _ _ ?_)
   refine gc_region ?_
   refine gm ?_
   refine gv (qt_add rfl rfl rfl (by omega)) ?_
   refine gas ?_
   refine g_nil ?_
   refine gk_then (gk_take 1 ?_)
   refine gk_sub ?hs_54 (hKL37 (q + 1) ?hi_54 ?hm_54)
   case hs_54 => repeat first | exact sub_nil | refine sub_cons rfl ?_
   case hi_54 => exact ⟨by omega, all_next0 hcp ⟨fun _ => ⟨⟨by show 0 ≤ at0 (row2 c.m p) q; omega, by show at0 (row2 c.m p) q < _; omega⟩, hs23_20, hc9⟩, fun h => absurd hc7 h⟩⟩
   case hm_54 => omega
  try simp only [sA] at hc6
  refine gc_exit ?_
  refine gk_then_exit ?_
  refine gk_then_exit ?_
  refine gk_block_hit ?_
  refine gk_block ?_
  refine gk_then (hK31 _ _ ?_)
  refine gc_region ?_
  refine gm ?_
  refine gv (qt_add rfl rfl rfl (by omega)) ?_
  refine gas ?_
  refine g_nil ?_
  refine gk_then (gk_take 1 ?_)
  refine gk_sub ?hs_55 (hKL28 (p + 1) ?hi_55 ?hm_55)
  case hs_55 => repeat first | exact sub_nil | refine sub_cons rfl ?_
  case hi_55 => exact ⟨by omega, all_next0 hrl (by omega), fun f g hf hg => by
   rcases Nat.lt_or_ge f p with h1 | h1
   ·exact hco f g h1 hg
   ·obtain rfl : f = p := by omega
    exact hcp g (by omega)⟩
  case hm_55 => omega
 try simp only [sA] at hc4
 refine gc_exit ?_
 refine gk_then_exit ?_
 refine gk_then_exit ?_
 refine gk_block_hit ?_
 refine gk_then (hK26 _ _ ?_)
 refine gc_sr fun K56 hK56 => ?_
 refine gas ?_
 refine gnt (hK56 _ _ ?_)
 refine gc_ret ?_
 refine ret_1 rfl rfl  (fun w M => ?_)
 rw [shape_true (pre_shape P hid2 (fun j hj => hrl j (by omega)) (fun f g hf hg => hco f g (by omega) hg))]; exact ⟨rfl, M.1⟩
end Go.Proofs.Ytbiplocgenppoaa
