import Derived.Test.YtpcabkdkdnchaaaGreatN6
set_option linter.unusedSimpArgs false
set_option linter.unusedVariables false
set_option linter.unusedSectionVars false
namespace Go.Proofs.YtpcabkdkdnchaaaGreat
open Go.RowKit
theorem row2_len {c : Cat} (hr : RowsP c) {f : Int} (f0 : 0 ≤ f) (f1 : f < c.m.length) : (row2 c.m f).length = c.s.length := hr f.toNat (by omega)
theorem bP_no' {p : Prop} (h : bP p = false) : ¬ p := fun hp => by rw [bP_t hp] at h; cases h
theorem bP_yes' {p : Prop} (h : bP p = true) : p := bP_iff.1 h
theorem bP_eq_dec {p q : Prop} [Decidable q] (h : p ↔ q) : decide q = bP p := by rw [← bP_dec]; exact bP_congr h.symm
set_option maxHeartbeats 1000000 in
set_option maxRecDepth 100000 in
theorem fits_w (w : World) (v : Value) (c : Cat) (f g : Int) (h : RdC w v c) (hL : LenP c) (hR : RowsP c) (f0 : 0 ≤ f) (f1 : f < c.s.length) (g0 : 0 ≤ g) (g1 : g < c.s.length) :
  Calls Tryz.prog 182 #[v, .int .i64 f, .int .i64 g] w (RetB w (bP (okComp c f g))) := by
 have h0 := h
 obtain ⟨va, vb, vc, vd, ve, vf, vg, vh, rfl, h1, h2, h3, h4, _⟩ := h.lists
 have htl := hL.tl; have hml := hL.ml; have hrw := row2_len hR f0 (by omega)
 go_enter Tryz.func182, Tryz.ntmps182
 refine gc_enter (N := 46) rfl (look_cons (k := 0) rfl (look_cons (k := 1) rfl (look_cons (k := 2) rfl (look_nil _)))) ?_
 refine gc_sr fun K1 hK1 => ?_
 refine gop fun K3 hK3 => ?_
 refine go_box rfl rfl rfl rfl rfl ?_
 intro B2
 refine hK3 _ _ ?_
 refine gas ?_
 refine gnt (hK1 _ _ ?_)
 refine gc_sr fun K4 hK4 => ?_
 refine gv (qts Tryz.underlying29 (n := 0)) ?_
 refine gm ?_
 refine gm ?_
 refine g_q (.free rfl) rfl rfl (qt_call rfl Tryz.func119 rfl (by decide) rfl (fun w M => then_any w _ _ _ _ (mem_rdC M h0) (by first | assumption | omega) (by first | assumption | omega) (by first | assumption | omega) (by first | assumption | omega))) ?_
 refine gas ?_
 refine gnt (hK4 _ _ ?_)
 refine gc_seq fun K5 hK5 => ?_
 refine gc_seq fun K6 hK6 => ?_
 refine gc_draw (by kernel_rfl) ?_
 refine gdv (qtf Tryz.underlying29 (z := 0) (off := 2)) ?_
 refine gdv (qtl Tryz.underlying22 (n := 0)) ?_
 refine gdv (qt_move rfl rfl) ?_
 refine gdv (qti (fun w M => lenA_rd h2)) ?_
 refine gdv (qtd (fun w M => mem_rd M h2)) ?_
 refine gdv (qtf Tryz.underlying29 (z := 0) (off := 1)) ?_
 refine gdv (qtl Tryz.underlying22 (n := 0)) ?_
 refine gdv (qt_move rfl rfl) ?_
 refine gdv (qti (fun w M => lenA_rd h1)) ?_
 refine gdv (qtd (fun w M => mem_rd M h1)) ?_
 refine gdv (qt_neq rfl rfl rfl) ?_
 refine gd_nil ?_
 refine gk_then (hK6 _ _ ?_)
 refine gc_cond rfl (fun hc0 => ?_) (fun hc0 => ?_)
 ·try simp only [sA] at hc0
  refine gc_sr fun K7 hK7 => ?_
  refine gm ?_
  refine gv (qt_eql rfl rfl rfl) ?_
  refine gas ?_
  refine gnt (hK7 _ _ ?_)
  refine gc_ret ?_
  refine gk_then_ret ?_
  refine ret_1 rfl rfl  (fun w M => ?_)
  refine ⟨?_, M.1⟩; rw [bP_eq_dec (p := okComp c f g)]; exact ⟨fun h => h.2 hc0, fun h => ⟨fun h2 => absurd h2 hc0, fun _ => h⟩⟩
 ·try simp only [sA] at hc0
  refine gc_skip ?_
  refine gk_then (hK5 _ _ ?_)
  refine gc_seq fun K8 hK8 => ?_
  try simp only [sL]
  refine ga_start _ (fun w M => M) ?_
  refine gav 0 rfl (qts Tryz.underlying29 (n := 0)) ?_
  refine gav 1 rfl (qt_move rfl rfl) ?_
  refine gao 2 fun K10 hK10 => ?_
  refine go_slice1 rfl rfl rfl rfl Tryz.underlying22 ?_
  intro B9
  refine hK10 _ _ (fun w M => (mem_take 1 M :)) ?_
  refine gao 3 fun K11 hK11 => ?_
  refine go_q rfl rfl (qt_call rfl Tryz.func171 rfl (by decide) rfl (fun w M => hasArrows_any w _ _ _ _ _ (mem_rdC M h0) ((mem_own1 (n := 1) M rfl).rd) rfl)) ?_
  refine hK11 _ _ (fun w M => (mem_take 1 M :)) ?_
  refine ga_splitv 4 rfl (by kernel_rfl) (by kernel_rfl) (by kernel_rfl) (.free rfl) rfl rfl (qt_move rfl rfl) (fun _ _ _ _ h => h) (fun hs4_4 => ?_) (fun hs4_4 => ?_)
  ·try simp only [sA] at hs4_4
   have ha := allP_one.1 (bP_yes' hs4_4)
   have x1 := ha.1; have x2 := ha.2
   refine ga_v 5 rfl (by kernel_rfl) (by kernel_rfl) (by kernel_rfl) (.held _ _ _ rfl rfl rfl) rfl rfl (qts Tryz.underlying29 (n := 0)) (fun _ _ _ h => h) ?_
   refine ga_v 6 rfl (by kernel_rfl) (by kernel_rfl) (by kernel_rfl) (.held _ _ _ rfl rfl rfl) rfl rfl (qt_move rfl rfl) (fun _ _ _ h => h) ?_
   refine ga_v 8 rfl (by kernel_rfl) (by kernel_rfl) (by kernel_rfl) (.held _ _ _ rfl rfl rfl) rfl rfl (qtf Tryz.underlying29 (z := 0) (off := 1)) (fun _ _ _ h => h) ?_
   refine ga_v 9 rfl (by kernel_rfl) (by kernel_rfl) (by kernel_rfl) (.held _ _ _ rfl rfl rfl) rfl rfl (qtl Tryz.underlying22 (n := 0)) (fun _ _ _ h => h) ?_
   refine ga_v 10 rfl (by kernel_rfl) (by kernel_rfl) (by kernel_rfl) (.held _ _ _ rfl rfl rfl) rfl rfl (qt_move rfl rfl) (fun _ _ _ h => h) ?_
   refine ga_v 11 rfl (by kernel_rfl) (by kernel_rfl) (by kernel_rfl) (.held _ _ _ rfl rfl rfl) rfl rfl (qt_index rfl rfl rfl ulE1 szE1 (fun w M => lenA_rd h1) (by omega) (by omega)) (fun _ _ _ h => h) ?_
   refine ga_v 12 rfl (by kernel_rfl) (by kernel_rfl) (by kernel_rfl) (.held _ _ _ rfl rfl rfl) rfl rfl (qt_load1 rfl rfl Tryz.underlying2 rfl (fun w M => mem_rd M h1) (by omega) (by omega)) (fun _ _ _ h => h) ?_
   refine ga_v 13 rfl (by kernel_rfl) (by kernel_rfl) (by kernel_rfl) (.held _ _ _ rfl rfl rfl) rfl rfl (qtf Tryz.underlying29 (z := 0) (off := 2)) (fun _ _ _ h => h) ?_
   refine ga_v 14 rfl (by kernel_rfl) (by kernel_rfl) (by kernel_rfl) (.held _ _ _ rfl rfl rfl) rfl rfl (qtl Tryz.underlying22 (n := 0)) (fun _ _ _ h => h) ?_
   refine ga_v 15 rfl (by kernel_rfl) (by kernel_rfl) (by kernel_rfl) (.held _ _ _ rfl rfl rfl) rfl rfl (qt_move rfl rfl) (fun _ _ _ h => h) ?_
   refine ga_v 16 rfl (by kernel_rfl) (by kernel_rfl) (by kernel_rfl) (.held _ _ _ rfl rfl rfl) rfl rfl (qt_index rfl rfl rfl ulE1 szE1 (fun w M => lenA_rd h2) (by omega) (by omega)) (fun _ _ _ h => h) ?_
   refine ga_v 17 rfl (by kernel_rfl) (by kernel_rfl) (by kernel_rfl) (.held _ _ _ rfl rfl rfl) rfl rfl (qt_load1 rfl rfl Tryz.underlying2 rfl (fun w M => mem_rd M h2) (by omega) (by omega)) (fun _ _ _ h => h) ?_
   refine ga_v 18 rfl (by kernel_rfl) (by kernel_rfl) (by kernel_rfl) (.held _ _ _ rfl rfl rfl) rfl rfl (qt_build rfl rfl bt_arrowEnds) (fun _ _ _ h => h) ?_
   refine ga_op 7 (by kernel_rfl) rfl (.held _ _ _ rfl rfl rfl) fun K12 hK12 => ?_
   refine go_q rfl rfl (qt_call rfl Tryz.func146 rfl (by decide) rfl (fun w M => ends_any w _ _ _ (mem_rdC M h0) (by first | assumption | omega) (by first | assumption | omega) (by first | assumption | omega))) ?_
   refine hK12 _ _ (fun w M => (mem_take 1 M :)) ?_
   refine ga_v 19 rfl (by kernel_rfl) (by kernel_rfl) (by kernel_rfl) (.held _ _ _ rfl rfl rfl) rfl rfl (qt_eqA rfl rfl rfl (fun w => eqA_arrowEnds _ _ _ _ w) eqG_arrowEnds) (fun _ _ _ h => h) ?_
   refine gav 20 rfl (qt_pick_t rfl rfl rfl) ?_
   refine gav 21 rfl (qt_assign rfl rfl) ?_
   refine ga_done (by kernel_rfl) ?_
   refine gk_then (hK8 _ _ ?_)
   refine gc_ret ?_
   refine ret_1 rfl rfl  (fun w M => ?_)
   refine ⟨?_, M.1⟩; rw [bP_eq_dec (p := okComp c f g)]; exact ⟨fun h => (h.1 hc0).2, fun h => ⟨fun _ => ⟨ha, h⟩, fun h2 => absurd hc0 h2⟩⟩
  ·try simp only [sA] at hs4_4
   refine ga_skip 5 rfl (by kernel_rfl) (by kernel_rfl) (by kernel_rfl) (.not _ _ _ _ rfl rfl rfl rfl) rfl rfl (fun _ _ _ h => h) ?_
   refine ga_skip 6 rfl (by kernel_rfl) (by kernel_rfl) (by kernel_rfl) (.not _ _ _ _ rfl rfl rfl rfl) rfl rfl (fun _ _ _ h => h) ?_
   refine ga_skip 8 rfl (by kernel_rfl) (by kernel_rfl) (by kernel_rfl) (.not _ _ _ _ rfl rfl rfl rfl) rfl rfl (fun _ _ _ h => h) ?_
   refine ga_skip 9 rfl (by kernel_rfl) (by kernel_rfl) (by kernel_rfl) (.not _ _ _ _ rfl rfl rfl rfl) rfl rfl (fun _ _ _ h => h) ?_
   refine ga_skip 10 rfl (by kernel_rfl) (by kernel_rfl) (by kernel_rfl) (.not _ _ _ _ rfl rfl rfl rfl) rfl rfl (fun _ _ _ h => h) ?_
   refine ga_skip 11 rfl (by kernel_rfl) (by kernel_rfl) (by kernel_rfl) (.not _ _ _ _ rfl rfl rfl rfl) rfl rfl (fun _ _ _ h => h) ?_
   refine ga_skip 12 rfl (by kernel_rfl) (by kernel_rfl) (by kernel_rfl) (.not _ _ _ _ rfl rfl rfl rfl) rfl rfl (fun _ _ _ h => h) ?_
   refine ga_skip 13 rfl (by kernel_rfl) (by kernel_rfl) (by kernel_rfl) (.not _ _ _ _ rfl rfl rfl rfl) rfl rfl (fun _ _ _ h => h) ?_
   refine ga_skip 14 rfl (by kernel_rfl) (by kernel_rfl) (by kernel_rfl) (.not _ _ _ _ rfl rfl rfl rfl) rfl rfl (fun _ _ _ h => h) ?_
   refine ga_skip 15 rfl (by kernel_rfl) (by kernel_rfl) (by kernel_rfl) (.not _ _ _ _ rfl rfl rfl rfl) rfl rfl (fun _ _ _ h => h) ?_
   refine ga_skip 16 rfl (by kernel_rfl) (by kernel_rfl) (by kernel_rfl) (.not _ _ _ _ rfl rfl rfl rfl) rfl rfl (fun _ _ _ h => h) ?_
   refine ga_skip 17 rfl (by kernel_rfl) (by kernel_rfl) (by kernel_rfl) (.not _ _ _ _ rfl rfl rfl rfl) rfl rfl (fun _ _ _ h => h) ?_
   refine ga_skip 18 rfl (by kernel_rfl) (by kernel_rfl) (by kernel_rfl) (.not _ _ _ _ rfl rfl rfl rfl) rfl rfl (fun _ _ _ h => h) ?_
   refine ga_skip 7 rfl (by kernel_rfl) (by kernel_rfl) (by kernel_rfl) (.not _ _ _ _ rfl rfl rfl rfl) rfl rfl (fun _ _ _ h => h) ?_
   refine ga_skip 19 rfl (by kernel_rfl) (by kernel_rfl) (by kernel_rfl) (.not _ _ _ _ rfl rfl rfl rfl) rfl rfl (fun _ _ _ h => h) ?_
   refine gav 20 rfl (qt_pick_f rfl rfl rfl) ?_
   refine gav 21 rfl (qt_assign rfl rfl) ?_
   refine ga_done (by kernel_rfl) ?_
   refine gk_then (hK8 _ _ ?_)
   refine gc_ret ?_
   refine ret_1 rfl rfl  (fun w M => ?_)
   rw [bP_f fun h : okComp c f g => bP_no' hs4_4 (allP_one.2 (h.1 hc0).1)]; exact ⟨rfl, M.1⟩
set_option maxHeartbeats 1000000 in
set_option maxRecDepth 100000 in
theorem hasComposites_w (w : World) (v : Value) (c : Cat) (h : RdC w v c) (hL : LenP c) (hR : RowsP c) :
  Calls Tryz.prog 173 #[v] w (RetB w (bP (∀ f g : Nat, f < c.s.length → g < c.s.length → okComp c f g))) := by
 have h0 := h
 obtain ⟨va, vb, vc, vd, ve, vf, vg, vh, rfl, h1, h2, h3, h4, _⟩ := h.lists
 have hn40 := hL.n40
 go_enter Tryz.func173, Tryz.ntmps173
 refine gc_enter (N := 22) rfl (look_cons (k := 0) rfl (look_nil _)) ?_
 refine gc_sr fun K1 hK1 => ?_
 refine gop fun K3 hK3 => ?_
 refine go_box rfl rfl rfl rfl rfl ?_
 intro B2
 refine hK3 _ _ ?_
 refine gas ?_
 refine gnt (hK1 _ _ ?_)
 refine gc_seq fun K4 hK4 => ?_
 refine gc_sr fun K5 hK5 => ?_
 refine gv (qts Tryz.underlying29 (n := 0)) ?_
 refine g_q (.free rfl) rfl rfl (qt_call rfl Tryz.func100 rfl (by decide) rfl (fun w M => arrows_any w _ _ (mem_rdC M h0))) ?_
 refine gm ?_
 refine gnt (hK5 _ _ ?_)
 refine gc_block ?_
 try simp only [sL]
 refine gc_loopT ([(0, _), (1, _), (6, _)] : Env) (fun s : Nat => (fun (p : Nat) => (([(7, .int .i64 (p : Int))] : Env), ([] : List (Nat × Itm)), p ≤ c.s.length ∧ ∀ f g : Nat, f < p → g < c.s.length → okComp c f g, c.s.length - p)) s) (0) (by repeat first | exact sub_nil | refine sub_cons rfl ?_) rfl ⟨Nat.zero_le _, fun f g hf => absurd hf (by omega)⟩ ?_
 rintro p hinv KL6 hKL6
 simp only [sU, sL] at hinv hKL6 ⊢
 obtain ⟨hp, hco⟩ := hinv
 refine gc_sr fun K7 hK7 => ?_
 refine gv (qt_lss rfl rfl rfl) ?_
 refine gnt (hK7 _ _ ?_)
 refine gc_seq fun K8 hK8 => ?_
 refine gc_cond rfl (fun hc0 => ?_) (fun hc0 => ?_)
 ·try simp only [sA] at hc0
  refine gc_skip ?_
  refine gk_then (hK8 _ _ ?_)
  refine gc_seq fun K9 hK9 => ?_
  refine gc_block ?_
  refine gc_sr fun K10 hK10 => ?_
  refine gm ?_
  refine gas ?_
  refine gnt (hK10 _ _ ?_)
  refine gc_sr fun K11 hK11 => ?_
  refine gv (qts Tryz.underlying29 (n := 0)) ?_
  refine g_q (.free rfl) rfl rfl (qt_call rfl Tryz.func100 rfl (by decide) rfl (fun w M => arrows_any w _ _ (mem_rdC M h0))) ?_
  refine gm ?_
  refine gnt (hK11 _ _ ?_)
  refine gc_block ?_
  try simp only [sL]
  refine gc_loopT ([(0, _), (1, _), (3, _), (6, _), (7, _), (8, _), (11, _)] : Env) (fun s : Nat => (fun (q : Nat) => (([(12, .int .i64 (q : Int))] : Env), ([] : List (Nat × Itm)), q ≤ c.s.length ∧ ∀ g : Nat, g < q → okComp c p g, c.s.length - q)) s) (0) (by repeat first | exact sub_nil | refine sub_cons rfl ?_) rfl ⟨Nat.zero_le _, fun g hf => absurd hf (by omega)⟩ ?_
  rintro q hinv KL12 hKL12
  simp only [sU, sL] at hinv hKL12 ⊢
  obtain ⟨hq, hcp⟩ := hinv
  refine gc_sr fun K13 hK13 => ?_
  refine gv (qt_lss rfl rfl rfl) ?_
  refine gnt (hK13 _ _ ?_)
  refine gc_seq fun K14 hK14 => ?_
  refine gc_cond rfl (fun hc1 => ?_) (fun hc1 => ?_)
  ·try simp only [sA] at hc1
   refine gc_skip ?_
   refine gk_then (hK14 _ _ ?_)
   refine gc_seq fun K15 hK15 => ?_
   refine gc_block ?_
   refine gc_sr fun K16 hK16 => ?_
   refine gm ?_
   refine gas ?_
   refine gnt (hK16 _ _ ?_)
   refine gc_sr fun K17 hK17 => ?_
   refine gv (qts Tryz.underlying29 (n := 0)) ?_
   refine gm ?_
   refine gm ?_
   refine g_q (.free rfl) rfl rfl (qt_call rfl Tryz.func182 rfl (by decide) rfl (fun w M => fits_w w _ _ _ _ (mem_rdC M h0) (by first | assumption | omega) (by first | assumption | omega) (by first | assumption | omega) (by first | assumption | omega) (by first | assumption | omega) (by first | assumption | omega))) ?_
   refine gv (qt_not rfl rfl) ?_
   refine gnt (hK17 _ _ ?_)
   refine gc_cond rfl (fun hc2 => ?_) (fun hc2 => ?_)
   ·try simp only [sA] at hc2
    refine gc_sr fun K18 hK18 => ?_
    refine gas ?_
    refine gnt (hK18 _ _ ?_)
    refine gc_ret ?_
    refine gk_block_ret ?_
    refine gk_then_ret ?_
    refine gk_then_ret ?_
    refine gk_block_ret ?_
    refine gk_block_ret ?_
    refine gk_then_ret ?_
    refine gk_then_ret ?_
    refine gk_block_ret ?_
    refine gk_then_ret ?_
    refine ret_1 rfl rfl  (fun w M => ?_)
    rw [bP_f fun h => bP_no' hc2 (h p q (by omega) (by omega))]; exact ⟨rfl, M.1⟩
   ·try simp only [sA] at hc2
    refine gc_skip ?_
    refine gk_block ?_
    refine gk_then (hK15 _ _ ?_)
    refine gc_region ?_
    refine gv (qt_add rfl rfl rfl (by omega)) ?_
    refine gm ?_
    refine g_nil ?_
    refine gk_then (gk_take 1 ?_)
    refine gk_sub ?hs_19 (hKL12 (q + 1) ?hi_19 ?hm_19)
    case hs_19 => repeat first | exact sub_nil | refine sub_cons rfl ?_
    case hi_19 => exact ⟨by omega, all_next0 hcp (bP_yes' hc2)⟩
    case hm_19 => omega
  ·try simp only [sA] at hc1
   refine gc_exit ?_
   refine gk_then_exit ?_
   refine gk_then_exit ?_
   refine gk_block_hit ?_
   refine gk_block ?_
   refine gk_then (hK9 _ _ ?_)
   refine gc_region ?_
   refine gv (qt_add rfl rfl rfl (by omega)) ?_
   refine gm ?_
   refine g_nil ?_
   refine gk_then (gk_take 1 ?_)
   refine gk_sub ?hs_20 (hKL6 (p + 1) ?hi_20 ?hm_20)
   case hs_20 => repeat first | exact sub_nil | refine sub_cons rfl ?_
   case hi_20 => exact ⟨by omega, fun f g hf hg => by
   rcases Nat.lt_or_ge f p with h1 | h1
   ·exact hco f g h1 hg
   ·obtain rfl : f = p := by omega
    exact hcp g (by omega)⟩
   case hm_20 => omega
 ·try simp only [sA] at hc0
  refine gc_exit ?_
  refine gk_then_exit ?_
  refine gk_then_exit ?_
  refine gk_block_hit ?_
  refine gk_then (hK4 _ _ ?_)
  refine gc_sr fun K21 hK21 => ?_
  refine gas ?_
  refine gnt (hK21 _ _ ?_)
  refine gc_ret ?_
  refine ret_1 rfl rfl  (fun w M => ?_)
  rw [bP_t fun f g hf hg => hco f g (by omega) hg]; exact ⟨rfl, M.1⟩
theorem shapeP_mk {c : Cat} (h1 : LenP c ∧ RowsP c) (h2 : AllP c.ob c.s) (h3 : AllP c.ob c.t) (h4 : ∀ x : Nat, x < c.e.length → okIdent c x) : bP (∀ f g : Nat, f < c.s.length → g < c.s.length → okComp c f g) = fIsShape c :=
 bP_congr ⟨fun h => ⟨h1.1, h1.2, h2, h3, h4, h⟩, fun h => h.co⟩
def FrameP (c : Cat) : Prop := (LenP c ∧ RowsP c) ∧ AllP c.ob c.s ∧ AllP c.ob c.t ∧ ∀ x : Nat, x < c.e.length → okIdent c x
theorem frame_shape {c : Cat} (h : FrameP c) : bP (∀ f g : Nat, f < c.s.length → g < c.s.length → okComp c f g) = fIsShape c := shapeP_mk h.1 h.2.1 h.2.2.1 h.2.2.2
theorem shape_frame {c : Cat} (h : ShapeP c) : FrameP c := ⟨⟨h.toLenP, h.rl⟩, h.sa, h.ta, h.id⟩
set_option maxHeartbeats 1000000 in
set_option maxRecDepth 100000 in
theorem hasFrame_w (w : World) (v : Value) (c : Cat) (h : RdC w v c) :
  Calls Tryz.prog 172 #[v] w (RetB w (bP (FrameP c))) := by
 have h0 := h
 obtain ⟨va, vb, vc, vd, ve, vf, vg, vh, rfl, h1, h2, h3, h4, _⟩ := h.lists
 go_enter Tryz.func172, Tryz.ntmps172
 refine gc_enter (N := 21) rfl (look_cons (k := 0) rfl (look_nil _)) ?_
 refine gc_sr fun K1 hK1 => ?_
 refine gop fun K3 hK3 => ?_
 refine go_box rfl rfl rfl rfl rfl ?_
 intro B2
 refine hK3 _ _ ?_
 refine gas ?_
 refine gnt (hK1 _ _ ?_)
 refine gc_sr fun K4 hK4 => ?_
 refine gv (qts Tryz.underlying29 (n := 0)) ?_
 refine g_q (.free rfl) rfl rfl (qt_call rfl Tryz.func180 rfl (by decide) rfl (fun w M => hasLengths_any w _ _ _ (mem_rdC M h0) rfl)) ?_
 refine g_splitv (.free rfl) rfl rfl (qt_move rfl rfl) (fun hs1_2 => ?_) (fun hs1_2 => ?_)
 ·try simp only [sA] at hs1_2
  refine gvh (qts Tryz.underlying29 (n := 0)) ?_
  refine gvh (qtf Tryz.underlying29 (z := 0) (off := 1)) ?_
  refine gvh (qtl Tryz.underlying22 (n := 0)) ?_
  refine g_q (.held _ _ _ rfl rfl rfl) rfl rfl (qt_call rfl Tryz.func124 rfl (by decide) rfl (fun w M => hasObjects_any w _ _ _ _ _ (mem_rdC M h0) (mem_rd M h1) rfl)) ?_
  refine gv (qt_pick_t rfl rfl rfl) ?_
  refine g_splitv (.free rfl) rfl rfl (qt_move rfl rfl) (fun hs1_8 => ?_) (fun hs1_8 => ?_)
  ·try simp only [sA] at hs1_8
   refine gvh (qts Tryz.underlying29 (n := 0)) ?_
   refine gvh (qtf Tryz.underlying29 (z := 0) (off := 2)) ?_
   refine gvh (qtl Tryz.underlying22 (n := 0)) ?_
   refine g_q (.held _ _ _ rfl rfl rfl) rfl rfl (qt_call rfl Tryz.func124 rfl (by decide) rfl (fun w M => hasObjects_any w _ _ _ _ _ (mem_rdC M h0) (mem_rd M h2) rfl)) ?_
   refine gv (qt_pick_t rfl rfl rfl) ?_
   refine g_splitv (.free rfl) rfl rfl (qt_move rfl rfl) (fun hs1_14 => ?_) (fun hs1_14 => ?_)
   ·try simp only [sA] at hs1_14
    refine gvh (qts Tryz.underlying29 (n := 0)) ?_
    refine g_q (.held _ _ _ rfl rfl rfl) rfl rfl (qt_call rfl Tryz.func181 rfl (by decide) rfl (fun w M => hasIdentities_any w _ _ _ (mem_rdC M h0) (bP_yes' hs1_2).1 rfl)) ?_
    refine gv (qt_pick_t rfl rfl rfl) ?_
    refine gas ?_
    refine gnt (hK4 _ _ ?_)
    refine gc_ret ?_
    refine ret_1 rfl rfl  (fun w M => ?_)
    rw [show bP (FrameP c) = bP (∀ x : Nat, x < c.e.length → okIdent c x) from bP_congr ⟨fun h => h.2.2.2, fun h4 => ⟨bP_yes' hs1_2, bP_yes' hs1_8, bP_yes' hs1_14, h4⟩⟩]; exact ⟨rfl, M.1⟩
   ·try simp only [sA] at hs1_14
    refine gsk ?_
    refine gsk ?_
    refine gv (qt_pick_f rfl rfl rfl) ?_
    refine gas ?_
    refine gnt (hK4 _ _ ?_)
    refine gc_ret ?_
    refine ret_1 rfl rfl  (fun w M => ?_)
    rw [bP_f fun h : FrameP c => bP_no' hs1_14 h.2.2.1]; exact ⟨rfl, M.1⟩
  ·try simp only [sA] at hs1_8
   refine gsk ?_
   refine gsk ?_
   refine gsk ?_
   refine gsk ?_
   refine gv (qt_pick_f rfl rfl rfl) ?_
   refine gm ?_
   refine gsk ?_
   refine gsk ?_
   refine gv (qt_pick_f rfl rfl rfl) ?_
   refine gas ?_
   refine gnt (hK4 _ _ ?_)
   refine gc_ret ?_
   refine ret_1 rfl rfl  (fun w M => ?_)
   rw [bP_f fun h : FrameP c => bP_no' hs1_8 h.2.1]; exact ⟨rfl, M.1⟩
 ·try simp only [sA] at hs1_2
  refine gsk ?_
  refine gsk ?_
  refine gsk ?_
  refine gsk ?_
  refine gv (qt_pick_f rfl rfl rfl) ?_
  refine gm ?_
  refine gsk ?_
  refine gsk ?_
  refine gsk ?_
  refine gsk ?_
  refine gv (qt_pick_f rfl rfl rfl) ?_
  refine gm ?_
  refine gsk ?_
  refine gsk ?_
  refine gv (qt_pick_f rfl rfl rfl) ?_
  refine gas ?_
  refine gnt (hK4 _ _ ?_)
  refine gc_ret ?_
  refine ret_1 rfl rfl  (fun w M => ?_)
  rw [bP_f fun h : FrameP c => bP_no' hs1_2 h.1]; exact ⟨rfl, M.1⟩
set_option maxHeartbeats 1000000 in
set_option maxRecDepth 100000 in
theorem impl_IsShape (w : World) (v : Value) (c : Cat) (h : RdC w v c) :
  Calls Tryz.prog 164 #[v] w (RetB w (fIsShape c)) := by
 have h0 := h
 obtain ⟨va, vb, vc, vd, ve, vf, vg, vh, rfl, h1, h2, h3, h4, _⟩ := h.lists
 go_enter Tryz.func164, Tryz.ntmps164
 refine gc_enter (N := 9) rfl (look_cons (k := 0) rfl (look_nil _)) ?_
 refine gc_sr fun K1 hK1 => ?_
 refine gop fun K3 hK3 => ?_
 refine go_box rfl rfl rfl rfl rfl ?_
 intro B2
 refine hK3 _ _ ?_
 refine gas ?_
 refine gnt (hK1 _ _ ?_)
 refine gc_sr fun K4 hK4 => ?_
 refine gv (qts Tryz.underlying29 (n := 0)) ?_
 refine g_q (.free rfl) rfl rfl (qt_call rfl Tryz.func172 rfl (by decide) rfl (fun w M => hasFrame_w w _ _ (mem_rdC M h0))) ?_
 refine g_splitv (.free rfl) rfl rfl (qt_move rfl rfl) (fun hs1_2 => ?_) (fun hs1_2 => ?_)
 ·try simp only [sA] at hs1_2
  refine gvh (qts Tryz.underlying29 (n := 0)) ?_
  refine g_q (.held _ _ _ rfl rfl rfl) rfl rfl (qt_call rfl Tryz.func173 rfl (by decide) rfl (fun w M => hasComposites_w w _ _ (mem_rdC M h0) (bP_yes' hs1_2).1.1 (bP_yes' hs1_2).1.2)) ?_
  refine gv (qt_pick_t rfl rfl rfl) ?_
  refine gas ?_
  refine gnt (hK4 _ _ ?_)
  refine gc_ret ?_
  refine ret_1 rfl rfl  (fun w M => ?_)
  rw [← frame_shape (bP_yes' hs1_2)]; exact ⟨rfl, M.1⟩
 ·try simp only [sA] at hs1_2
  refine gsk ?_
  refine gsk ?_
  refine gv (qt_pick_f rfl rfl rfl) ?_
  refine gas ?_
  refine gnt (hK4 _ _ ?_)
  refine gc_ret ?_
  refine ret_1 rfl rfl  (fun w M => ?_)
  rw [show fIsShape c = false from bP_f fun h => bP_no' hs1_2 (shape_frame h)]; exact ⟨rfl, M.1⟩
end Go.Proofs.YtpcabkdkdnchaaaGreat
set_option linter.unusedSimpArgs false
set_option linter.unusedVariables false
set_option linter.unusedSectionVars false
namespace Go.Proofs.YtpcabkdkdnchaaaGreat
open Go.RowKit
set_option maxHeartbeats 1000000 in
set_option maxRecDepth 100000 in
theorem specEnds_any (w : World) (v : Value) (xs : List Int) (L : Nat) (n : Int) (b : Bool) (h : Rd w v xs) (hb : bP (xs.length = L ∧ AllP n xs) = b) :
  Calls Tryz.prog 127 #[v, .int .i64 ((L : Int)), .int .i64 n] w (RetB w b) := by
 obtain ⟨va, vc, rfl⟩ := rd_form h
 go_enter Tryz.func127, Tryz.ntmps127
 refine gc_enter (N := 16) rfl (look_cons (k := 0) rfl (look_cons (k := 1) rfl (look_cons (k := 2) rfl (look_nil _)))) ?_
 refine gc_sr fun K1 hK1 => ?_
 refine gas ?_
 refine gnt (hK1 _ _ ?_)
 refine gc_sr fun K2 hK2 => ?_
 refine gm ?_
 refine gv (qln (fun w M => lenV_rd h)) ?_
 refine gm ?_
 refine gv (qt_eql rfl rfl rfl) ?_
 refine g_splitv (.free rfl) rfl rfl (qt_move rfl rfl) (fun hs1_4 => ?_) (fun hs1_4 => ?_)
 ·try simp only [sA] at hs1_4
  refine gvh (qt_move rfl rfl) ?_
  refine gvh (qt_move rfl rfl) ?_
  refine g_q (.held _ _ _ rfl rfl rfl) rfl rfl (qt_call rfl Tryz.func101 rfl (by decide) rfl (fun w M => specMap_any w _ _ _ _ (mem_rd M h) rfl)) ?_
  refine gv (qt_pick_t rfl rfl rfl) ?_
  refine gas ?_
  refine gnt (hK2 _ _ ?_)
  refine gc_ret ?_
  refine ret_1 rfl rfl  (fun w M => ?_)
  rw [← hb]; refine ⟨?_, M.1⟩; congr 2; by_cases hp : AllP n xs
  ·rw [decide_eq_true hp, bP_t ⟨by omega, hp⟩]
  ·rw [decide_eq_false hp, bP_f fun h => hp h.2]
 ·try simp only [sA] at hs1_4
  refine gsk ?_
  refine gsk ?_
  refine gsk ?_
  refine gv (qt_pick_f rfl rfl rfl) ?_
  refine gas ?_
  refine gnt (hK2 _ _ ?_)
  refine gc_ret ?_
  refine ret_1 rfl rfl  (fun w M => ?_)
  rw [← hb, bP_f fun h => by have := h.1; omega]; exact ⟨rfl, M.1⟩
theorem shape_false {c : Cat} (h : ¬ ShapeP c) : fIsShape c = false := bP_f h
theorem shape_true {c : Cat} (h : ShapeP c) : fIsShape c = true := bP_t h
theorem bP_no {p : Prop} (h : bP p = false) : ¬ p := fun hp => by rw [bP_t hp] at h; cases h
theorem bP_yes {p : Prop} (h : bP p = true) : p := bP_iff.1 h
structure Pre (c : Cat) : Prop where
 ob0 : 0 ≤ c.ob
 ob8 : c.ob ≤ 8
 n40 : c.s.length ≤ 40
 el : (c.e.length : Int) = c.ob
 tl : c.t.length = c.s.length
 ml : c.m.length = c.s.length
 sa : AllP c.ob c.s
 ta : AllP c.ob c.t
 ea : AllP c.s.length c.e
theorem pre_shape {c : Cat} (P : Pre c) (hi : ∀ x : Nat, (x : Int) < c.ob → okIdent c x) (hr : ∀ j, j < c.s.length → (row2 c.m (j : Int)).length = c.s.length) (hc : ∀ f g : Nat, f < c.s.length → g < c.s.length → okComp c f g) : ShapeP c :=
 ⟨⟨P.ob0, P.ob8, P.n40, P.el, P.tl, P.ml⟩, fun j hj => by have := hr j (by have := P.ml; omega); simpa [row2] using this, P.sa, P.ta, fun x hx => hi x (by have := P.el; omega), hc⟩
theorem rl_row {c : Cat} (h : ShapeP c) {p : Nat} (hp : p < c.m.length) : ((row2 c.m (p : Int)).length : Int) = c.s.length := by
 have := h.rl p hp
 have e : row2 c.m (p : Int) = c.m.getD p [] := by simp [row2]
 rw [e]; omega
theorem okI {c : Cat} {k : Nat} (h : 0 ≤ at0 c.e k ∧ at0 c.e k < c.s.length) (h1 : at0 c.s (at0 c.e k) = k) (h2 : at0 c.t (at0 c.e k) = k) : okIdent c k := ⟨h, h1, h2⟩
set_option maxHeartbeats 4000000 in
set_option maxRecDepth 100000 in
theorem spec_IsShape (w : World) (v : Value) (c : Cat) (h : RdC w v c) :
  Calls Tryz.prog 96 #[v] w (RetB w (fIsShape c)) := by
 have h0 := h
 obtain ⟨va, vb, vc, vd, ve, vf, vg, vh, rfl, h1, h2, h3, h4, _⟩ := h.lists
 go_enter Tryz.func96, Tryz.ntmps96
 refine gc_enter (N := 159) rfl (look_cons (k := 0) rfl (look_nil _)) ?_
 refine gc_sr fun K1 hK1 => ?_
 refine gop fun K3 hK3 => ?_
 refine go_box rfl rfl rfl rfl rfl ?_
 intro B2
 refine hK3 _ _ ?_
 refine gas ?_
 refine gnt (hK1 _ _ ?_)
 refine gc_sr fun K4 hK4 => ?_
 refine gv (qtf Tryz.underlying29 (z := 0) (off := 1)) ?_
 refine gv (qtl Tryz.underlying22 (n := 0)) ?_
 refine gv (qln (fun w M => lenV_rd h1)) ?_
 refine gas ?_
 refine gnt (hK4 _ _ ?_)
 refine gc_seq fun K5 hK5 => ?_
 refine gc_sr fun K6 hK6 => ?_
 refine gv (qtf Tryz.underlying29 (z := 0) (off := 0)) ?_
 refine gv (qtl Tryz.underlying2 (n := 0)) ?_
 refine g_q (.free rfl) rfl rfl (qt_call rfl Tryz.func126 rfl (by decide) rfl (fun w M => same_q (specIn_any w _ _ _ _ rfl))) ?_
 refine gv (qt_not rfl rfl) ?_
 refine g_splitv (.free rfl) rfl rfl (qt_move rfl rfl) (fun hs2_4 => ?_) (fun hs2_4 => ?_)
 ·try simp only [sA] at hs2_4
  refine gsk ?_
  refine gsk ?_
  refine gv (qt_pick_t rfl rfl rfl) ?_
  refine gm ?_
  refine gsk ?_
  refine gsk ?_
  refine gsk ?_
  refine gsk ?_
  refine gsk ?_
  refine gsk ?_
  refine gsk ?_
  refine gv (qt_pick_t rfl rfl rfl) ?_
  refine gm ?_
  refine gsk ?_
  refine gsk ?_
  refine gsk ?_
  refine gsk ?_
  refine gsk ?_
  refine gsk ?_
  refine gsk ?_
  refine gv (qt_pick_t rfl rfl rfl) ?_
  refine gm ?_
  refine gsk ?_
  refine gsk ?_
  refine gsk ?_
  refine gsk ?_
  refine gsk ?_
  refine gv (qt_pick_t rfl rfl rfl) ?_
  refine gnt (hK6 _ _ ?_)
  refine gc_cond_t rfl ?_
  refine gc_sr fun K7 hK7 => ?_
  refine gas ?_
  refine gnt (hK7 _ _ ?_)
  refine gc_ret ?_
  refine gk_then_ret ?_
  refine ret_1 rfl rfl  (fun w M => ?_)
  rw [shape_false fun h => hs2_4 ⟨h.ob0, h.ob8⟩]; exact ⟨rfl, M.1⟩
 ·try simp only [sA] at hs2_4
  refine gvh (qt_move rfl rfl) ?_
  refine gvh (qt_gtr rfl rfl rfl) ?_
  refine gv (qt_pick_f rfl rfl rfl) ?_
  refine g_splitv (.free rfl) rfl rfl (qt_move rfl rfl) (fun hs2_8 => ?_) (fun hs2_8 => ?_)
  ·try simp only [sA] at hs2_8
   refine gsk ?_
   refine gsk ?_
   refine gsk ?_
   refine gsk ?_
   refine gsk ?_
   refine gsk ?_
   refine gsk ?_
   refine gv (qt_pick_t rfl rfl rfl) ?_
   refine gm ?_
   refine gsk ?_
   refine gsk ?_
   refine gsk ?_
   refine gsk ?_
   refine gsk ?_
   refine gsk ?_
   refine gsk ?_
   refine gv (qt_pick_t rfl rfl rfl) ?_
   refine gm ?_
   refine gsk ?_
   refine gsk ?_
   refine gsk ?_
   refine gsk ?_
   refine gsk ?_
   refine gv (qt_pick_t rfl rfl rfl) ?_
   refine gnt (hK6 _ _ ?_)
   refine gc_cond_t rfl ?_
   refine gc_sr fun K8 hK8 => ?_
   refine gas ?_
   refine gnt (hK8 _ _ ?_)
   refine gc_ret ?_
   refine gk_then_ret ?_
   refine ret_1 rfl rfl  (fun w M => ?_)
   rw [shape_false fun h => by have := h.n40; omega]; exact ⟨rfl, M.1⟩
  ·try simp only [sA] at hs2_8
   refine gvh (qtf Tryz.underlying29 (z := 0) (off := 1)) ?_
   refine gvh (qtl Tryz.underlying22 (n := 0)) ?_
   refine gvh (qt_move rfl rfl) ?_
   refine gvh (qtf Tryz.underlying29 (z := 0) (off := 0)) ?_
   refine gvh (qtl Tryz.underlying2 (n := 0)) ?_
   refine g_q (.held _ _ _ rfl rfl rfl) rfl rfl (qt_call rfl Tryz.func127 rfl (by decide) rfl (fun w M => specEnds_any w _ _ _ _ _ (mem_rd M h1) rfl)) ?_
   refine gvh (qt_not rfl rfl) ?_
   refine gv (qt_pick_f rfl rfl rfl) ?_
   refine g_splitv (.free rfl) rfl rfl (qt_move rfl rfl) (fun hs2_17 => ?_) (fun hs2_17 => ?_)
   ·try simp only [sA] at hs2_17
    refine gsk ?_
    refine gsk ?_
    refine gsk ?_
    refine gsk ?_
    refine gsk ?_
    refine gsk ?_
    refine gsk ?_
    refine gv (qt_pick_t rfl rfl rfl) ?_
    refine gm ?_
    refine gsk ?_
    refine gsk ?_
    refine gsk ?_
    refine gsk ?_
    refine gsk ?_
    refine gv (qt_pick_t rfl rfl rfl) ?_
    refine gnt (hK6 _ _ ?_)
    refine gc_cond_t rfl ?_
    refine gc_sr fun K9 hK9 => ?_
    refine gas ?_
    refine gnt (hK9 _ _ ?_)
    refine gc_ret ?_
    refine gk_then_ret ?_
    refine ret_1 rfl rfl  (fun w M => ?_)
    rw [shape_false fun h => bP_no hs2_17 (by simpa using h.sa)]; exact ⟨rfl, M.1⟩
   ·try simp only [sA] at hs2_17
    refine gvh (qtf Tryz.underlying29 (z := 0) (off := 2)) ?_
    refine gvh (qtl Tryz.underlying22 (n := 0)) ?_
    refine gvh (qt_move rfl rfl) ?_
    refine gvh (qtf Tryz.underlying29 (z := 0) (off := 0)) ?_
    refine gvh (qtl Tryz.underlying2 (n := 0)) ?_
    refine g_q (.held _ _ _ rfl rfl rfl) rfl rfl (qt_call rfl Tryz.func127 rfl (by decide) rfl (fun w M => specEnds_any w _ _ _ _ _ (mem_rd M h2) rfl)) ?_
    refine gvh (qt_not rfl rfl) ?_
    refine gv (qt_pick_f rfl rfl rfl) ?_
    refine g_splitv (.free rfl) rfl rfl (qt_move rfl rfl) (fun hs2_26 => ?_) (fun hs2_26 => ?_)
    ·try simp only [sA] at hs2_26
     refine gsk ?_
     refine gsk ?_
     refine gsk ?_
     refine gsk ?_
     refine gsk ?_
     refine gv (qt_pick_t rfl rfl rfl) ?_
     refine gnt (hK6 _ _ ?_)
     refine gc_cond_t rfl ?_
     refine gc_sr fun K10 hK10 => ?_
     refine gas ?_
     refine gnt (hK10 _ _ ?_)
     refine gc_ret ?_
     refine gk_then_ret ?_
     refine ret_1 rfl rfl  (fun w M => ?_)
     rw [shape_false fun h => bP_no hs2_26 ⟨h.tl, h.ta⟩]; exact ⟨rfl, M.1⟩
    ·try simp only [sA] at hs2_26
     refine gvh (qtf Tryz.underlying29 (z := 0) (off := 4)) ?_
     refine gvh (qtl Tryz.underlying23 (n := 0)) ?_
     refine gvh (qt_len rfl rfl ulE2 (fun w M => lenV_rd2 h4)) ?_
     refine gvh (qt_move rfl rfl) ?_
     refine gvh (qt_neq rfl rfl rfl) ?_
     refine gv (qt_pick_f rfl rfl rfl) ?_
     refine gnt (hK6 _ _ ?_)
     refine gc_cond rfl (fun hc0 => ?_) (fun hc0 => ?_)
     ·try simp only [sA] at hc0
      refine gc_sr fun K11 hK11 => ?_
      refine gas ?_
      refine gnt (hK11 _ _ ?_)
      refine gc_ret ?_
      refine gk_then_ret ?_
      refine ret_1 rfl rfl  (fun w M => ?_)
      rw [shape_false fun h => by have := h.ml; omega]; exact ⟨rfl, M.1⟩
     ·try simp only [sA] at hc0
      refine gc_skip ?_
      refine gk_then (hK5 _ _ ?_)
      refine gc_seq fun K12 hK12 => ?_
      refine gc_sr fun K13 hK13 => ?_
      refine gv (qtf Tryz.underlying29 (z := 0) (off := 3)) ?_
      refine gv (qtl Tryz.underlying22 (n := 0)) ?_
      refine gv (qln (fun w M => lenV_rd h3)) ?_
      refine gv (qtf Tryz.underlying29 (z := 0) (off := 0)) ?_
      refine gv (qtl Tryz.underlying2 (n := 0)) ?_
      refine gv (qt_neq rfl rfl rfl) ?_
      refine g_splitv (.free rfl) rfl rfl (qt_move rfl rfl) (fun hs4_6 => ?_) (fun hs4_6 => ?_)
      ·try simp only [sA] at hs4_6
       refine gsk ?_
       refine gsk ?_
       refine gsk ?_
       refine gsk ?_
       refine gsk ?_
       refine gv (qt_pick_t rfl rfl rfl) ?_
       refine gnt (hK13 _ _ ?_)
       refine gc_cond_t rfl ?_
       refine gc_sr fun K14 hK14 => ?_
       refine gas ?_
       refine gnt (hK14 _ _ ?_)
       refine gc_ret ?_
       refine gk_then_ret ?_
       refine ret_1 rfl rfl  (fun w M => ?_)
       rw [shape_false fun h => hs4_6 h.el]; exact ⟨rfl, M.1⟩
      ·try simp only [sA] at hs4_6
       refine gvh (qt_move rfl rfl) ?_
       refine gvh (qtf Tryz.underlying29 (z := 0) (off := 3)) ?_
       refine gvh (qtl Tryz.underlying22 (n := 0)) ?_
       refine g_q (.held _ _ _ rfl rfl rfl) rfl rfl (qt_call rfl Tryz.func101 rfl (by decide) rfl (fun w M => specMap_any w _ _ _ _ (mem_rd M h3) rfl)) ?_
       refine gvh (qt_not rfl rfl) ?_
       refine gv (qt_pick_f rfl rfl rfl) ?_
       refine gnt (hK13 _ _ ?_)
       refine gc_cond rfl (fun hc1 => ?_) (fun hc1 => ?_)
       ·try simp only [sA] at hc1
        refine gc_sr fun K15 hK15 => ?_
        refine gas ?_
        refine gnt (hK15 _ _ ?_)
        refine gc_ret ?_
        refine gk_then_ret ?_
        refine ret_1 rfl rfl  (fun w M => ?_)
        rw [shape_false fun h => hc1 fun y hy => by
  obtain ⟨j, hj, rfl⟩ := List.getElem_of_mem hy
  have := h.id j hj
  simp only [okIdent, Cat.arr, at0_nat, List.getD_eq_getElem?_getD, List.getElem?_eq_getElem hj, Option.getD_some] at this
  exact this.1]; exact ⟨rfl, M.1⟩
       ·try simp only [sA] at hc1
        refine gc_skip ?_
        refine gk_then (hK12 _ _ ?_)
        refine gc_seq fun K16 hK16 => ?_
        refine gc_seq fun K17 hK17 => ?_
        have P : Pre c := ⟨hs2_4.1, hs2_4.2, by omega, hs4_6, (bP_yes hs2_26).1, by omega, (bP_yes hs2_17).2, (bP_yes hs2_26).2, hc1⟩
        have q1 := P.ob0; have q2 := P.ob8; have q3 := P.n40; have q4 := P.el; have q5 := P.tl; have q6 := P.ml
        refine gc_region ?_
        refine gas ?_
        refine gnt (hK17 _ _ ?_)
        refine gc_block ?_
        try simp only [sL]
        refine gc_loopT ([(0, _), (1, _), (3, _), (43, _), (56, _)] : Env) (fun s : Nat => (fun (k : Nat) => (([(4, .int .i64 (k : Int))] : Env), ([] : List (Nat × Itm)), (k : Int) ≤ c.ob ∧ ∀ x : Nat, x < k → okIdent c x, (c.ob - (k : Int)).toNat)) s) (0) (by repeat first | exact sub_nil | refine sub_cons rfl ?_) rfl ⟨by omega, fun x hx => absurd hx (by omega)⟩ ?_
        rintro k hinv KL18 hKL18
        simp only [sU, sL] at hinv hKL18 ⊢
        obtain ⟨hk, hid⟩ := hinv
        refine gc_seq fun K19 hK19 => ?_
        refine gc_sr fun K20 hK20 => ?_
        refine gm ?_
        refine gv (qtf Tryz.underlying29 (z := 0) (off := 0)) ?_
        refine gv (qtl Tryz.underlying2 (n := 0)) ?_
        refine gv (qt_lss rfl rfl rfl) ?_
        refine gnt (hK20 _ _ ?_)
        refine gc_cond rfl (fun hc2 => ?_) (fun hc2 => ?_)
        ·try simp only [sA] at hc2
         refine gc_skip ?_
         refine gk_then (hK19 _ _ ?_)
         refine gc_seq fun K21 hK21 => ?_
         refine gc_block ?_
         refine gc_seq fun K22 hK22 => ?_
         have e0 := allP_at P.ea (k := k) (by omega)
         have e1 := e0.1; have e2 := e0.2
         refine gc_draw (by kernel_rfl) ?_
         refine gdv (qtf Tryz.underlying29 (z := 0) (off := 1)) ?_
         refine gdv (qtl Tryz.underlying22 (n := 0)) ?_
         refine gdv (qtf Tryz.underlying29 (z := 0) (off := 3)) ?_
         refine gdv (qtl Tryz.underlying22 (n := 0)) ?_
         refine gdv (qt_move rfl rfl) ?_
         refine gdv (qti (fun w M => lenA_rd h3)) ?_
         refine gdv (qtd (fun w M => mem_rd M h3)) ?_
         refine gdv (qti (fun w M => lenA_rd h1)) ?_
         refine gdv (qtd (fun w M => mem_rd M h1)) ?_
         refine gdv (qt_move rfl rfl) ?_
         refine gdv (qt_neq rfl rfl rfl) ?_
         refine gd_splitv (.free rfl) rfl rfl (qt_move rfl rfl) (fun hs9_11 => ?_) (fun hs9_11 => ?_)
         ·try simp only [sA] at hs9_11
          refine gdsk ?_
          refine gdsk ?_
          refine gdsk ?_
          refine gdsk ?_
          refine gdsk ?_
          refine gdsk ?_
          refine gdsk ?_
          refine gdsk ?_
          refine gdsk ?_
          refine gdsk ?_
          refine gdsk ?_
          refine gdv (qt_pick_t rfl rfl rfl) ?_
          refine gd_nil ?_
          refine gk_then (hK22 _ _ ?_)
          refine gc_cond_t rfl ?_
          refine gc_sr fun K23 hK23 => ?_
          refine gas ?_
          refine gnt (hK23 _ _ ?_)
          refine gc_ret ?_
          refine gk_block_ret ?_
          refine gk_then_ret ?_
          refine gk_then_ret ?_
          refine gk_block_ret ?_
          refine gk_then_ret ?_
          refine ret_1 rfl rfl  (fun w M => ?_)
          rw [shape_false fun h => hs9_11 (h.id k (by omega)).2.1]; exact ⟨rfl, M.1⟩
         ·try simp only [sA] at hs9_11
          refine gdvh (qtf Tryz.underlying29 (z := 0) (off := 2)) ?_
          refine gdvh (qtl Tryz.underlying22 (n := 0)) ?_
          refine gdvh (qtf Tryz.underlying29 (z := 0) (off := 3)) ?_
          refine gdvh (qtl Tryz.underlying22 (n := 0)) ?_
          refine gdvh (qt_move rfl rfl) ?_
          refine gdvh (qti (fun w M => lenA_rd h3)) ?_
          refine gdvh (qtd (fun w M => mem_rd M h3)) ?_
          refine gdvh (qti (fun w M => lenA_rd h2)) ?_
          refine gdvh (qtd (fun w M => mem_rd M h2)) ?_
          refine gdvh (qt_move rfl rfl) ?_
          refine gdvh (qt_neq rfl rfl rfl) ?_
          refine gdv (qt_pick_f rfl rfl rfl) ?_
          refine gd_nil ?_
          refine gk_then (hK22 _ _ ?_)
          refine gc_cond rfl (fun hc3 => ?_) (fun hc3 => ?_)
          ·try simp only [sA] at hc3
           refine gc_sr fun K24 hK24 => ?_
           refine gas ?_
           refine gnt (hK24 _ _ ?_)
           refine gc_ret ?_
           refine gk_block_ret ?_
           refine gk_then_ret ?_
           refine gk_then_ret ?_
           refine gk_block_ret ?_
           refine gk_then_ret ?_
           refine ret_1 rfl rfl  (fun w M => ?_)
           rw [shape_false fun h => hc3 (h.id k (by omega)).2.2]; exact ⟨rfl, M.1⟩
          ·try simp only [sA] at hc3
           refine gc_skip ?_
           refine gk_block ?_
           refine gk_then (hK21 _ _ ?_)
           refine gc_region ?_
           refine gm ?_
           refine gv (qt_add rfl rfl rfl (by omega)) ?_
           refine gas ?_
           refine g_nil ?_
           refine gk_then (gk_take 1 ?_)
           refine gk_sub ?hs_25 (hKL18 (k + 1) ?hi_25 ?hm_25)
           case hs_25 => repeat first | exact sub_nil | refine sub_cons rfl ?_
           case hi_25 => exact ⟨by omega, all_next0 hid (okI e0 hs9_11 hc3)⟩
           case hm_25 => omega
        ·try simp only [sA] at hc2
         refine gc_exit ?_
         refine gk_then_exit ?_
         refine gk_then_exit ?_
         refine gk_block_hit ?_
         refine gk_then (hK16 _ _ ?_)
         refine gc_seq fun K26 hK26 => ?_
         refine gc_sr fun K27 hK27 => ?_
         refine gas ?_
         refine gnt (hK27 _ _ ?_)
         refine gc_block ?_
         have hid2 : ∀ x : Nat, (x : Int) < c.ob → okIdent c x := fun x hx => hid x (by omega)
         try simp only [sL]
         refine gc_loopT ([(0, _), (1, _), (3, _), (4, _), (43, _), (56, _), (60, _)] : Env) (fun s : Nat => (fun (p : Nat) => (([(5, .int .i64 (p : Int))] : Env), ([] : List (Nat × Itm)), p ≤ c.s.length ∧ (∀ j : Nat, j < p → (row2 c.m (j : Int)).length = c.s.length) ∧ ∀ f g : Nat, f < p → g < c.s.length → okComp c f g, c.s.length - p)) s) (0) (by repeat first | exact sub_nil | refine sub_cons rfl ?_) rfl ⟨by omega, fun x hx => absurd hx (by omega), fun x y hx => absurd hx (by omega)⟩ ?_
         rintro p hinv KL28 hKL28
         simp only [sU, sL] at hinv hKL28 ⊢
         obtain ⟨hp, hrl, hco⟩ := hinv
         refine gc_seq fun K29 hK29 => ?_
         refine gc_sr fun K30 hK30 => ?_
         refine gm ?_
         refine gm ?_
         refine gv (qt_lss rfl rfl rfl) ?_
         refine gnt (hK30 _ _ ?_)
         refine gc_cond rfl (fun hc4 => ?_) (fun hc4 => ?_)
         ·try simp only [sA] at hc4
          refine gc_skip ?_
          refine gk_then (hK29 _ _ ?_)
          refine gc_seq fun K31 hK31 => ?_
          refine gc_block ?_
          refine gc_seq fun K32 hK32 => ?_
          refine gc_sr fun K33 hK33 => ?_
          refine gv (qtf Tryz.underlying29 (z := 0) (off := 4)) ?_
          refine gv (qtl Tryz.underlying23 (n := 0)) ?_
          refine gm ?_
          refine gv (qti2 (fun w M => lenA_rd2 h4)) ?_
          refine g_load2 (.free rfl) rfl rfl rfl rfl Tryz.underlying22 rfl h4 (by omega) (by omega) ?_
          intro ra34 rc34 hr34
          refine gv (qln (fun w M => lenV_rd hr34)) ?_
          refine gm ?_
          refine gv (qt_neq rfl rfl rfl) ?_
          refine gnt (hK33 _ _ ?_)
          refine gc_cond rfl (fun hc5 => ?_) (fun hc5 => ?_)
          ·try simp only [sA] at hc5
           refine gc_sr fun K35 hK35 => ?_
           refine gas ?_
           refine gnt (hK35 _ _ ?_)
           refine gc_ret ?_
           refine gk_then_ret ?_
           refine gk_block_ret ?_
           refine gk_then_ret ?_
           refine gk_then_ret ?_
           refine gk_block_ret ?_
           refine gk_then_ret ?_
           refine ret_1 rfl rfl  (fun w M => ?_)
           rw [shape_false fun h => hc5 (rl_row h (by omega))]; exact ⟨rfl, M.1⟩
          ·try simp only [sA] at hc5
           refine gc_skip ?_
           refine gk_then (hK32 _ _ ?_)
           refine gc_sr fun K36 hK36 => ?_
           refine gas ?_
           refine gnt (hK36 _ _ ?_)
           refine gc_block ?_
           try simp only [sL]
           refine gc_loopT ([(0, _), (1, _), (3, _), (4, _), (5, _), (43, _), (56, _), (60, _), (89, _), (99, _)] : Env) (fun s : Nat => (fun (q : Nat) => (([(6, .int .i64 (q : Int))] : Env), ([] : List (Nat × Itm)), q ≤ c.s.length ∧ ∀ g : Nat, g < q → okComp c p g, c.s.length - q)) s) (0) (by repeat first | exact sub_nil | refine sub_cons rfl ?_) rfl ⟨by omega, fun x hx => absurd hx (by omega)⟩ ?_
           rintro q hinv KL37 hKL37
           simp only [sU, sL] at hinv hKL37 ⊢
           obtain ⟨hq, hcp⟩ := hinv
           refine gc_seq fun K38 hK38 => ?_
           refine gc_sr fun K39 hK39 => ?_
           refine gm ?_
           refine gm ?_
           refine gv (qt_lss rfl rfl rfl) ?_
           refine gnt (hK39 _ _ ?_)
           refine gc_cond rfl (fun hc6 => ?_) (fun hc6 => ?_)
           ·try simp only [sA] at hc6
            refine gc_skip ?_
            refine gk_then (hK38 _ _ ?_)
            refine gc_seq fun K40 hK40 => ?_
            refine gc_block ?_
            refine gc_seq fun K41 hK41 => ?_
            have hrw := hc5
            refine gc_region ?_
            refine gv (qtf Tryz.underlying29 (z := 0) (off := 4)) ?_
            refine gv (qtl Tryz.underlying23 (n := 0)) ?_
            refine gm ?_
            refine gv (qti2 (fun w M => lenA_rd2 h4)) ?_
            refine g_load2 (.free rfl) rfl rfl rfl rfl Tryz.underlying22 rfl h4 (by omega) (by omega) ?_
            intro ra42 rc42 hr42
            refine gm ?_
            refine gv (qti (fun w M => lenA_rd hr42)) ?_
            refine gv (qtd (fun w M => mem_rd M hr42)) ?_
            refine gas ?_
            refine gnt (hK41 _ _ ?_)
            refine gc_seq fun K43 hK43 => ?_
            refine gc_seq fun K44 hK44 => ?_
            have g0 : (0 : Int) ≤ p := by omega
            refine gc_draw (by kernel_rfl) ?_
            refine gdv (qtf Tryz.underlying29 (z := 0) (off := 2)) ?_
            refine gdv (qtl Tryz.underlying22 (n := 0)) ?_
            refine gdv (qt_move rfl rfl) ?_
            refine gdv (qti (fun w M => lenA_rd h2)) ?_
            refine gdv (qtd (fun w M => mem_rd M h2)) ?_
            refine gdv (qtf Tryz.underlying29 (z := 0) (off := 1)) ?_
            refine gdv (qtl Tryz.underlying22 (n := 0)) ?_
            refine gdv (qt_move rfl rfl) ?_
            refine gdv (qti (fun w M => lenA_rd h1)) ?_
            refine gdv (qtd (fun w M => mem_rd M h1)) ?_
            refine gdv (qt_neq rfl rfl rfl) ?_
            refine gd_nil ?_
            refine gk_then (hK44 _ _ ?_)
            refine gc_cond rfl (fun hc7 => ?_) (fun hc7 => ?_)
            ·try simp only [sA] at hc7
             refine gc_seq fun K45 hK45 => ?_
             refine gc_sr fun K46 hK46 => ?_
             refine gm ?_
             refine gv (qt_neq rfl rfl rfl) ?_
             refine gnt (hK46 _ _ ?_)
             refine gc_cond rfl (fun hc8 => ?_) (fun hc8 => ?_)
             ·try simp only [sA] at hc8
              refine gc_sr fun K47 hK47 => ?_
              refine gas ?_
              refine gnt (hK47 _ _ ?_)
              refine gc_ret ?_
              refine gk_then_ret ?_
              refine gk_then_ret ?_
              refine gk_block_ret ?_
              refine gk_then_ret ?_
              refine gk_then_ret ?_
              refine gk_block_ret ?_
              refine gk_block_ret ?_
              refine gk_then_ret ?_
              refine gk_then_ret ?_
              refine gk_block_ret ?_
              refine gk_then_ret ?_
              refine ret_1 rfl rfl  (fun w M => ?_)
              rw [shape_false fun h => hc8 ((h.co p q (by omega) (by omega)).2 hc7)]; exact ⟨rfl, M.1⟩
             ·try simp only [sA] at hc8
              refine gc_skip ?_
              refine gk_then (hK45 _ _ ?_)
              refine gc_exit ?_
              refine gk_then_exit ?_
              refine gk_block_hit ?_
              refine gk_then (hK40 _ _ ?_)
              refine gc_region ?_
              refine gm ?_
              refine gv (qt_add rfl rfl rfl (by omega)) ?_
              refine gas ?_
              refine g_nil ?_
              refine gk_then (gk_take 1 ?_)
              refine gk_sub ?hs_48 (hKL37 (q + 1) ?hi_48 ?hm_48)
              case hs_48 => repeat first | exact sub_nil | refine sub_cons rfl ?_
              case hi_48 => exact ⟨by omega, all_next0 hcp ⟨fun h => absurd h hc7, fun _ => hc8⟩⟩
              case hm_48 => omega
            ·try simp only [sA] at hc7
             refine gc_skip ?_
             refine gk_then (hK43 _ _ ?_)
             refine gc_seq fun K49 hK49 => ?_
             have z1 : c.th p q = at0 (row2 c.m p) q := rfl
             refine gc_draw (by kernel_rfl) ?_
             refine gdv (qt_move rfl rfl) ?_
             refine gdv (qt_lss rfl rfl rfl) ?_
             refine gd_splitv (.free rfl) rfl rfl (qt_move rfl rfl) (fun hs23_2 => ?_) (fun hs23_2 => ?_)
             ·try simp only [sA] at hs23_2
              refine gdsk ?_
              refine gdsk ?_
              refine gdsk ?_
              refine gdv (qt_pick_t rfl rfl rfl) ?_
              refine gdv (qt_move rfl rfl) ?_
              refine gdsk ?_
              refine gdsk ?_
              refine gdsk ?_
              refine gdsk ?_
              refine gdsk ?_
              refine gdsk ?_
              refine gdsk ?_
              refine gdsk ?_
              refine gdsk ?_
              refine gdsk ?_
              refine gdsk ?_
              refine gdv (qt_pick_t rfl rfl rfl) ?_
              refine gdv (qt_move rfl rfl) ?_
              refine gdsk ?_
              refine gdsk ?_
              refine gdsk ?_
              refine gdsk ?_
              refine gdsk ?_
              refine gdsk ?_
              refine gdsk ?_
              refine gdsk ?_
              refine gdsk ?_
              refine gdsk ?_
              refine gdsk ?_
              refine gdv (qt_pick_t rfl rfl rfl) ?_
              refine gd_nil ?_
              refine gk_then (hK49 _ _ ?_)
              refine gc_cond_t rfl ?_
              refine gc_sr fun K50 hK50 => ?_
              refine gas ?_
              refine gnt (hK50 _ _ ?_)
              refine gc_ret ?_
              refine gk_block_ret ?_
              refine gk_then_ret ?_
              refine gk_then_ret ?_
              refine gk_block_ret ?_
              refine gk_block_ret ?_
              refine gk_then_ret ?_
              refine gk_then_ret ?_
              refine gk_block_ret ?_
              refine gk_then_ret ?_
              refine ret_1 rfl rfl  (fun w M => ?_)
              rw [shape_false fun h => by have := ((h.co p q (by omega) (by omega)).1 hc7).1.1; have z1 : c.th p q = at0 (row2 c.m p) q := rfl; omega]; exact ⟨rfl, M.1⟩
             ·try simp only [sA] at hs23_2
              refine gdvh (qt_move rfl rfl) ?_
              refine gdvh (qt_move rfl rfl) ?_
              refine gdvh (qt_geq rfl rfl rfl) ?_
              refine gdv (qt_pick_f rfl rfl rfl) ?_
              refine gd_splitv (.free rfl) rfl rfl (qt_move rfl rfl) (fun hs23_7 => ?_) (fun hs23_7 => ?_)
              ·try simp only [sA] at hs23_7
               refine gdsk ?_
               refine gdsk ?_
               refine gdsk ?_
               refine gdsk ?_
               refine gdsk ?_
               refine gdsk ?_
               refine gdsk ?_
               refine gdsk ?_
               refine gdsk ?_
               refine gdsk ?_
               refine gdsk ?_
               refine gdv (qt_pick_t rfl rfl rfl) ?_
               refine gdv (qt_move rfl rfl) ?_
               refine gdsk ?_
               refine gdsk ?_
               refine gdsk ?_
               refine gdsk ?_
               refine gdsk ?_
               refine gdsk ?_
               refine gdsk ?_
               refine gdsk ?_
               refine gdsk ?_
               refine gdsk ?_
               refine gdsk ?_
               refine gdv (qt_pick_t rfl rfl rfl) ?_
               refine gd_nil ?_
               refine gk_then (hK49 _ _ ?_)
               refine gc_cond_t rfl ?_
               refine gc_sr fun K51 hK51 => ?_
               refine gas ?_
               refine gnt (hK51 _ _ ?_)
               refine gc_ret ?_
               refine gk_block_ret ?_
               refine gk_then_ret ?_
               refine gk_then_ret ?_
               refine gk_block_ret ?_
               refine gk_block_ret ?_
               refine gk_then_ret ?_
               refine gk_then_ret ?_
               refine gk_block_ret ?_
               refine gk_then_ret ?_
               refine ret_1 rfl rfl  (fun w M => ?_)
               rw [shape_false fun h => by have := ((h.co p q (by omega) (by omega)).1 hc7).1.2; have z1 : c.th p q = at0 (row2 c.m p) q := rfl; omega]; exact ⟨rfl, M.1⟩
              ·try simp only [sA] at hs23_7
               refine gdvh (qtf Tryz.underlying29 (z := 0) (off := 1)) ?_
               refine gdvh (qtl Tryz.underlying22 (n := 0)) ?_
               refine gdvh (qt_move rfl rfl) ?_
               refine gdvh (qti (fun w M => lenA_rd h1)) ?_
               refine gdvh (qtd (fun w M => mem_rd M h1)) ?_
               refine gdvh (qtf Tryz.underlying29 (z := 0) (off := 1)) ?_
               refine gdvh (qtl Tryz.underlying22 (n := 0)) ?_
               refine gdvh (qt_move rfl rfl) ?_
               refine gdvh (qti (fun w M => lenA_rd h1)) ?_
               refine gdvh (qtd (fun w M => mem_rd M h1)) ?_
               refine gdvh (qt_neq rfl rfl rfl) ?_
               refine gdv (qt_pick_f rfl rfl rfl) ?_
               refine gd_splitv (.free rfl) rfl rfl (qt_move rfl rfl) (fun hs23_20 => ?_) (fun hs23_20 => ?_)
               ·try simp only [sA] at hs23_20
                refine gdsk ?_
                refine gdsk ?_
                refine gdsk ?_
                refine gdsk ?_
                refine gdsk ?_
                refine gdsk ?_
                refine gdsk ?_
                refine gdsk ?_
                refine gdsk ?_
                refine gdsk ?_
                refine gdsk ?_
                refine gdv (qt_pick_t rfl rfl rfl) ?_
                refine gd_nil ?_
                refine gk_then (hK49 _ _ ?_)
                refine gc_cond_t rfl ?_
                refine gc_sr fun K52 hK52 => ?_
                refine gas ?_
                refine gnt (hK52 _ _ ?_)
                refine gc_ret ?_
                refine gk_block_ret ?_
                refine gk_then_ret ?_
                refine gk_then_ret ?_
                refine gk_block_ret ?_
                refine gk_block_ret ?_
                refine gk_then_ret ?_
                refine gk_then_ret ?_
                refine gk_block_ret ?_
                refine gk_then_ret ?_
                refine ret_1 rfl rfl  (fun w M => ?_)
                rw [shape_false fun h => hs23_20 ((h.co p q (by omega) (by omega)).1 hc7).2.1]; exact ⟨rfl, M.1⟩
               ·try simp only [sA] at hs23_20
                refine gdvh (qtf Tryz.underlying29 (z := 0) (off := 2)) ?_
                refine gdvh (qtl Tryz.underlying22 (n := 0)) ?_
                refine gdvh (qt_move rfl rfl) ?_
                refine gdvh (qti (fun w M => lenA_rd h2)) ?_
                refine gdvh (qtd (fun w M => mem_rd M h2)) ?_
                refine gdvh (qtf Tryz.underlying29 (z := 0) (off := 2)) ?_
                refine gdvh (qtl Tryz.underlying22 (n := 0)) ?_
                refine gdvh (qt_move rfl rfl) ?_
                refine gdvh (qti (fun w M => lenA_rd h2)) ?_
                refine gdvh (qtd (fun w M => mem_rd M h2)) ?_
                refine gdvh (qt_neq rfl rfl rfl) ?_
                refine gdv (qt_pick_f rfl rfl rfl) ?_
                refine gd_nil ?_
                refine gk_then (hK49 _ _ ?_)
                refine gc_cond rfl (fun hc9 => ?_) (fun hc9 => ?_)
                ·try simp only [sA] at hc9
                 refine gc_sr fun K53 hK53 => ?_
                 refine gas ?_
                 refine gnt (hK53 _ _ ?_)
                 refine gc_ret ?_
                 refine gk_block_ret ?_
                 refine gk_then_ret ?_
                 refine gk_then_ret ?_
                 refine gk_block_ret ?_
                 refine gk_block_ret ?_
                 refine gk_then_ret ?_
                 refine gk_then_ret ?_
                 refine gk_block_ret ?_
                 refine gk_then_ret ?_
                 refine ret_1 rfl rfl  (fun w M => ?_)
                 rw [shape_false fun h => hc9 ((h.co p q (by omega) (by omega)).1 hc7).2.2]; exact ⟨rfl, M.1⟩
                ·try simp only [sA] at hc9
                 refine gc_skip ?_
                 refine gk_block ?_
                 refine gk_then (hK40 _ _ ?_)
                 refine gc_region ?_
                 refine gm ?_
                 refine gv (qt_add rfl rfl rfl (by omega)) ?_
                 refine gas ?_
                 refine g_nil ?_
                 refine gk_then (gk_take 1 ?_)
                 refine gk_sub ?hs_54 (hKL37 (q + 1) ?hi_54 ?hm_54)
                 case hs_54 => repeat first | exact sub_nil | refine sub_cons rfl ?_
                 case hi_54 => exact ⟨by omega, all_next0 hcp ⟨fun _ => ⟨⟨by show 0 ≤ at0 (row2 c.m p) q; omega, by show at0 (row2 c.m p) q < _; omega⟩, hs23_20, hc9⟩, fun h => absurd hc7 h⟩⟩
                 case hm_54 => omega
           ·try simp only [sA] at hc6
            refine gc_exit ?_
            refine gk_then_exit ?_
            refine gk_then_exit ?_
            refine gk_block_hit ?_
            refine gk_block ?_
            refine gk_then (hK31 _ _ ?_)
            refine gc_region ?_
            refine gm ?_
            refine gv (qt_add rfl rfl rfl (by omega)) ?_
            refine gas ?_
            refine g_nil ?_
            refine gk_then (gk_take 1 ?_)
            refine gk_sub ?hs_55 (hKL28 (p + 1) ?hi_55 ?hm_55)
            case hs_55 => repeat first | exact sub_nil | refine sub_cons rfl ?_
            case hi_55 => exact ⟨by omega, all_next0 hrl (by omega), fun f g hf hg => by
   rcases Nat.lt_or_ge f p with h1 | h1
   ·exact hco f g h1 hg
   ·obtain rfl : f = p := by omega
    exact hcp g (by omega)⟩
            case hm_55 => omega
         ·try simp only [sA] at hc4
          refine gc_exit ?_
          refine gk_then_exit ?_
          refine gk_then_exit ?_
          refine gk_block_hit ?_
          refine gk_then (hK26 _ _ ?_)
          refine gc_sr fun K56 hK56 => ?_
          refine gas ?_
          refine gnt (hK56 _ _ ?_)
          refine gc_ret ?_
          refine ret_1 rfl rfl  (fun w M => ?_)
          rw [shape_true (pre_shape P hid2 (fun j hj => hrl j (by omega)) (fun f g hf hg => hco f g (by omega) hg))]; exact ⟨rfl, M.1⟩
end Go.Proofs.YtpcabkdkdnchaaaGreat
