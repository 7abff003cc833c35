
/- The program's tests of the composites, and of a shape. -/
import Derived.Test.YtgkfampgofjkfaaShort
import Derived.Test.YtgkfampgofjkfaaRul4
import Derived.Test.YtgkfampgofjkfaaHas
set_option linter.unusedSimpArgs false
set_option linter.unusedVariables false
set_option linter.unusedSectionVars false
namespace Go.Proofs.Ytgkfampgofjkfaa
open Go.RowKit


theorem row2_len {c : Cat} (hr : RowsP c) {f : Int} (f0 : 0 ≤ f) (f1 : f < c.m.length) : (row2 c.m f).length = c.s.length := hr f.toNat (by omega)
theorem bP_no' {p : Prop} (h : bP p = false) : ¬ p := fun hp => by rw [bP_t hp] at h; cases h
theorem bP_yes' {p : Prop} (h : bP p = true) : p := bP_iff.1 h
theorem bP_eq_dec {p q : Prop} [Decidable q] (h : p ↔ q) : decide q = bP p := by rw [← bP_dec]; exact bP_congr h.symm

set_option maxHeartbeats 1000000 in
set_option maxRecDepth 100000 in
theorem fits_w (w : World) (v : Value) (c : Cat) (f g : Int) (h : RdC w v c) (hL : LenP c) (hR : RowsP c) (f0 : 0 ≤ f) (f1 : f < c.s.length) (g0 : 0 ≤ g) (g1 : g < c.s.length) :
  Calls Try.prog 112 #[v, .int .i64 f, .int .i64 g] w (RetB w (bP (okComp c f g))) := by
 have h0 := h
 obtain ⟨va, vb, vc, vd, ve, vf, vg, vh, rfl, h1, h2, h3, h4, _⟩ := h.lists
 have htl := hL.tl; have hml := hL.ml; have hrw := row2_len hR f0 (by omega)
 go_enter Try.func112, Try.ntmps112
 refine gc_enter (N := 46) rfl (look_cons (k := 0) rfl (look_cons (k := 1) rfl (look_cons (k := 2) rfl (look_nil _)))) ?_
 refine gc_sr fun K1 hK1 => ?_
 refine gop fun K3 hK3 => ?_
 refine go_box rfl rfl rfl rfl rfl ?_
 intro B2
 refine hK3 _ _ ?_
 refine gas ?_
 refine gnt (hK1 _ _ ?_)
 refine gc_sr fun K4 hK4 => ?_
 refine gv (qts Try.underlying27 (n := 0)) ?_
 refine gm ?_
 refine gm ?_
 refine g_q (.free rfl) rfl rfl (qt_call rfl Try.func114 rfl (by decide) rfl (fun w M => then_any w _ _ _ _ (mem_rdC M h0) (by first | assumption | omega) (by first | assumption | omega) (by first | assumption | omega) (by first | assumption | omega))) ?_
 refine gas ?_
 refine gnt (hK4 _ _ ?_)
 refine gc_seq fun K5 hK5 => ?_
 refine gc_seq fun K6 hK6 => ?_
 refine gc_draw (by kernel_rfl) ?_
 refine gdv (qtf Try.underlying27 (z := 0) (off := 2)) ?_
 refine gdv (qtl Try.underlying22 (n := 0)) ?_
 refine gdv (qt_move rfl rfl) ?_
 refine gdv (qti (fun w M => lenA_rd h2)) ?_
 refine gdv (qtd (fun w M => mem_rd M h2)) ?_
 refine gdv (qtf Try.underlying27 (z := 0) (off := 1)) ?_
 refine gdv (qtl Try.underlying22 (n := 0)) ?_
 refine gdv (qt_move rfl rfl) ?_
 refine gdv (qti (fun w M => lenA_rd h1)) ?_
 refine gdv (qtd (fun w M => mem_rd M h1)) ?_
 refine gdv (qt_neq rfl rfl rfl) ?_
 refine gd_nil ?_
 refine gk_then (hK6 _ _ ?_)
 refine gc_cond rfl (fun hc0 => ?_) (fun hc0 => ?_)
 ·try simp only [sA] at hc0
  refine gc_sr fun K7 hK7 => ?_
  refine gm ?_
  refine gv (qt_eql rfl rfl rfl) ?_
  refine gas ?_
  refine gnt (hK7 _ _ ?_)
  refine gc_ret ?_
  refine gk_then_ret ?_
  refine ret_1 rfl rfl  (fun w M => ?_)
  refine ⟨?_, M.1⟩; rw [bP_eq_dec (p := okComp c f g)]; exact ⟨fun h => h.2 hc0, fun h => ⟨fun h2 => absurd h2 hc0, fun _ => h⟩⟩
 ·try simp only [sA] at hc0
  refine gc_skip ?_
  refine gk_then (hK5 _ _ ?_)
  refine gc_seq fun K8 hK8 => ?_
  try simp only [sL]
  refine ga_start _ (fun w M => M) ?_
  refine gav 0 rfl (qts Try.underlying27 (n := 0)) ?_
  refine gav 1 rfl (qt_move rfl rfl) ?_
  refine gao 2 fun K10 hK10 => ?_
  refine go_slice1 rfl rfl rfl rfl Try.underlying22 ?_
  intro B9
  refine hK10 _ _ (fun w M => (mem_take 1 M :)) ?_
  refine gao 3 fun K11 hK11 => ?_
  refine go_q rfl rfl (qt_call rfl Try.func40 rfl (by decide) rfl (fun w M => hasArrows_any w _ _ _ _ _ (mem_rdC M h0) ((mem_own1 (n := 1) M rfl).rd) rfl)) ?_
  refine hK11 _ _ (fun w M => (mem_take 1 M :)) ?_
  refine ga_splitv 4 rfl (by kernel_rfl) (by kernel_rfl) (by kernel_rfl) (.free rfl) rfl rfl (qt_move rfl rfl) (fun _ _ _ _ h => h) (fun hs4_4 => ?_) (fun hs4_4 => ?_)
  ·try simp only [sA] at hs4_4
   have ha := allP_one.1 (bP_yes' hs4_4)
   have x1 := ha.1; have x2 := ha.2
   refine ga_v 5 rfl (by kernel_rfl) (by kernel_rfl) (by kernel_rfl) (.held _ _ _ rfl rfl rfl) rfl rfl (qts Try.underlying27 (n := 0)) (fun _ _ _ h => h) ?_
   refine ga_v 6 rfl (by kernel_rfl) (by kernel_rfl) (by kernel_rfl) (.held _ _ _ rfl rfl rfl) rfl rfl (qt_move rfl rfl) (fun _ _ _ h => h) ?_
   refine ga_v 8 rfl (by kernel_rfl) (by kernel_rfl) (by kernel_rfl) (.held _ _ _ rfl rfl rfl) rfl rfl (qtf Try.underlying27 (z := 0) (off := 1)) (fun _ _ _ h => h) ?_
   refine ga_v 9 rfl (by kernel_rfl) (by kernel_rfl) (by kernel_rfl) (.held _ _ _ rfl rfl rfl) rfl rfl (qtl Try.underlying22 (n := 0)) (fun _ _ _ h => h) ?_
   refine ga_v 10 rfl (by kernel_rfl) (by kernel_rfl) (by kernel_rfl) (.held _ _ _ rfl rfl rfl) rfl rfl (qt_move rfl rfl) (fun _ _ _ h => h) ?_
   refine ga_v 11 rfl (by kernel_rfl) (by kernel_rfl) (by kernel_rfl) (.held _ _ _ rfl rfl rfl) rfl rfl (qt_index rfl rfl rfl ulE1 szE1 (fun w M => lenA_rd h1) (by omega) (by omega)) (fun _ _ _ h => h) ?_
   refine ga_v 12 rfl (by kernel_rfl) (by kernel_rfl) (by kernel_rfl) (.held _ _ _ rfl rfl rfl) rfl rfl (qt_load1 rfl rfl Try.underlying2 rfl (fun w M => mem_rd M h1) (by omega) (by omega)) (fun _ _ _ h => h) ?_
   refine ga_v 13 rfl (by kernel_rfl) (by kernel_rfl) (by kernel_rfl) (.held _ _ _ rfl rfl rfl) rfl rfl (qtf Try.underlying27 (z := 0) (off := 2)) (fun _ _ _ h => h) ?_
   refine ga_v 14 rfl (by kernel_rfl) (by kernel_rfl) (by kernel_rfl) (.held _ _ _ rfl rfl rfl) rfl rfl (qtl Try.underlying22 (n := 0)) (fun _ _ _ h => h) ?_
   refine ga_v 15 rfl (by kernel_rfl) (by kernel_rfl) (by kernel_rfl) (.held _ _ _ rfl rfl rfl) rfl rfl (qt_move rfl rfl) (fun _ _ _ h => h) ?_
   refine ga_v 16 rfl (by kernel_rfl) (by kernel_rfl) (by kernel_rfl) (.held _ _ _ rfl rfl rfl) rfl rfl (qt_index rfl rfl rfl ulE1 szE1 (fun w M => lenA_rd h2) (by omega) (by omega)) (fun _ _ _ h => h) ?_
   refine ga_v 17 rfl (by kernel_rfl) (by kernel_rfl) (by kernel_rfl) (.held _ _ _ rfl rfl rfl) rfl rfl (qt_load1 rfl rfl Try.underlying2 rfl (fun w M => mem_rd M h2) (by omega) (by omega)) (fun _ _ _ h => h) ?_
   refine ga_v 18 rfl (by kernel_rfl) (by kernel_rfl) (by kernel_rfl) (.held _ _ _ rfl rfl rfl) rfl rfl (qt_build rfl rfl bt_arrowEnds) (fun _ _ _ h => h) ?_
   refine ga_op 7 (by kernel_rfl) rfl (.held _ _ _ rfl rfl rfl) fun K12 hK12 => ?_
   refine go_q rfl rfl (qt_call rfl Try.func78 rfl (by decide) rfl (fun w M => ends_any w _ _ _ (mem_rdC M h0) (by first | assumption | omega) (by first | assumption | omega) (by first | assumption | omega))) ?_
   refine hK12 _ _ (fun w M => (mem_take 1 M :)) ?_
   refine ga_v 19 rfl (by kernel_rfl) (by kernel_rfl) (by kernel_rfl) (.held _ _ _ rfl rfl rfl) rfl rfl (qt_eqA rfl rfl rfl (fun w => eqA_arrowEnds _ _ _ _ w) eqG_arrowEnds) (fun _ _ _ h => h) ?_
   refine gav 20 rfl (qt_pick_t rfl rfl rfl) ?_
   refine gav 21 rfl (qt_assign rfl rfl) ?_
   refine ga_done (by kernel_rfl) ?_
   refine gk_then (hK8 _ _ ?_)
   refine gc_ret ?_
   refine ret_1 rfl rfl  (fun w M => ?_)
   refine ⟨?_, M.1⟩; rw [bP_eq_dec (p := okComp c f g)]; exact ⟨fun h => (h.1 hc0).2, fun h => ⟨fun _ => ⟨ha, h⟩, fun h2 => absurd hc0 h2⟩⟩
  ·try simp only [sA] at hs4_4
   refine ga_skip 5 rfl (by kernel_rfl) (by kernel_rfl) (by kernel_rfl) (.not _ _ _ _ rfl rfl rfl rfl) rfl rfl (fun _ _ _ h => h) ?_
   refine ga_skip 6 rfl (by kernel_rfl) (by kernel_rfl) (by kernel_rfl) (.not _ _ _ _ rfl rfl rfl rfl) rfl rfl (fun _ _ _ h => h) ?_
   refine ga_skip 8 rfl (by kernel_rfl) (by kernel_rfl) (by kernel_rfl) (.not _ _ _ _ rfl rfl rfl rfl) rfl rfl (fun _ _ _ h => h) ?_
   refine ga_skip 9 rfl (by kernel_rfl) (by kernel_rfl) (by kernel_rfl) (.not _ _ _ _ rfl rfl rfl rfl) rfl rfl (fun _ _ _ h => h) ?_
   refine ga_skip 10 rfl (by kernel_rfl) (by kernel_rfl) (by kernel_rfl) (.not _ _ _ _ rfl rfl rfl rfl) rfl rfl (fun _ _ _ h => h) ?_
   refine ga_skip 11 rfl (by kernel_rfl) (by kernel_rfl) (by kernel_rfl) (.not _ _ _ _ rfl rfl rfl rfl) rfl rfl (fun _ _ _ h => h) ?_
   refine ga_skip 12 rfl (by kernel_rfl) (by kernel_rfl) (by kernel_rfl) (.not _ _ _ _ rfl rfl rfl rfl) rfl rfl (fun _ _ _ h => h) ?_
   refine ga_skip 13 rfl (by kernel_rfl) (by kernel_rfl) (by kernel_rfl) (.not _ _ _ _ rfl rfl rfl rfl) rfl rfl (fun _ _ _ h => h) ?_
   refine ga_skip 14 rfl (by kernel_rfl) (by kernel_rfl) (by kernel_rfl) (.not _ _ _ _ rfl rfl rfl rfl) rfl rfl (fun _ _ _ h => h) ?_
   refine ga_skip 15 rfl (by kernel_rfl) (by kernel_rfl) (by kernel_rfl) (.not _ _ _ _ rfl rfl rfl rfl) rfl rfl (fun _ _ _ h => h) ?_
   refine ga_skip 16 rfl (by kernel_rfl) (by kernel_rfl) (by kernel_rfl) (.not _ _ _ _ rfl rfl rfl rfl) rfl rfl (fun _ _ _ h => h) ?_
   refine ga_skip 17 rfl (by kernel_rfl) (by kernel_rfl) (by kernel_rfl) (.not _ _ _ _ rfl rfl rfl rfl) rfl rfl (fun _ _ _ h => h) ?_
   refine ga_skip 18 rfl (by kernel_rfl) (by kernel_rfl) (by kernel_rfl) (.not _ _ _ _ rfl rfl rfl rfl) rfl rfl (fun _ _ _ h => h) ?_
   refine ga_skip 7 rfl (by kernel_rfl) (by kernel_rfl) (by kernel_rfl) (.not _ _ _ _ rfl rfl rfl rfl) rfl rfl (fun _ _ _ h => h) ?_
   refine ga_skip 19 rfl (by kernel_rfl) (by kernel_rfl) (by kernel_rfl) (.not _ _ _ _ rfl rfl rfl rfl) rfl rfl (fun _ _ _ h => h) ?_
   refine gav 20 rfl (qt_pick_f rfl rfl rfl) ?_
   refine gav 21 rfl (qt_assign rfl rfl) ?_
   refine ga_done (by kernel_rfl) ?_
   refine gk_then (hK8 _ _ ?_)
   refine gc_ret ?_
   refine ret_1 rfl rfl  (fun w M => ?_)
   rw [bP_f fun h : okComp c f g => bP_no' hs4_4 (allP_one.2 (h.1 hc0).1)]; exact ⟨rfl, M.1⟩


theorem fits_any (w : World) (v : Value) (c : Cat) (f g : Int) (b : Bool) (h : RdC w v c) (hL : LenP c) (hR : RowsP c) (f0 : 0 ≤ f) (f1 : f < c.s.length) (g0 : 0 ≤ g) (g1 : g < c.s.length) (hb : bP (okComp c f g) = b) : Calls Try.prog 112 #[v, .int .i64 f, .int .i64 g] w (RetB w b) := by
 subst hb; exact fits_w w v c f g h hL hR f0 f1 g0 g1

set_option maxHeartbeats 1000000 in
set_option maxRecDepth 100000 in
theorem hasComposites_w (w : World) (v : Value) (c : Cat) (h : RdC w v c) (hL : LenP c) (hR : RowsP c) :
  Calls Try.prog 104 #[v] w (RetB w (bP (∀ f g : Nat, f < c.s.length → g < c.s.length → okComp c f g))) := by
 have h0 := h
 obtain ⟨va, vb, vc, vd, ve, vf, vg, vh, rfl, h1, h2, h3, h4, _⟩ := h.lists
 have hn40 := hL.n40
 go_enter Try.func104, Try.ntmps104
 refine gc_enter (N := 22) rfl (look_cons (k := 0) rfl (look_nil _)) ?_
 refine gc_sr fun K1 hK1 => ?_
 refine gop fun K3 hK3 => ?_
 refine go_box rfl rfl rfl rfl rfl ?_
 intro B2
 refine hK3 _ _ ?_
 refine gas ?_
 refine gnt (hK1 _ _ ?_)
 refine gc_seq fun K4 hK4 => ?_
 refine gc_sr fun K5 hK5 => ?_
 refine gv (qts Try.underlying27 (n := 0)) ?_
 refine g_q (.free rfl) rfl rfl (qt_call rfl Try.func42 rfl (by decide) rfl (fun w M => arrows_any w _ _ (mem_rdC M h0))) ?_
 refine gm ?_
 refine gnt (hK5 _ _ ?_)
 refine gc_block ?_
 try simp only [sL]
 refine gc_loopT ([(0, _), (1, _), (6, _)] : Env) (fun s : Nat => (fun (p : Nat) => (([(7, .int .i64 (p : Int))] : Env), ([] : List (Nat × Itm)), p ≤ c.s.length ∧ ∀ f g : Nat, f < p → g < c.s.length → okComp c f g, c.s.length - p)) s) (0) (by repeat first | exact sub_nil | refine sub_cons rfl ?_) rfl ⟨Nat.zero_le _, fun f g hf => absurd hf (by omega)⟩ ?_
 rintro p hinv KL6 hKL6
 simp only [sU, sL] at hinv hKL6 ⊢
 obtain ⟨hp, hco⟩ := hinv
 refine gc_sr fun K7 hK7 => ?_
 refine gv (qt_lss rfl rfl rfl) ?_
 refine gnt (hK7 _ _ ?_)
 refine gc_seq fun K8 hK8 => ?_
 refine gc_cond rfl (fun hc0 => ?_) (fun hc0 => ?_)
 ·try simp only [sA] at hc0
  refine gc_skip ?_
  refine gk_then (hK8 _ _ ?_)
  refine gc_seq fun K9 hK9 => ?_
  refine gc_block ?_
  refine gc_sr fun K10 hK10 => ?_
  refine gm ?_
  refine gas ?_
  refine gnt (hK10 _ _ ?_)
  refine gc_sr fun K11 hK11 => ?_
  refine gv (qts Try.underlying27 (n := 0)) ?_
  refine g_q (.free rfl) rfl rfl (qt_call rfl Try.func42 rfl (by decide) rfl (fun w M => arrows_any w _ _ (mem_rdC M h0))) ?_
  refine gm ?_
  refine gnt (hK11 _ _ ?_)
  refine gc_block ?_
  try simp only [sL]
  refine gc_loopT ([(0, _), (1, _), (3, _), (6, _), (7, _), (8, _), (11, _)] : Env) (fun s : Nat => (fun (q : Nat) => (([(12, .int .i64 (q : Int))] : Env), ([] : List (Nat × Itm)), q ≤ c.s.length ∧ ∀ g : Nat, g < q → okComp c p g, c.s.length - q)) s) (0) (by repeat first | exact sub_nil | refine sub_cons rfl ?_) rfl ⟨Nat.zero_le _, fun g hf => absurd hf (by omega)⟩ ?_
  rintro q hinv KL12 hKL12
  simp only [sU, sL] at hinv hKL12 ⊢
  obtain ⟨hq, hcp⟩ := hinv
  refine gc_sr fun K13 hK13 => ?_
  refine gv (qt_lss rfl rfl rfl) ?_
  refine gnt (hK13 _ _ ?_)
  refine gc_seq fun K14 hK14 => ?_
  refine gc_cond rfl (fun hc1 => ?_) (fun hc1 => ?_)
  ·try simp only [sA] at hc1
   refine gc_skip ?_
   refine gk_then (hK14 _ _ ?_)
   refine gc_seq fun K15 hK15 => ?_
   refine gc_block ?_
   refine gc_sr fun K16 hK16 => ?_
   refine gm ?_
   refine gas ?_
   refine gnt (hK16 _ _ ?_)
   refine gc_sr fun K17 hK17 => ?_
   refine gv (qts Try.underlying27 (n := 0)) ?_
   refine gm ?_
   refine gm ?_
   refine g_q (.free rfl) rfl rfl (qt_call rfl Try.func112 rfl (by decide) rfl (fun w M => fits_w w _ _ _ _ (mem_rdC M h0) (by first | assumption | omega) (by first | assumption | omega) (by first | assumption | omega) (by first | assumption | omega) (by first | assumption | omega) (by first | assumption | omega))) ?_
   refine gv (qt_not rfl rfl) ?_
   refine gnt (hK17 _ _ ?_)
   refine gc_cond rfl (fun hc2 => ?_) (fun hc2 => ?_)
   ·try simp only [sA] at hc2
    refine gc_sr fun K18 hK18 => ?_
    refine gas ?_
    refine gnt (hK18 _ _ ?_)
    refine gc_ret ?_
    refine gk_block_ret ?_
    refine gk_then_ret ?_
    refine gk_then_ret ?_
    refine gk_block_ret ?_
    refine gk_block_ret ?_
    refine gk_then_ret ?_
    refine gk_then_ret ?_
    refine gk_block_ret ?_
    refine gk_then_ret ?_
    refine ret_1 rfl rfl  (fun w M => ?_)
    rw [bP_f fun h => bP_no' hc2 (h p q (by omega) (by omega))]; exact ⟨rfl, M.1⟩
   ·try simp only [sA] at hc2
    refine gc_skip ?_
    refine gk_block ?_
    refine gk_then (hK15 _ _ ?_)
    refine gc_region ?_
    refine gv (qt_add rfl rfl rfl (by omega)) ?_
    refine gm ?_
    refine g_nil ?_
    refine gk_then (gk_take 1 ?_)
    refine gk_sub ?hs_19 (hKL12 (q + 1) ?hi_19 ?hm_19)
    case hs_19 => repeat first | exact sub_nil | refine sub_cons rfl ?_
    case hi_19 => exact ⟨by omega, all_next0 hcp (bP_yes' hc2)⟩
    case hm_19 => omega
  ·try simp only [sA] at hc1
   refine gc_exit ?_
   refine gk_then_exit ?_
   refine gk_then_exit ?_
   refine gk_block_hit ?_
   refine gk_block ?_
   refine gk_then (hK9 _ _ ?_)
   refine gc_region ?_
   refine gv (qt_add rfl rfl rfl (by omega)) ?_
   refine gm ?_
   refine g_nil ?_
   refine gk_then (gk_take 1 ?_)
   refine gk_sub ?hs_20 (hKL6 (p + 1) ?hi_20 ?hm_20)
   case hs_20 => repeat first | exact sub_nil | refine sub_cons rfl ?_
   case hi_20 => exact ⟨by omega, fun f g hf hg => by
   rcases Nat.lt_or_ge f p with h1 | h1
   ·exact hco f g h1 hg
   ·obtain rfl : f = p := by omega
    exact hcp g (by omega)⟩
   case hm_20 => omega
 ·try simp only [sA] at hc0
  refine gc_exit ?_
  refine gk_then_exit ?_
  refine gk_then_exit ?_
  refine gk_block_hit ?_
  refine gk_then (hK4 _ _ ?_)
  refine gc_sr fun K21 hK21 => ?_
  refine gas ?_
  refine gnt (hK21 _ _ ?_)
  refine gc_ret ?_
  refine ret_1 rfl rfl  (fun w M => ?_)
  rw [bP_t fun f g hf hg => hco f g (by omega) hg]; exact ⟨rfl, M.1⟩


theorem hasComposites_any (w : World) (v : Value) (c : Cat) (b : Bool) (h : RdC w v c) (hL : LenP c) (hR : RowsP c) (hb : bP (∀ f g : Nat, f < c.s.length → g < c.s.length → okComp c f g) = b) : Calls Try.prog 104 #[v] w (RetB w b) := by
 subst hb; exact hasComposites_w w v c h hL hR
theorem shapeP_mk {c : Cat} (h1 : LenP c ∧ RowsP c) (h2 : AllP c.ob c.s) (h3 : AllP c.ob c.t) (h4 : ∀ x : Nat, x < c.e.length → okIdent c x) : bP (∀ f g : Nat, f < c.s.length → g < c.s.length → okComp c f g) = fIsShape c :=
 bP_congr ⟨fun h => ⟨h1.1, h1.2, h2, h3, h4, h⟩, fun h => h.co⟩


def FrameP (c : Cat) : Prop := (LenP c ∧ RowsP c) ∧ AllP c.ob c.s ∧ AllP c.ob c.t ∧ ∀ x : Nat, x < c.e.length → okIdent c x
theorem frame_shape {c : Cat} (h : FrameP c) : bP (∀ f g : Nat, f < c.s.length → g < c.s.length → okComp c f g) = fIsShape c := shapeP_mk h.1 h.2.1 h.2.2.1 h.2.2.2
theorem shape_frame {c : Cat} (h : ShapeP c) : FrameP c := ⟨⟨h.toLenP, h.rl⟩, h.sa, h.ta, h.id⟩

set_option maxHeartbeats 1000000 in
set_option maxRecDepth 100000 in
theorem hasFrame_w (w : World) (v : Value) (c : Cat) (h : RdC w v c) :
  Calls Try.prog 103 #[v] w (RetB w (bP (FrameP c))) := by
 have h0 := h
 obtain ⟨va, vb, vc, vd, ve, vf, vg, vh, rfl, h1, h2, h3, h4, _⟩ := h.lists
 go_enter Try.func103, Try.ntmps103
 refine gc_enter (N := 21) rfl (look_cons (k := 0) rfl (look_nil _)) ?_
 refine gc_sr fun K1 hK1 => ?_
 refine gop fun K3 hK3 => ?_
 refine go_box rfl rfl rfl rfl rfl ?_
 intro B2
 refine hK3 _ _ ?_
 refine gas ?_
 refine gnt (hK1 _ _ ?_)
 refine gc_sr fun K4 hK4 => ?_
 refine gv (qts Try.underlying27 (n := 0)) ?_
 refine g_q (.free rfl) rfl rfl (qt_call rfl Try.func110 rfl (by decide) rfl (fun w M => hasLengths_any w _ _ _ (mem_rdC M h0) rfl)) ?_
 refine g_splitv (.free rfl) rfl rfl (qt_move rfl rfl) (fun hs1_2 => ?_) (fun hs1_2 => ?_)
 ·try simp only [sA] at hs1_2
  refine gvh (qts Try.underlying27 (n := 0)) ?_
  refine gvh (qtf Try.underlying27 (z := 0) (off := 1)) ?_
  refine gvh (qtl Try.underlying22 (n := 0)) ?_
  refine g_q (.held _ _ _ rfl rfl rfl) rfl rfl (qt_call rfl Try.func39 rfl (by decide) rfl (fun w M => hasObjects_any w _ _ _ _ _ (mem_rdC M h0) (mem_rd M h1) rfl)) ?_
  refine gv (qt_pick_t rfl rfl rfl) ?_
  refine g_splitv (.free rfl) rfl rfl (qt_move rfl rfl) (fun hs1_8 => ?_) (fun hs1_8 => ?_)
  ·try simp only [sA] at hs1_8
   refine gvh (qts Try.underlying27 (n := 0)) ?_
   refine gvh (qtf Try.underlying27 (z := 0) (off := 2)) ?_
   refine gvh (qtl Try.underlying22 (n := 0)) ?_
   refine g_q (.held _ _ _ rfl rfl rfl) rfl rfl (qt_call rfl Try.func39 rfl (by decide) rfl (fun w M => hasObjects_any w _ _ _ _ _ (mem_rdC M h0) (mem_rd M h2) rfl)) ?_
   refine gv (qt_pick_t rfl rfl rfl) ?_
   refine g_splitv (.free rfl) rfl rfl (qt_move rfl rfl) (fun hs1_14 => ?_) (fun hs1_14 => ?_)
   ·try simp only [sA] at hs1_14
    refine gvh (qts Try.underlying27 (n := 0)) ?_
    refine g_q (.held _ _ _ rfl rfl rfl) rfl rfl (qt_call rfl Try.func111 rfl (by decide) rfl (fun w M => hasIdentities_any w _ _ _ (mem_rdC M h0) (bP_yes' hs1_2).1 rfl)) ?_
    refine gv (qt_pick_t rfl rfl rfl) ?_
    refine gas ?_
    refine gnt (hK4 _ _ ?_)
    refine gc_ret ?_
    refine ret_1 rfl rfl  (fun w M => ?_)
    rw [show bP (FrameP c) = bP (∀ x : Nat, x < c.e.length → okIdent c x) from bP_congr ⟨fun h => h.2.2.2, fun h4 => ⟨bP_yes' hs1_2, bP_yes' hs1_8, bP_yes' hs1_14, h4⟩⟩]; exact ⟨rfl, M.1⟩
   ·try simp only [sA] at hs1_14
    refine gsk ?_
    refine gsk ?_
    refine gv (qt_pick_f rfl rfl rfl) ?_
    refine gas ?_
    refine gnt (hK4 _ _ ?_)
    refine gc_ret ?_
    refine ret_1 rfl rfl  (fun w M => ?_)
    rw [bP_f fun h : FrameP c => bP_no' hs1_14 h.2.2.1]; exact ⟨rfl, M.1⟩
  ·try simp only [sA] at hs1_8
   refine gsk ?_
   refine gsk ?_
   refine gsk ?_
   refine gsk ?_
   refine gv (qt_pick_f rfl rfl rfl) ?_
   refine gm ?_
   refine gsk ?_
   refine gsk ?_
   refine gv (qt_pick_f rfl rfl rfl) ?_
   refine gas ?_
   refine gnt (hK4 _ _ ?_)
   refine gc_ret ?_
   refine ret_1 rfl rfl  (fun w M => ?_)
   rw [bP_f fun h : FrameP c => bP_no' hs1_8 h.2.1]; exact ⟨rfl, M.1⟩
 ·try simp only [sA] at hs1_2
  refine gsk ?_
  refine gsk ?_
  refine gsk ?_
  refine gsk ?_
  refine gv (qt_pick_f rfl rfl rfl) ?_
  refine gm ?_
  refine gsk ?_
  refine gsk ?_
  refine gsk ?_
  refine gsk ?_
  refine gv (qt_pick_f rfl rfl rfl) ?_
  refine gm ?_
  refine gsk ?_
  refine gsk ?_
  refine gv (qt_pick_f rfl rfl rfl) ?_
  refine gas ?_
  refine gnt (hK4 _ _ ?_)
  refine gc_ret ?_
  refine ret_1 rfl rfl  (fun w M => ?_)
  rw [bP_f fun h : FrameP c => bP_no' hs1_2 h.1]; exact ⟨rfl, M.1⟩

set_option maxHeartbeats 1000000 in
set_option maxRecDepth 100000 in
theorem impl_IsShape (w : World) (v : Value) (c : Cat) (h : RdC w v c) :
  Calls Try.prog 93 #[v] w (RetB w (fIsShape c)) := by
 have h0 := h
 obtain ⟨va, vb, vc, vd, ve, vf, vg, vh, rfl, h1, h2, h3, h4, _⟩ := h.lists
 go_enter Try.func93, Try.ntmps93
 refine gc_enter (N := 9) rfl (look_cons (k := 0) rfl (look_nil _)) ?_
 refine gc_sr fun K1 hK1 => ?_
 refine gop fun K3 hK3 => ?_
 refine go_box rfl rfl rfl rfl rfl ?_
 intro B2
 refine hK3 _ _ ?_
 refine gas ?_
 refine gnt (hK1 _ _ ?_)
 refine gc_sr fun K4 hK4 => ?_
 refine gv (qts Try.underlying27 (n := 0)) ?_
 refine g_q (.free rfl) rfl rfl (qt_call rfl Try.func103 rfl (by decide) rfl (fun w M => hasFrame_w w _ _ (mem_rdC M h0))) ?_
 refine g_splitv (.free rfl) rfl rfl (qt_move rfl rfl) (fun hs1_2 => ?_) (fun hs1_2 => ?_)
 ·try simp only [sA] at hs1_2
  refine gvh (qts Try.underlying27 (n := 0)) ?_
  refine g_q (.held _ _ _ rfl rfl rfl) rfl rfl (qt_call rfl Try.func104 rfl (by decide) rfl (fun w M => hasComposites_w w _ _ (mem_rdC M h0) (bP_yes' hs1_2).1.1 (bP_yes' hs1_2).1.2)) ?_
  refine gv (qt_pick_t rfl rfl rfl) ?_
  refine gas ?_
  refine gnt (hK4 _ _ ?_)
  refine gc_ret ?_
  refine ret_1 rfl rfl  (fun w M => ?_)
  rw [← frame_shape (bP_yes' hs1_2)]; exact ⟨rfl, M.1⟩
 ·try simp only [sA] at hs1_2
  refine gsk ?_
  refine gsk ?_
  refine gv (qt_pick_f rfl rfl rfl) ?_
  refine gas ?_
  refine gnt (hK4 _ _ ?_)
  refine gc_ret ?_
  refine ret_1 rfl rfl  (fun w M => ?_)
  rw [show fIsShape c = false from bP_f fun h => bP_no' hs1_2 (shape_frame h)]; exact ⟨rfl, M.1⟩

end Go.Proofs.Ytgkfampgofjkfaa
