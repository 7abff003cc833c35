
/- The inverse of an arrow: the program's. -/
import Derived.Test.YtbfenibkbmkcaaaShort
import Derived.Test.YtbfenibkbmkcaaaHomL
set_option linter.unusedSimpArgs false
set_option linter.unusedVariables false
set_option linter.unusedSectionVars false
namespace Go.Proofs.Ytbfenibkbmkcaaa
open Go.RowKit


def RetIB (W : World) (n : Int) (b : Bool) (e : Ending) (w' : World) : Prop := e = .returned (.tuple #[.int .i64 n, .bool b]) ∧ Below W.heap.size W w'
theorem findGo_le {c : Cat} {f : Int} : ∀ {xs : List Int}, findGo c f xs = -1 ∨ findGo c f xs ∈ xs
 | [] => .inl rfl
 | g :: r => by
  by_cases hi : invAt c f g
  ·right; rw [show findGo c f (g :: r) = g from if_pos hi]; exact List.mem_cons_self ..
  ·rw [show findGo c f (g :: r) = findGo c f r from if_neg hi]
   exact (findGo_le (c := c) (f := f) (xs := r)).imp id fun h => List.mem_cons_of_mem _ h
/-- The inverse of an arrow, or 0. -/
noncomputable def invZ (c : Cat) (f : Int) : Int := bif bP (hasInv c f) then findGo c f (homTo c (at0 c.t f) (at0 c.s f) c.s.length) else 0
theorem invZ_t {c : Cat} {f : Int} (h : hasInv c f) : invZ c f = findGo c f (homTo c (at0 c.t f) (at0 c.s f) c.s.length) := by unfold invZ; rw [bP_t h]; rfl
theorem invZ_f {c : Cat} {f : Int} (h : ¬ hasInv c f) : invZ c f = 0 := by unfold invZ; rw [bP_f h]; rfl

set_option maxHeartbeats 1000000 in
set_option maxRecDepth 100000 in
theorem inverse_any (w : World) (v : Value) (c : Cat) (f : Int) (h : RdC w v c) (hS : ShapeP c) (f0 : 0 ≤ f) (f1 : f < c.s.length) :
  Calls Try.prog 118 #[v, .int .i64 f] w (RetIB w (invZ c f) (bP (hasInv c f))) := by
 have h0 := h
 obtain ⟨va, vb, vc, vd, ve, vf, vg, vh, rfl, h1, h2, h3, h4, _⟩ := h.lists
 have hf := arrP hS f0 f1
 have e1 := hf.fs; have e2 := hf.ft; have e3 := hf.fm; have e4 := hf.s0; have e5 := hf.s1; have e6 := hf.t0; have e7 := hf.t1; have e8 := hf.row
 have hn40 := hS.n40; have htl := hS.tl; have hel := hS.el
 have hl := homTo_len c (at0 c.t f) (at0 c.s f) c.s.length
 go_enter Try.func118, Try.ntmps118
 refine gc_enter (N := 41) rfl (look_cons (k := 0) rfl (look_cons (k := 1) rfl (look_nil _))) ?_
 refine gc_sr fun K1 hK1 => ?_
 refine gop fun K3 hK3 => ?_
 refine go_box rfl rfl rfl rfl rfl ?_
 intro B2
 refine hK3 _ _ ?_
 refine gas ?_
 refine gas ?_
 refine gnt (hK1 _ _ ?_)
 refine gc_seq fun K4 hK4 => ?_
 refine gc_seq fun K5 hK5 => ?_
 try simp only [sL]
 refine ga_start _ (fun w M => M) ?_
 refine gav 0 rfl (qts Try.underlying44 (n := 0)) ?_
 refine gav 1 rfl (qtf Try.underlying44 (z := 0) (off := 2)) ?_
 refine gav 2 rfl (qtl Try.underlying22 (n := 0)) ?_
 refine gav 3 rfl (qt_move rfl rfl) ?_
 refine gav 4 rfl (qti (fun w M => lenA_rd h2)) ?_
 refine gav 5 rfl (qtd (fun w M => mem_rd M h2)) ?_
 refine gav 6 rfl (qtf Try.underlying44 (z := 0) (off := 1)) ?_
 refine gav 7 rfl (qtl Try.underlying22 (n := 0)) ?_
 refine gav 8 rfl (qt_move rfl rfl) ?_
 refine gav 9 rfl (qti (fun w M => lenA_rd h1)) ?_
 refine gav 10 rfl (qtd (fun w M => mem_rd M h1)) ?_
 refine gav 11 rfl (qt_build rfl rfl bt_arrowEnds) ?_
 refine gav 14 rfl (qt_move rfl rfl) ?_
 refine gao 12 fun K7 hK7 => ?_
 refine go_callL rfl rfl rfl Try.func129 rfl (by decide) rfl (fun w M => arrowsBetween_any w _ _ _ _ (mem_rdC M h0) (by first | assumption | omega)) ?_
 intro va6 vc6
 refine hK7 _ _ (fun w M => (mem_take 1 M :)) ?_
 refine gao 13 fun K8 hK8 => ?_
 refine gov (qln (fun w M => lenV_own1 (n := 1) rfl M)) ?_
 refine hK8 _ _ (fun w M => (mem_take 1 M :)) ?_
 refine ga_done (by kernel_rfl) ?_
 refine gk_then (hK5 _ _ ?_)
 refine gc_block ?_
 try simp only [sL]
 refine gc_loopT ([(0, _), (1, _), (2, _), (20, _), (21, _)] : Env) (fun s : Nat => (fun (k : Nat) => (([(22, .int .i64 (k : Int))] : Env), ([] : List (Nat × Itm)), k ≤ (homTo c (at0 c.t f) (at0 c.s f) c.s.length).length ∧ findGo c f ((homTo c (at0 c.t f) (at0 c.s f) c.s.length).drop k) = findGo c f (homTo c (at0 c.t f) (at0 c.s f) c.s.length), (homTo c (at0 c.t f) (at0 c.s f) c.s.length).length - k)) s) (0) (by repeat first | exact sub_nil | refine sub_cons rfl ?_) rfl ⟨Nat.zero_le _, rfl⟩ ?_
 rintro k hinv KL9 hKL9
 simp only [sU, sL] at hinv hKL9 ⊢
 obtain ⟨hk, hgo⟩ := hinv
 refine gc_sr fun K10 hK10 => ?_
 refine gv (qt_lss rfl rfl rfl) ?_
 refine gnt (hK10 _ _ ?_)
 refine gc_seq fun K11 hK11 => ?_
 refine gc_cond rfl (fun hc0 => ?_) (fun hc0 => ?_)
 ·try simp only [sA] at hc0
  refine gc_skip ?_
  refine gk_then (hK11 _ _ ?_)
  refine gc_seq fun K12 hK12 => ?_
  refine gc_block ?_
  refine gc_sr fun K13 hK13 => ?_
  refine gv (qti (fun w M => lenA_own1 (n := 1) rfl M)) ?_
  refine gv (qtd (fun w M => (mem_own1 (n := 1) M rfl).rd)) ?_
  refine gas ?_
  refine gnt (hK13 _ _ ?_)
  refine gc_seq fun K14 hK14 => ?_
  have hg := homTo_at (c := c) (x := at0 c.t f) (y := at0 c.s f) (n := c.s.length) (k := k) (by omega)
  have hA := arrP hS hg.1 hg.2.1
  have a1 := hA.f0; have a2 := hA.fs; have a3 := hA.fm; have a4 := hA.row
  refine gc_draw (by kernel_rfl) ?_
  refine gdv (qts Try.underlying44 (n := 0)) ?_
  refine gdv (qt_move rfl rfl) ?_
  refine gdv (qt_move rfl rfl) ?_
  refine gd_q (.free rfl) rfl rfl (qt_call rfl Try.func110 rfl (by decide) rfl (fun w M => then_any w _ _ _ _ (mem_rdC M h0) (by first | assumption | omega) (by first | assumption | omega) (by first | assumption | omega) (by first | assumption | omega))) ?_
  refine gdv (qts Try.underlying44 (n := 0)) ?_
  refine gdv (qt_move rfl rfl) ?_
  refine gdv (qt_move rfl rfl) ?_
  refine gd_q (.free rfl) rfl rfl (qt_call rfl Try.func110 rfl (by decide) rfl (fun w M => then_any w _ _ _ _ (mem_rdC M h0) (by first | assumption | omega) (by first | assumption | omega) (by first | assumption | omega) (by first | assumption | omega))) ?_
  refine gdv (qt_build rfl rfl bt_arrowPair) ?_
  refine gdv (qts Try.underlying44 (n := 0)) ?_
  refine gdv (qt_move rfl rfl) ?_
  refine gd_q (.free rfl) rfl rfl (qt_call rfl Try.func130 rfl (by decide) rfl (fun w M => units_any w _ _ _ (mem_rdC M h0) (hf))) ?_
  refine gdv (qt_eqA rfl rfl rfl (fun w => eqA_arrowPair _ _ _ _ w) eqG_arrowPair) ?_
  refine gd_nil ?_
  refine gk_then (hK14 _ _ ?_)
  refine gc_cond rfl (fun hc1 => ?_) (fun hc1 => ?_)
  ·try simp only [sA] at hc1
   refine gc_sr fun K15 hK15 => ?_
   refine gm ?_
   refine gas ?_
   refine gas ?_
   refine gnt (hK15 _ _ ?_)
   refine gc_ret ?_
   refine gk_block_ret ?_
   refine gk_then_ret ?_
   refine gk_then_ret ?_
   refine gk_block_ret ?_
   refine gk_then_ret ?_
   refine ret_2 rfl rfl rfl  (fun w M => ?_)
   have hh : hasInv c f := ⟨_, by rw [at0_nat]; exact mem_getD (by omega), hc1⟩
   rw [bP_t hh, invZ_t hh, ← hgo, findGo_t (by omega) hc1]; exact ⟨rfl, M.1⟩
  ·try simp only [sA] at hc1
   refine gc_skip ?_
   refine gk_block ?_
   refine gk_then (hK12 _ _ ?_)
   refine gc_region ?_
   refine gv (qt_add rfl rfl rfl (by omega)) ?_
   refine gm ?_
   refine g_nil ?_
   refine gk_then (gk_take 2 ?_)
   refine gk_sub ?hs_16 (hKL9 (k + 1) ?hi_16 ?hm_16)
   case hs_16 => repeat first | exact sub_nil | refine sub_cons rfl ?_
   case hi_16 => exact ⟨by omega, by rw [← hgo, findGo_f (by omega) hc1]⟩
   case hm_16 => omega
 ·try simp only [sA] at hc0
  refine gc_exit ?_
  refine gk_then_exit ?_
  refine gk_then_exit ?_
  refine gk_block_hit ?_
  refine gk_then (hK4 _ _ ?_)
  refine gc_sr fun K17 hK17 => ?_
  refine gas ?_
  refine gas ?_
  refine gnt (hK17 _ _ ?_)
  refine gc_ret ?_
  refine ret_2 rfl rfl rfl  (fun w M => ?_)
  obtain rfl : k = (homTo c (at0 c.t f) (at0 c.s f) c.s.length).length := by omega
  have hno : ¬ hasInv c f := inv_neg.1 (by rw [← hgo, findGo_end]; decide)
  rw [bP_f hno, invZ_f hno]; exact ⟨rfl, M.1⟩

set_option maxHeartbeats 1000000 in
set_option maxRecDepth 100000 in
theorem isInvertible_any (w : World) (v : Value) (c : Cat) (f : Int) (h : RdC w v c) (hS : ShapeP c) (f0 : 0 ≤ f) (f1 : f < c.s.length) :
  Calls Try.prog 90 #[v, .int .i64 f] w (RetB w (bP (hasInv c f))) := by
 have h0 := h
 obtain ⟨va, vb, vc, vd, ve, vf, vg, vh, rfl, h1, h2, h3, h4, _⟩ := h.lists
 go_enter Try.func90, Try.ntmps90
 refine gc_enter (N := 14) rfl (look_cons (k := 0) rfl (look_cons (k := 1) rfl (look_nil _))) ?_
 refine gc_sr fun K1 hK1 => ?_
 refine gop fun K3 hK3 => ?_
 refine go_box rfl rfl rfl rfl rfl ?_
 intro B2
 refine hK3 _ _ ?_
 refine gas ?_
 refine gnt (hK1 _ _ ?_)
 refine gc_sr fun K4 hK4 => ?_
 refine gv (qts Try.underlying44 (n := 0)) ?_
 refine gm ?_
 refine g_q (.free rfl) rfl rfl (qt_call rfl Try.func118 rfl (by decide) rfl (fun w M => inverse_any w _ _ _ (mem_rdC M h0) (by first | assumption | omega) (by first | assumption | omega) (by first | assumption | omega))) ?_
 refine gm ?_
 refine gv (qt_extract rfl rfl rfl) ?_
 refine gv (qt_extract rfl rfl rfl) ?_
 refine gas ?_
 refine gas ?_
 refine gnt (hK4 _ _ ?_)
 refine gc_sr fun K5 hK5 => ?_
 refine gm ?_
 refine gas ?_
 refine gnt (hK5 _ _ ?_)
 refine gc_ret ?_
 refine ret_1 rfl rfl  (fun w M => ?_)
 exact ⟨rfl, M.1⟩

end Go.Proofs.Ytbfenibkbmkcaaa
