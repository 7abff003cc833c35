import Derived.Test.YtbiplocgenppoaaS4
import Derived.Test.YtbiplocgenppoaaS5
import Derived.Test.YtbiplocgenppoaaS7
import Derived.Test.YtbiplocgenppoaaS6
set_option maxHeartbeats 4000000
set_option maxRecDepth 100000
set_option linter.unusedSimpArgs false
set_option linter.unusedVariables false
set_option linter.unusedSectionVars false
namespace Go.Proofs.Ytbiplocgenppoaa
open _root_.Go.Proofs.Try
open Go.RowKit
theorem units_any (w : World) (v : Value) (c : Cat) (f : Int) (h : RdC w v c) (hf : ArrP c f) :
  Calls Try.prog 60 #[v, .int .i64 f] w (RetE w (at0 c.e (at0 c.s f)) (at0 c.e (at0 c.t f))) := by
 have h0 := h
 obtain ⟨va, vb, vc, vd, ve, vf, vg, vh, rfl, h1, h2, h3, h4, _⟩ := h.lists
 have a1 := hf.f0; have a2 := hf.fs; have a3 := hf.ft; have a4 := hf.fm; have a5 := hf.s0; have a6 := hf.s1; have a7 := hf.t0; have a8 := hf.t1; have a9 := hf.row
 go_enter func60, Try.ntmps60
 refine gc_enter (N := 24) rfl (look_cons (k := 0) rfl (look_cons (k := 1) rfl (look_nil _))) ?_
 refine gc_sr fun K1 hK1 => ?_
 refine gop fun K3 hK3 => ?_
 refine go_box rfl rfl rfl rfl rfl ?_
 intro B2
 refine hK3 _ _ ?_
 refine gop fun K5 hK5 => ?_
 refine go_alloc (z := (.agg #[.int .i64 0, .int .i64 0])) (cs := [.int .i64 0, .int .i64 0]) rfl rfl rfl (fun w => by kernel_rfl) rfl ?_
 intro B4
 refine hK5 _ _ ?_
 refine gnt (hK1 _ _ ?_)
 refine gc_seq fun K6 hK6 => ?_
 try simp only [sL]
 refine ga_start _ (fun w M => mem_erase 1 (M)) ?_
 refine gav 0 rfl (qtf underlying27 (z := 0) (off := 3)) ?_
 refine gav 1 rfl (qtl underlying24 (n := 0)) ?_
 refine gav 2 rfl (qtf underlying27 (z := 0) (off := 1)) ?_
 refine gav 3 rfl (qtl underlying24 (n := 0)) ?_
 refine gav 4 rfl (qt_move rfl rfl) ?_
 refine gav 5 rfl (qti (fun w M => lenA_rd h1)) ?_
 refine gav 6 rfl (qtd (fun w M => mem_rd M h1)) ?_
 refine gav 7 rfl (qti (fun w M => lenA_rd h3)) ?_
 refine gav 8 rfl (qtd (fun w M => mem_rd M h3)) ?_
 refine gav 9 rfl (qtf underlying27 (z := 0) (off := 3)) ?_
 refine gav 10 rfl (qtl underlying24 (n := 0)) ?_
 refine gav 11 rfl (qtf underlying27 (z := 0) (off := 2)) ?_
 refine gav 12 rfl (qtl underlying24 (n := 0)) ?_
 refine gav 13 rfl (qt_move rfl rfl) ?_
 refine gav 14 rfl (qti (fun w M => lenA_rd h2)) ?_
 refine gav 15 rfl (qtd (fun w M => mem_rd M h2)) ?_
 refine gav 16 rfl (qti (fun w M => lenA_rd h3)) ?_
 refine gav 17 rfl (qtd (fun w M => mem_rd M h3)) ?_
 refine gav 18 rfl (qt_build rfl rfl bt_arrowPair) ?_
 refine gao 19 fun K7 hK7 => ?_
 refine gss 1 ?_
 refine hK7 _ _ (fun w M => (ms1 1 2 M :)) ?_
 refine ga_done (by kernel_rfl) ?_
 refine gk_then (hK6 _ _ ?_)
 refine gc_ret ?_
 refine ret_S (n := 1) rfl rfl underlying91 rfl (by kernel_rfl) rfl (fun w M => ?_)
 exact ⟨rfl, M.1⟩
def IdFP (c : Cat) (k f : Int) : Prop :=
 (k = 1 ∧ ∃ m : Nat, f = m ∧ m < c.s.length ∧ badId c m ∧ ∀ j : Nat, j < m → ¬ badId c j) ∨ (k = 0 ∧ f = 0 ∧ ∀ j : Nat, j < c.s.length → ¬ badId c j)
def RetF (W : World) (k f g h : Int) (e : Ending) (w' : World) : Prop := e = .returned (.agg #[.int .i64 k, .int .i64 f, .int .i64 g, .int .i64 h]) ∧ Below W.heap.size W w'
theorem idFP_yes {c : Cat} {kk ff : Int} (h : IdFP c kk ff) {k : Nat} (hk : k < c.s.length) (hb : badId c k) (hf : ∀ j : Nat, j < k → ¬ badId c j) : kk = 1 ∧ ff = k := by
 rcases h with ⟨h1, m, h2, h3, h4, h5⟩ | ⟨_, _, h3⟩
 ·refine ⟨h1, ?_⟩
  rcases Nat.lt_trichotomy m k with h | h | h
  ·exact absurd h4 (hf m h)
  ·rw [h2, h]
  exact absurd hb (h5 k h)
 exact absurd hb (h3 k hk)
theorem idFP_no {c : Cat} {kk ff : Int} (h : IdFP c kk ff) (hf : ∀ j : Nat, j < c.s.length → ¬ badId c j) : kk = 0 ∧ ff = 0 := by
 rcases h with ⟨_, m, _, h3, h4, _⟩ | ⟨h1, h2, _⟩
 ·exact absurd h4 (hf m h3)
 exact ⟨h1, h2⟩
theorem idFault_any (w : World) (v : Value) (c : Cat) (kk ff : Int) (h : RdC w v c) (hS : ShapeP c) (hP : IdFP c kk ff) :
  Calls Try.prog 94 #[v] w (RetF w kk ff 0 0) := by
 have h0 := h
 obtain ⟨va, vb, vc, vd, ve, vf, vg, vh, rfl, h1, h2, h3, h4, _⟩ := h.lists
 have hn40 := hS.n40; have htl := hS.tl; have hml := hS.ml
 go_enter func94, Try.ntmps94
 refine gc_enter (N := 32) rfl (look_cons (k := 0) rfl (look_nil _)) ?_
 refine gc_sr fun K1 hK1 => ?_
 refine gop fun K3 hK3 => ?_
 refine go_box rfl rfl rfl rfl rfl ?_
 intro B2
 refine hK3 _ _ ?_
 refine gop fun K5 hK5 => ?_
 refine go_alloc (z := (.agg #[.int .i64 0, .int .i64 0, .int .i64 0, .int .i64 0])) (cs := [.int .i64 0, .int .i64 0, .int .i64 0, .int .i64 0]) rfl rfl rfl (fun w => by kernel_rfl) rfl ?_
 intro B4
 refine hK5 _ _ ?_
 refine gnt (hK1 _ _ ?_)
 refine gc_seq fun K6 hK6 => ?_
 refine gc_sr fun K7 hK7 => ?_
 refine gv (qts underlying27 (n := 0)) ?_
 refine g_q (.free rfl) rfl rfl (qt_call rfl func31 rfl (by decide) rfl (fun w M => arrows_any w _ _ (mem_rdC M h0))) ?_
 refine gm ?_
 refine gnt (hK7 _ _ ?_)
 refine gc_block ?_
 try simp only [sL]
 refine gc_loopT ([(0, _), (1, _), (2, _), (6, _)] : Env) (fun s : Nat => (fun (k : Nat) => (([(7, .int .i64 (k : Int))] : Env), ([] : List (Nat × Itm)), k ≤ c.s.length ∧ ∀ j : Nat, j < k → ¬ badId c j, c.s.length - k)) s) (0) (by repeat first | exact sub_nil | refine sub_cons rfl ?_) rfl ⟨Nat.zero_le _, fun j hj => absurd hj (by omega)⟩ ?_
 rintro k hinv KL8 hKL8
 simp only [sU, sL] at hinv hKL8 ⊢
 obtain ⟨hk, hall⟩ := hinv
 refine gc_sr fun K9 hK9 => ?_
 refine gv (qt_lss rfl rfl rfl) ?_
 refine gnt (hK9 _ _ ?_)
 refine gc_seq fun K10 hK10 => ?_
 refine gc_cond rfl (fun hc0 => ?_) (fun hc0 => ?_)
 ·try simp only [sA] at hc0
  refine gc_skip ?_
  refine gk_then (hK10 _ _ ?_)
  refine gc_seq fun K11 hK11 => ?_
  refine gc_block ?_
  refine gc_sr fun K12 hK12 => ?_
  refine gm ?_
  refine gas ?_
  refine gnt (hK12 _ _ ?_)
  refine gc_seq fun K13 hK13 => ?_
  have A := arrQ hS (f := (k : Int)) (by omega) (by omega)
  have a1 := A.f0; have a2 := A.fs; have a3 := A.ft; have a4 := A.fm; have a5 := A.s0; have a6 := A.s1; have a7 := A.t0; have a8 := A.t1; have a9 := A.row
  have b1 := A.i0; have b2 := A.i1; have b3 := A.j0; have b4 := A.j1; have b5 := A.i2; have b6 := A.ri
  refine gc_region ?_
  refine gv (qts underlying27 (n := 0)) ?_
  refine gm ?_
  refine g_q (.free rfl) rfl rfl (qt_call rfl func60 rfl (by decide) rfl (fun w M => units_any w _ _ _ (mem_rdC M h0) (A.toArrP))) ?_
  refine gop fun K15 hK15 => ?_
  refine go_alloc (z := (.agg #[.int .i64 0, .int .i64 0])) (cs := [.int .i64 0, .int .i64 0]) rfl rfl rfl (fun w => by kernel_rfl) rfl ?_
  intro B14
  refine hK15 _ _ ?_
  refine gop fun K16 hK16 => ?_
  refine gss 2 ?_
  refine hK16 _ _ ?_
  refine gnt (hK13 _ _ ?_)
  refine gc_seq fun K17 hK17 => ?_
  refine gc_draw (by kernel_rfl) ?_
  refine gdv (qts underlying27 (n := 0)) ?_
  refine gdv (qtf underlying91 (z := 0) (off := 0)) ?_
  refine gdv (qtl underlying2 (n := 2)) ?_
  refine gdv (qt_move rfl rfl) ?_
  refine gd_q (.free rfl) rfl rfl (qt_call rfl func30 rfl (by decide) rfl (fun w M => then_any w _ _ _ _ (mem_rdC M h0) (by first | assumption | omega) (by first | assumption | omega) (by first | assumption | omega) (by first | assumption | omega))) ?_
  refine gdv (qts underlying27 (n := 0)) ?_
  refine gdv (qt_move rfl rfl) ?_
  refine gdv (qtf underlying91 (z := 0) (off := 1)) ?_
  refine gdv (qtl underlying2 (n := 2)) ?_
  refine gd_q (.free rfl) rfl rfl (qt_call rfl func30 rfl (by decide) rfl (fun w M => then_any w _ _ _ _ (mem_rdC M h0) (by first | assumption | omega) (by first | assumption | omega) (by first | assumption | omega) (by first | assumption | omega))) ?_
  refine gdv (qt_build rfl rfl bt_arrowPair) ?_
  refine gdv (qt_move rfl rfl) ?_
  refine gdv (qt_move rfl rfl) ?_
  refine gdv (qt_build rfl rfl bt_arrowPair) ?_
  refine gdv (qt_neA rfl rfl rfl (fun w => eqA_arrowPair _ _ _ _ w) eqG_arrowPair) ?_
  refine gd_nil ?_
  refine gk_then (hK17 _ _ ?_)
  refine gc_cond rfl (fun hc1 => ?_) (fun hc1 => ?_)
  ·try simp only [sA] at hc1
   refine gc_sr fun K18 hK18 => ?_
   refine gm ?_
   refine gv (qt_build rfl rfl bt01_fault) ?_
   refine gop fun K19 hK19 => ?_
   refine gss 1 ?_
   refine hK19 _ _ ?_
   refine gnt (hK18 _ _ ?_)
   refine gc_ret ?_
   refine gk_block_ret ?_
   refine gk_then_ret ?_
   refine gk_then_ret ?_
   refine gk_block_ret ?_
   refine gk_then_ret ?_
   refine ret_S (n := 1) rfl rfl underlying106 rfl (by kernel_rfl) rfl (fun w M => ?_)
   obtain ⟨rfl, rfl⟩ := idFP_yes hP (by omega) hc1 hall; exact ⟨rfl, M.1⟩
  try simp only [sA] at hc1
  refine gc_skip ?_
  refine gk_block ?_
  refine gk_then (hK11 _ _ ?_)
  refine gc_region ?_
  refine gv (qt_add rfl rfl rfl (by omega)) ?_
  refine gm ?_
  refine g_nil ?_
  refine gk_then (gk_take 2 ?_)
  refine gk_sub ?hs_20 (hKL8 (k + 1) ?hi_20 ?hm_20)
  case hs_20 => repeat first | exact sub_nil | refine sub_cons rfl ?_
  case hi_20 => exact ⟨by omega, all_next0 hall fun hb => hb hc1⟩
  case hm_20 => omega
 try simp only [sA] at hc0
 refine gc_exit ?_
 refine gk_then_exit ?_
 refine gk_then_exit ?_
 refine gk_block_hit ?_
 refine gk_then (hK6 _ _ ?_)
 refine gc_sr fun K21 hK21 => ?_
 refine gv (qt_build rfl rfl bt0_fault) ?_
 refine gop fun K22 hK22 => ?_
 refine gss 1 ?_
 refine hK22 _ _ ?_
 refine gnt (hK21 _ _ ?_)
 refine gc_ret ?_
 refine ret_S (n := 1) rfl rfl underlying106 rfl (by kernel_rfl) rfl (fun w M => ?_)
 obtain ⟨rfl, rfl⟩ := idFP_no hP (fun j hj => hall j (by omega)); exact ⟨rfl, M.1⟩
end Go.Proofs.Ytbiplocgenppoaa
namespace Go.Proofs.Ytbiplocgenppoaa
open _root_.Go.Proofs.Try
open Go.RowKit
inductive AsP (c : Cat) : Int → Int → Int → Int → Prop
 | asc (f g k : Nat) (h : FirstAs c f g k) : AsP c 2 f g k
 | no (h : noBadAs c) : AsP c 0 0 0 0
theorem asP_asc {c : Cat} {k f g h : Int} (hp : AsP c k f g h) {f' g' k' : Nat} (hm : FirstAs c f' g' k') : k = 2 ∧ f = f' ∧ g = g' ∧ h = k' := by
 cases hp with
 | asc a b d h1 =>
  obtain ⟨rfl, rfl, rfl⟩ := firstAs_unique h1 hm
  exact ⟨rfl, rfl, rfl, rfl⟩
 | no h1 => exact absurd hm.2.2.2.1 (h1 _ _ _ hm.1 hm.2.1 hm.2.2.1)
theorem asP_no {c : Cat} {k f g h : Int} (hp : AsP c k f g h) (h1 : noBadAs c) : k = 0 ∧ f = 0 ∧ g = 0 ∧ h = 0 := by
 cases hp with
 | asc a b d h2 => exact absurd h2.2.2.2.1 (h1 _ _ _ h2.1 h2.2.1 h2.2.2.1)
 | no _ => exact ⟨rfl, rfl, rfl, rfl⟩
theorem asFault_any (w : World) (v : Value) (c : Cat) (rk rf rg rh : Int) (h : RdC w v c) (hS : ShapeP c) (hP : AsP c rk rf rg rh) :
  Calls Try.prog 95 #[v] w (RetF w rk rf rg rh) := by
 have h0 := h
 obtain ⟨va, vb, vc, vd, ve, vf, vg, vh, rfl, h1, h2, h3, h4, _⟩ := h.lists
 have hn40 := hS.n40; have htl := hS.tl; have hml := hS.ml
 go_enter func95, Try.ntmps95
 refine gc_enter (N := 68) rfl (look_cons (k := 0) rfl (look_nil _)) ?_
 refine gc_sr fun K1 hK1 => ?_
 refine gop fun K3 hK3 => ?_
 refine go_box rfl rfl rfl rfl rfl ?_
 intro B2
 refine hK3 _ _ ?_
 refine gop fun K5 hK5 => ?_
 refine go_alloc (z := (.agg #[.int .i64 0, .int .i64 0, .int .i64 0, .int .i64 0])) (cs := [.int .i64 0, .int .i64 0, .int .i64 0, .int .i64 0]) rfl rfl rfl (fun w => by kernel_rfl) rfl ?_
 intro B4
 refine hK5 _ _ ?_
 refine gnt (hK1 _ _ ?_)
 refine gc_seq fun K6 hK6 => ?_
 refine gc_sr fun K7 hK7 => ?_
 refine gv (qts underlying27 (n := 0)) ?_
 refine g_q (.free rfl) rfl rfl (qt_call rfl func31 rfl (by decide) rfl (fun w M => arrows_any w _ _ (mem_rdC M h0))) ?_
 refine gm ?_
 refine gnt (hK7 _ _ ?_)
 refine gc_block ?_
 try simp only [sL]
 refine gc_loopT ([(0, _), (1, _), (2, _), (7, _)] : Env) (fun s : Nat => (fun (p : Nat) => (([(8, .int .i64 (p : Int))] : Env), ([] : List (Nat × Itm)), p ≤ c.s.length ∧ ∀ f' g' k' : Nat, f' < p → g' < c.s.length → k' < c.s.length → ¬ badAs c f' g' k', c.s.length - p)) s) (0) (by repeat first | exact sub_nil | refine sub_cons rfl ?_) rfl ⟨Nat.zero_le _, fun f g k hf => absurd hf (by omega)⟩ ?_
 rintro p hinv KL8 hKL8
 simp only [sU, sL] at hinv hKL8 ⊢
 obtain ⟨hp, hA1⟩ := hinv
 refine gc_sr fun K9 hK9 => ?_
 refine gv (qt_lss rfl rfl rfl) ?_
 refine gnt (hK9 _ _ ?_)
 refine gc_seq fun K10 hK10 => ?_
 refine gc_cond rfl (fun hc0 => ?_) (fun hc0 => ?_)
 ·try simp only [sA] at hc0
  refine gc_skip ?_
  refine gk_then (hK10 _ _ ?_)
  refine gc_seq fun K11 hK11 => ?_
  refine gc_block ?_
  refine gc_sr fun K12 hK12 => ?_
  refine gm ?_
  refine gas ?_
  refine gnt (hK12 _ _ ?_)
  refine gc_sr fun K13 hK13 => ?_
  refine gv (qts underlying27 (n := 0)) ?_
  refine g_q (.free rfl) rfl rfl (qt_call rfl func31 rfl (by decide) rfl (fun w M => arrows_any w _ _ (mem_rdC M h0))) ?_
  refine gm ?_
  refine gnt (hK13 _ _ ?_)
  refine gc_block ?_
  try simp only [sL]
  refine gc_loopT ([(0, _), (1, _), (2, _), (3, _), (7, _), (8, _), (9, _), (12, _)] : Env) (fun s : Nat => (fun (g : Nat) => (([(13, .int .i64 (g : Int))] : Env), ([] : List (Nat × Itm)), g ≤ c.s.length ∧ ∀ g' k' : Nat, g' < g → k' < c.s.length → ¬ badAs c p g' k', c.s.length - g)) s) (0) (by repeat first | exact sub_nil | refine sub_cons rfl ?_) rfl ⟨Nat.zero_le _, fun g k hf => absurd hf (by omega)⟩ ?_
  rintro g hinv KL14 hKL14
  simp only [sU, sL] at hinv hKL14 ⊢
  obtain ⟨hg, hA2⟩ := hinv
  refine gc_sr fun K15 hK15 => ?_
  refine gv (qt_lss rfl rfl rfl) ?_
  refine gnt (hK15 _ _ ?_)
  refine gc_seq fun K16 hK16 => ?_
  refine gc_cond rfl (fun hc1 => ?_) (fun hc1 => ?_)
  ·try simp only [sA] at hc1
   refine gc_skip ?_
   refine gk_then (hK16 _ _ ?_)
   refine gc_seq fun K17 hK17 => ?_
   refine gc_block ?_
   refine gc_sr fun K18 hK18 => ?_
   refine gm ?_
   refine gas ?_
   refine gnt (hK18 _ _ ?_)
   refine gc_seq fun K19 hK19 => ?_
   refine gc_seq fun K20 hK20 => ?_
   refine gc_draw (by kernel_rfl) ?_
   refine gdv (qtf underlying27 (z := 0) (off := 2)) ?_
   refine gdv (qtl underlying24 (n := 0)) ?_
   refine gdv (qt_move rfl rfl) ?_
   refine gdv (qti (fun w M => lenA_rd h2)) ?_
   refine gdv (qtd (fun w M => mem_rd M h2)) ?_
   refine gdv (qtf underlying27 (z := 0) (off := 1)) ?_
   refine gdv (qtl underlying24 (n := 0)) ?_
   refine gdv (qt_move rfl rfl) ?_
   refine gdv (qti (fun w M => lenA_rd h1)) ?_
   refine gdv (qtd (fun w M => mem_rd M h1)) ?_
   refine gdv (qt_neq rfl rfl rfl) ?_
   refine gd_nil ?_
   refine gk_then (hK20 _ _ ?_)
   refine gc_cond rfl (fun hc2 => ?_) (fun hc2 => ?_)
   ·try simp only [sA] at hc2
    refine gc_exit ?_
    refine gk_then_exit ?_
    refine gk_block_hit ?_
    refine gk_then (hK17 _ _ ?_)
    refine gc_region ?_
    refine gv (qt_add rfl rfl rfl (by omega)) ?_
    refine gm ?_
    refine g_nil ?_
    refine gk_then (gk_take 2 ?_)
    refine gk_sub ?hs_21 (hKL14 (g + 1) ?hi_21 ?hm_21)
    case hs_21 => repeat first | exact sub_nil | refine sub_cons rfl ?_
    case hi_21 => exact ⟨by omega, fun g' k' hg hk => by
   rcases Nat.lt_or_ge g' g with h1 | h1
   ·exact hA2 g' k' h1 hk
   ·obtain rfl : g' = g := by omega
    exact fun hb => hc2 hb.1⟩
    case hm_21 => omega
   try simp only [sA] at hc2
   refine gc_skip ?_
   refine gk_then (hK19 _ _ ?_)
   refine gc_sr fun K22 hK22 => ?_
   refine gv (qts underlying27 (n := 0)) ?_
   refine g_q (.free rfl) rfl rfl (qt_call rfl func31 rfl (by decide) rfl (fun w M => arrows_any w _ _ (mem_rdC M h0))) ?_
   refine gm ?_
   refine gnt (hK22 _ _ ?_)
   refine gc_block ?_
   try simp only [sL]
   refine gc_loopT ([(0, _), (1, _), (2, _), (3, _), (4, _), (7, _), (8, _), (9, _), (12, _), (13, _), (14, _), (26, _), (28, _)] : Env) (fun s : Nat => (fun (q : Nat) => (([(29, .int .i64 (q : Int))] : Env), ([] : List (Nat × Itm)), q ≤ c.s.length ∧ ∀ k' : Nat, k' < q → ¬ badAs c p g k', c.s.length - q)) s) (0) (by repeat first | exact sub_nil | refine sub_cons rfl ?_) rfl ⟨Nat.zero_le _, fun k hf => absurd hf (by omega)⟩ ?_
   rintro q hinv KL23 hKL23
   simp only [sU, sL] at hinv hKL23 ⊢
   obtain ⟨hq, hA3⟩ := hinv
   refine gc_sr fun K24 hK24 => ?_
   refine gv (qt_lss rfl rfl rfl) ?_
   refine gnt (hK24 _ _ ?_)
   refine gc_seq fun K25 hK25 => ?_
   refine gc_cond rfl (fun hc3 => ?_) (fun hc3 => ?_)
   ·try simp only [sA] at hc3
    refine gc_skip ?_
    refine gk_then (hK25 _ _ ?_)
    refine gc_seq fun K26 hK26 => ?_
    refine gc_block ?_
    refine gc_sr fun K27 hK27 => ?_
    refine gm ?_
    refine gas ?_
    refine gnt (hK27 _ _ ?_)
    refine gc_seq fun K28 hK28 => ?_
    have Af := arrP hS (f := (p : Int)) (by omega) (by omega)
    have Ag := arrP hS (f := (g : Int)) (by omega) (by omega)
    have a1 := Af.f0; have a2 := Af.fs; have a3 := Af.ft; have a4 := Af.fm; have a5 := Af.s0; have a6 := Af.s1; have a7 := Af.t0; have a8 := Af.t1; have a9 := Af.row
    have b1 := Ag.f0; have b2 := Ag.fs; have b3 := Ag.ft; have b4 := Ag.fm; have b5 := Ag.s0; have b6 := Ag.s1; have b7 := Ag.t0; have b8 := Ag.t1; have b9 := Ag.row
    have cu := comp_arr hS (f := (p : Int)) (g := (g : Int)) (by omega) (by omega) (by omega) (by omega) hc2
    have Au := arrP hS cu.1 cu.2
    have u1 := cu.1; have u2 := cu.2; have u3 := Au.fm; have u4 := Au.row
    refine gc_draw (by kernel_rfl) ?_
    refine gdv (qtf underlying27 (z := 0) (off := 2)) ?_
    refine gdv (qtl underlying24 (n := 0)) ?_
    refine gdv (qt_move rfl rfl) ?_
    refine gdv (qti (fun w M => lenA_rd h2)) ?_
    refine gdv (qtd (fun w M => mem_rd M h2)) ?_
    refine gdv (qtf underlying27 (z := 0) (off := 1)) ?_
    refine gdv (qtl underlying24 (n := 0)) ?_
    refine gdv (qt_move rfl rfl) ?_
    refine gdv (qti (fun w M => lenA_rd h1)) ?_
    refine gdv (qtd (fun w M => mem_rd M h1)) ?_
    refine gdv (qt_eql rfl rfl rfl) ?_
    refine gd_splitv (.free rfl) rfl rfl (qt_move rfl rfl) (fun hs11_11 => ?_) (fun hs11_11 => ?_)
    ·try simp only [sA] at hs11_11
     have cv := comp_arr hS (f := (g : Int)) (g := (q : Int)) (by omega) (by omega) (by omega) (by omega) hs11_11
     have v1 := cv.1; have v2 := cv.2
     refine gdvh (qts underlying27 (n := 0)) ?_
     refine gdvh (qts underlying27 (n := 0)) ?_
     refine gdvh (qt_move rfl rfl) ?_
     refine gdvh (qt_move rfl rfl) ?_
     refine gd_q (.held _ _ _ rfl rfl rfl) rfl rfl (qt_call rfl func30 rfl (by decide) rfl (fun w M => then_any w _ _ _ _ (mem_rdC M h0) (by first | assumption | omega) (by first | assumption | omega) (by first | assumption | omega) (by first | assumption | omega))) ?_
     refine gdvh (qt_move rfl rfl) ?_
     refine gd_q (.held _ _ _ rfl rfl rfl) rfl rfl (qt_call rfl func30 rfl (by decide) rfl (fun w M => then_any w _ _ _ _ (mem_rdC M h0) (by first | assumption | omega) (by first | assumption | omega) (by first | assumption | omega) (by first | assumption | omega))) ?_
     refine gdvh (qts underlying27 (n := 0)) ?_
     refine gdvh (qt_move rfl rfl) ?_
     refine gdvh (qts underlying27 (n := 0)) ?_
     refine gdvh (qt_move rfl rfl) ?_
     refine gdvh (qt_move rfl rfl) ?_
     refine gd_q (.held _ _ _ rfl rfl rfl) rfl rfl (qt_call rfl func30 rfl (by decide) rfl (fun w M => then_any w _ _ _ _ (mem_rdC M h0) (by first | assumption | omega) (by first | assumption | omega) (by first | assumption | omega) (by first | assumption | omega))) ?_
     refine gd_q (.held _ _ _ rfl rfl rfl) rfl rfl (qt_call rfl func30 rfl (by decide) rfl (fun w M => then_any w _ _ _ _ (mem_rdC M h0) (by first | assumption | omega) (by first | assumption | omega) (by first | assumption | omega) (by first | assumption | omega))) ?_
     refine gdvh (qt_neq rfl rfl rfl) ?_
     refine gdv (qt_pick_t rfl rfl rfl) ?_
     refine gd_nil ?_
     refine gk_then (hK28 _ _ ?_)
     refine gc_cond rfl (fun hc4 => ?_) (fun hc4 => ?_)
     ·try simp only [sA] at hc4
      refine gc_sr fun K29 hK29 => ?_
      refine gm ?_
      refine gm ?_
      refine gm ?_
      refine gv (qt_build rfl rfl bt_fault) ?_
      refine gop fun K30 hK30 => ?_
      refine gss 1 ?_
      refine hK30 _ _ ?_
      refine gnt (hK29 _ _ ?_)
      refine gc_ret ?_
      refine gk_block_ret ?_
      refine gk_then_ret ?_
      refine gk_then_ret ?_
      refine gk_block_ret ?_
      refine gk_block_ret ?_
      refine gk_then_ret ?_
      refine gk_then_ret ?_
      refine gk_block_ret ?_
      refine gk_block_ret ?_
      refine gk_then_ret ?_
      refine gk_then_ret ?_
      refine gk_block_ret ?_
      refine gk_then_ret ?_
      refine ret_S (n := 1) rfl rfl underlying106 rfl (by kernel_rfl) rfl (fun w M => ?_)
      obtain ⟨rfl, rfl, rfl, rfl⟩ := asP_asc hP ⟨by omega, by omega, by omega, ⟨hc2, hs11_11, hc4⟩, hA1, hA2, hA3⟩; exact ⟨rfl, M.1⟩
     try simp only [sA] at hc4
     refine gc_skip ?_
     refine gk_block ?_
     refine gk_then (hK26 _ _ ?_)
     refine gc_region ?_
     refine gv (qt_add rfl rfl rfl (by omega)) ?_
     refine gm ?_
     refine g_nil ?_
     refine gk_then (gk_take 2 ?_)
     refine gk_sub ?hs_31 (hKL23 (q + 1) ?hi_31 ?hm_31)
     case hs_31 => repeat first | exact sub_nil | refine sub_cons rfl ?_
     case hi_31 => exact ⟨by omega, all_next0 hA3 fun hb => hb.2.2 hc4⟩
     case hm_31 => omega
    try simp only [sA] at hs11_11
    refine gdsk ?_
    refine gdsk ?_
    refine gdsk ?_
    refine gdsk ?_
    refine gdsk ?_
    refine gdsk ?_
    refine gdsk ?_
    refine gdsk ?_
    refine gdsk ?_
    refine gdsk ?_
    refine gdsk ?_
    refine gdsk ?_
    refine gdsk ?_
    refine gdsk ?_
    refine gdsk ?_
    refine gdv (qt_pick_f rfl rfl rfl) ?_
    refine gd_nil ?_
    refine gk_then (hK28 _ _ ?_)
    refine gc_cond_f rfl ?_
    refine gc_skip ?_
    refine gk_block ?_
    refine gk_then (hK26 _ _ ?_)
    refine gc_region ?_
    refine gv (qt_add rfl rfl rfl (by omega)) ?_
    refine gm ?_
    refine g_nil ?_
    refine gk_then (gk_take 2 ?_)
    refine gk_sub ?hs_32 (hKL23 (q + 1) ?hi_32 ?hm_32)
    case hs_32 => repeat first | exact sub_nil | refine sub_cons rfl ?_
    case hi_32 => exact ⟨by omega, all_next0 hA3 fun hb => hs11_11 hb.2.1⟩
    case hm_32 => omega
   try simp only [sA] at hc3
   refine gc_exit ?_
   refine gk_then_exit ?_
   refine gk_then_exit ?_
   refine gk_block_hit ?_
   refine gk_block ?_
   refine gk_then (hK17 _ _ ?_)
   refine gc_region ?_
   refine gv (qt_add rfl rfl rfl (by omega)) ?_
   refine gm ?_
   refine g_nil ?_
   refine gk_then (gk_take 2 ?_)
   refine gk_sub ?hs_33 (hKL14 (g + 1) ?hi_33 ?hm_33)
   case hs_33 => repeat first | exact sub_nil | refine sub_cons rfl ?_
   case hi_33 => exact ⟨by omega, fun g' k' hg hk => by
   rcases Nat.lt_or_ge g' g with h1 | h1
   ·exact hA2 g' k' h1 hk
   ·obtain rfl : g' = g := by omega
    exact hA3 k' (by omega)⟩
   case hm_33 => omega
  try simp only [sA] at hc1
  refine gc_exit ?_
  refine gk_then_exit ?_
  refine gk_then_exit ?_
  refine gk_block_hit ?_
  refine gk_block ?_
  refine gk_then (hK11 _ _ ?_)
  refine gc_region ?_
  refine gv (qt_add rfl rfl rfl (by omega)) ?_
  refine gm ?_
  refine g_nil ?_
  refine gk_then (gk_take 2 ?_)
  refine gk_sub ?hs_34 (hKL8 (p + 1) ?hi_34 ?hm_34)
  case hs_34 => repeat first | exact sub_nil | refine sub_cons rfl ?_
  case hi_34 => exact ⟨by omega, fun f' g' k' hf hg hk => by
   rcases Nat.lt_or_ge f' p with h1 | h1
   ·exact hA1 f' g' k' h1 hg hk
   ·obtain rfl : f' = p := by omega
    exact hA2 g' k' (by omega) hk⟩
  case hm_34 => omega
 try simp only [sA] at hc0
 refine gc_exit ?_
 refine gk_then_exit ?_
 refine gk_then_exit ?_
 refine gk_block_hit ?_
 refine gk_then (hK6 _ _ ?_)
 refine gc_sr fun K35 hK35 => ?_
 refine gv (qt_build rfl rfl bt0_fault) ?_
 refine gop fun K36 hK36 => ?_
 refine gss 1 ?_
 refine hK36 _ _ ?_
 refine gnt (hK35 _ _ ?_)
 refine gc_ret ?_
 refine ret_S (n := 1) rfl rfl underlying106 rfl (by kernel_rfl) rfl (fun w M => ?_)
 obtain ⟨rfl, rfl, rfl, rfl⟩ := asP_no hP (fun f' g' k' a b d => hA1 f' g' k' (by omega) b d); exact ⟨rfl, M.1⟩
end Go.Proofs.Ytbiplocgenppoaa
namespace Go.Proofs.Ytbiplocgenppoaa
open _root_.Go.Proofs.Try
open Go.RowKit
theorem idFP_of {c : Cat} {k f g h : Int} (hp : FaultP c k f g h) : (k = 1 ∧ g = 0 ∧ h = 0 ∧ IdFP c 1 f) ∨ (IdFP c 0 0 ∧ AsP c k f g h) := by
 cases hp with
 | id m hm => exact .inl ⟨rfl, rfl, rfl, .inl ⟨rfl, m, rfl, hm.1, hm.2.1, hm.2.2⟩⟩
 | asc a b d h0 h1 => exact .inr ⟨.inr ⟨rfl, rfl, h0⟩, .asc a b d h1⟩
 | no h0 h1 => exact .inr ⟨.inr ⟨rfl, rfl, h0⟩, .no h1⟩
theorem shape_iff {c : Cat} : fIsShape c = true ↔ ShapeP c := bP_iff
theorem shape_no {c : Cat} (h : fIsShape c = false) : ¬ ShapeP c := fun h' => by rw [shape_iff.2 h'] at h; cases h
theorem isCat_t {c : Cat} (h : fIsShape c = true) (h' : (faultOf c).1 = 0) : fIsCategory c = true := bP_t (isCat_iff.2 ⟨shape_iff.1 h, h'⟩)
theorem isCat_f {c : Cat} (h : fIsShape c = false ∨ (faultOf c).1 ≠ 0) : fIsCategory c = false := bP_f fun hc => by
 obtain ⟨h1, h2⟩ := isCat_iff.1 hc
 rcases h with h | h
 ·exact shape_no h h1
 exact h h2
theorem fault_z {c : Cat} (h : (faultOf c).1 = 0) : (faultOf c).2.1 = 0 ∧ (faultOf c).2.2.1 = 0 ∧ (faultOf c).2.2.2 = 0 := by
 have hz := fault_zero.1 h
 rw [fault_no hz.1 hz.2]
 exact ⟨rfl, rfl, rfl⟩
theorem implFault_id (w : World) (v : Value) (c : Cat) (f : Int) (h : RdC w v c) (hS : ShapeP c) (hP : IdFP c 1 f) :
  Calls Try.prog 78 #[v] w (RetF w 1 f 0 0) := by
 have h0 := h
 obtain ⟨va, vb, vc, vd, ve, vf, vg, vh, rfl, h1, h2, h3, h4, _⟩ := h.lists
 go_enter func78, Try.ntmps78
 refine gc_enter (N := 12) rfl (look_cons (k := 0) rfl (look_nil _)) ?_
 refine gc_sr fun K1 hK1 => ?_
 refine gop fun K3 hK3 => ?_
 refine go_box rfl rfl rfl rfl rfl ?_
 intro B2
 refine hK3 _ _ ?_
 refine gop fun K5 hK5 => ?_
 refine go_alloc (z := (.agg #[.int .i64 0, .int .i64 0, .int .i64 0, .int .i64 0])) (cs := [.int .i64 0, .int .i64 0, .int .i64 0, .int .i64 0]) rfl rfl rfl (fun w => by kernel_rfl) rfl ?_
 intro B4
 refine hK5 _ _ ?_
 refine gnt (hK1 _ _ ?_)
 refine gc_seq fun K6 hK6 => ?_
 refine gc_sr fun K7 hK7 => ?_
 refine gv (qts underlying27 (n := 0)) ?_
 refine g_q (.free rfl) rfl rfl (qt_call rfl func94 rfl (by decide) rfl (fun w M => idFault_any w _ _ _ _ (mem_rdC M h0) (hS) (hP))) ?_
 refine gop fun K9 hK9 => ?_
 refine go_alloc (z := (.agg #[.int .i64 0, .int .i64 0, .int .i64 0, .int .i64 0])) (cs := [.int .i64 0, .int .i64 0, .int .i64 0, .int .i64 0]) rfl rfl rfl (fun w => by kernel_rfl) rfl ?_
 intro B8
 refine hK9 _ _ ?_
 refine gop fun K10 hK10 => ?_
 refine gss 2 ?_
 refine hK10 _ _ ?_
 refine gnt (hK7 _ _ ?_)
 refine gc_sr fun K11 hK11 => ?_
 refine gv (qts underlying106 (n := 2)) ?_
 refine gv (qt_build rfl rfl bt0_fault) ?_
 refine gv (qt_neA rfl rfl rfl (fun w => eqA_fault _ _ _ _ _ _ _ _ w) eqG_fault) ?_
 refine gnt (hK11 _ _ ?_)
 refine gc_cond rfl (fun hc0 => ?_) (fun hc0 => ?_)
 ·try simp only [decide_eq_true_eq, decide_eq_false_iff_not, Bool.not_eq_true', Bool.not_eq_false', Bool.not_eq_eq_eq_not, Bool.not_true, Bool.not_false] at hc0
  refine gc_sr fun K12 hK12 => ?_
  refine gv (qts underlying106 (n := 2)) ?_
  refine gop fun K13 hK13 => ?_
  refine gss 1 ?_
  refine hK13 _ _ ?_
  refine gnt (hK12 _ _ ?_)
  refine gc_ret ?_
  refine gk_then_ret ?_
  refine ret_S (n := 1) rfl rfl underlying106 rfl (by kernel_rfl) rfl (fun w M => ?_)
  exact ⟨rfl, M.1⟩
 try simp only [decide_eq_true_eq, decide_eq_false_iff_not, Bool.not_eq_true', Bool.not_eq_false', Bool.not_eq_eq_eq_not, Bool.not_true, Bool.not_false] at hc0
 exact absurd hc0.1 (by decide)
theorem implFault_as (w : World) (v : Value) (c : Cat) (k f g q : Int) (h : RdC w v c) (hS : ShapeP c) (hP : IdFP c 0 0) (hA : AsP c k f g q) :
  Calls Try.prog 78 #[v] w (RetF w k f g q) := by
 have h0 := h
 obtain ⟨va, vb, vc, vd, ve, vf, vg, vh, rfl, h1, h2, h3, h4, _⟩ := h.lists
 go_enter func78, Try.ntmps78
 refine gc_enter (N := 12) rfl (look_cons (k := 0) rfl (look_nil _)) ?_
 refine gc_sr fun K1 hK1 => ?_
 refine gop fun K3 hK3 => ?_
 refine go_box rfl rfl rfl rfl rfl ?_
 intro B2
 refine hK3 _ _ ?_
 refine gop fun K5 hK5 => ?_
 refine go_alloc (z := (.agg #[.int .i64 0, .int .i64 0, .int .i64 0, .int .i64 0])) (cs := [.int .i64 0, .int .i64 0, .int .i64 0, .int .i64 0]) rfl rfl rfl (fun w => by kernel_rfl) rfl ?_
 intro B4
 refine hK5 _ _ ?_
 refine gnt (hK1 _ _ ?_)
 refine gc_seq fun K6 hK6 => ?_
 refine gc_sr fun K7 hK7 => ?_
 refine gv (qts underlying27 (n := 0)) ?_
 refine g_q (.free rfl) rfl rfl (qt_call rfl func94 rfl (by decide) rfl (fun w M => idFault_any w _ _ _ _ (mem_rdC M h0) (hS) (hP))) ?_
 refine gop fun K9 hK9 => ?_
 refine go_alloc (z := (.agg #[.int .i64 0, .int .i64 0, .int .i64 0, .int .i64 0])) (cs := [.int .i64 0, .int .i64 0, .int .i64 0, .int .i64 0]) rfl rfl rfl (fun w => by kernel_rfl) rfl ?_
 intro B8
 refine hK9 _ _ ?_
 refine gop fun K10 hK10 => ?_
 refine gss 2 ?_
 refine hK10 _ _ ?_
 refine gnt (hK7 _ _ ?_)
 refine gc_sr fun K11 hK11 => ?_
 refine gv (qts underlying106 (n := 2)) ?_
 refine gv (qt_build rfl rfl bt0_fault) ?_
 refine gv (qt_neA rfl rfl rfl (fun w => eqA_fault _ _ _ _ _ _ _ _ w) eqG_fault) ?_
 refine gnt (hK11 _ _ ?_)
 refine gc_cond rfl (fun hc0 => ?_) (fun hc0 => ?_)
 ·try simp only [decide_eq_true_eq, decide_eq_false_iff_not, Bool.not_eq_true', Bool.not_eq_false', Bool.not_eq_eq_eq_not, Bool.not_true, Bool.not_false] at hc0
  simp at hc0
 try simp only [decide_eq_true_eq, decide_eq_false_iff_not, Bool.not_eq_true', Bool.not_eq_false', Bool.not_eq_eq_eq_not, Bool.not_true, Bool.not_false] at hc0
 refine gc_skip ?_
 refine gk_then (hK6 _ _ ?_)
 refine gc_sr fun K12 hK12 => ?_
 refine gv (qts underlying27 (n := 0)) ?_
 refine g_q (.free rfl) rfl rfl (qt_call rfl func95 rfl (by decide) rfl (fun w M => asFault_any w _ _ _ _ _ _ (mem_rdC M h0) (hS) (hA))) ?_
 refine gop fun K13 hK13 => ?_
 refine gss 1 ?_
 refine hK13 _ _ ?_
 refine gnt (hK12 _ _ ?_)
 refine gc_ret ?_
 refine ret_S (n := 1) rfl rfl underlying106 rfl (by kernel_rfl) rfl (fun w M => ?_)
 exact ⟨rfl, M.1⟩
theorem implFault_any (w : World) (v : Value) (c : Cat) (h : RdC w v c) (hS : ShapeP c) :
  Calls Try.prog 78 #[v] w (RetF w (faultOf c).1 (faultOf c).2.1 (faultOf c).2.2.1 (faultOf c).2.2.2) := by
 have hp := faultP_of c
 generalize (faultOf c).1 = k at hp ⊢
 generalize (faultOf c).2.1 = f at hp ⊢
 generalize (faultOf c).2.2.1 = g at hp ⊢
 generalize (faultOf c).2.2.2 = q at hp ⊢
 rcases idFP_of hp with ⟨rfl, rfl, rfl, hi⟩ | ⟨hi, ha⟩
 ·exact implFault_id w v c f h hS hi
 exact implFault_as w v c k f g q h hS hi ha
theorem specIs_any (w : World) (v : Value) (c : Cat) (h : RdC w v c) :
  Calls Try.prog 43 #[v] w (RetB w (fIsCategory c)) := by
 have h0 := h
 obtain ⟨va, vb, vc, vd, ve, vf, vg, vh, rfl, h1, h2, h3, h4, _⟩ := h.lists
 go_enter func43, Try.ntmps43
 refine gc_enter (N := 19) rfl (look_cons (k := 0) rfl (look_nil _)) ?_
 refine gc_sr fun K1 hK1 => ?_
 refine gop fun K3 hK3 => ?_
 refine go_box rfl rfl rfl rfl rfl ?_
 intro B2
 refine hK3 _ _ ?_
 refine gas ?_
 refine gnt (hK1 _ _ ?_)
 refine gc_seq fun K4 hK4 => ?_
 refine gc_sr fun K5 hK5 => ?_
 refine gv (qts underlying27 (n := 0)) ?_
 refine g_q (.free rfl) rfl rfl (qt_call rfl func66 rfl (by decide) rfl (fun w M => spec_IsShape w _ _ (mem_rdC M h0))) ?_
 refine gv (qt_not rfl rfl) ?_
 refine gnt (hK5 _ _ ?_)
 refine gc_cond rfl (fun hc0 => ?_) (fun hc0 => ?_)
 ·try simp only [decide_eq_true_eq, decide_eq_false_iff_not, Bool.not_eq_true', Bool.not_eq_false', Bool.not_eq_eq_eq_not, Bool.not_true, Bool.not_false] at hc0
  refine gc_sr fun K6 hK6 => ?_
  refine gas ?_
  refine gnt (hK6 _ _ ?_)
  refine gc_ret ?_
  refine gk_then_ret ?_
  refine ret_1 rfl rfl  (fun w M => ?_)
  rw [isCat_f (.inl hc0)]; exact ⟨rfl, M.1⟩
 try simp only [decide_eq_true_eq, decide_eq_false_iff_not, Bool.not_eq_true', Bool.not_eq_false', Bool.not_eq_eq_eq_not, Bool.not_true, Bool.not_false] at hc0
 refine gc_skip ?_
 refine gk_then (hK4 _ _ ?_)
 refine gc_sr fun K7 hK7 => ?_
 refine gv (qts underlying27 (n := 0)) ?_
 refine g_q (.free rfl) rfl rfl (qt_call rfl func67 rfl (by decide) rfl (fun w M => specFault_any w _ _ _ _ _ _ (mem_rdC M h0) (shape_iff.1 hc0) (faultP_of c))) ?_
 refine gm ?_
 refine gv (qt_extract rfl rfl rfl) ?_
 refine gv (qt_extract rfl rfl rfl) ?_
 refine gv (qt_extract rfl rfl rfl) ?_
 refine gv (qt_extract rfl rfl rfl) ?_
 refine gas ?_
 refine gas ?_
 refine gas ?_
 refine gas ?_
 refine gnt (hK7 _ _ ?_)
 refine gc_sr fun K8 hK8 => ?_
 refine gm ?_
 refine gv (qt_eql rfl rfl rfl) ?_
 refine gas ?_
 refine gnt (hK8 _ _ ?_)
 refine gc_ret ?_
 refine ret_1 rfl rfl  (fun w M => ?_)
 refine ⟨?_, M.1⟩; by_cases hz : (faultOf c).1 = 0
 ·rw [isCat_t hc0 hz, decide_eq_true hz]
 rw [isCat_f (.inr hz), decide_eq_false hz]
theorem impl_IsCategory (w : World) (v : Value) (c : Cat) (h : RdC w v c) :
  Calls Try.prog 55 #[v] w (RetB w (fIsCategory c)) := by
 have h0 := h
 obtain ⟨va, vb, vc, vd, ve, vf, vg, vh, rfl, h1, h2, h3, h4, _⟩ := h.lists
 go_enter func55, Try.ntmps55
 refine gc_enter (N := 11) rfl (look_cons (k := 0) rfl (look_nil _)) ?_
 refine gc_sr fun K1 hK1 => ?_
 refine gop fun K3 hK3 => ?_
 refine go_box rfl rfl rfl rfl rfl ?_
 intro B2
 refine hK3 _ _ ?_
 refine gas ?_
 refine gnt (hK1 _ _ ?_)
 refine gc_sr fun K4 hK4 => ?_
 refine gv (qts underlying27 (n := 0)) ?_
 refine g_q (.free rfl) rfl rfl (qt_call rfl func77 rfl (by decide) rfl (fun w M => impl_IsShape w _ _ (mem_rdC M h0))) ?_
 refine g_splitv (.free rfl) rfl rfl (qt_move rfl rfl) (fun hs1_2 => ?_) (fun hs1_2 => ?_)
 ·try simp only [decide_eq_true_eq, decide_eq_false_iff_not, Bool.not_eq_true', Bool.not_eq_false', Bool.not_eq_eq_eq_not, Bool.not_true, Bool.not_false] at hs1_2
  refine gvh (qts underlying27 (n := 0)) ?_
  refine g_q (.held _ _ _ rfl rfl rfl) rfl rfl (qt_call rfl func78 rfl (by decide) rfl (fun w M => implFault_any w _ _ (mem_rdC M h0) (shape_iff.1 hs1_2))) ?_
  refine gvh (qt_build rfl rfl bt0_fault) ?_
  refine gvh (qt_eqA rfl rfl rfl (fun w => eqA_fault _ _ _ _ _ _ _ _ w) eqG_fault) ?_
  refine gv (qt_pick_t rfl rfl rfl) ?_
  refine gas ?_
  refine gnt (hK4 _ _ ?_)
  refine gc_ret ?_
  refine ret_1 rfl rfl  (fun w M => ?_)
  refine ⟨?_, M.1⟩
  by_cases hz : (faultOf c).1 = 0
  ·rw [isCat_t hs1_2 hz, decide_eq_true ⟨hz, (fault_z hz).1, (fault_z hz).2.1, (fault_z hz).2.2⟩]
  rw [isCat_f (.inr hz), decide_eq_false (fun h => hz h.1)]
 try simp only [decide_eq_true_eq, decide_eq_false_iff_not, Bool.not_eq_true', Bool.not_eq_false', Bool.not_eq_eq_eq_not, Bool.not_true, Bool.not_false] at hs1_2
 refine gsk ?_
 refine gsk ?_
 refine gsk ?_
 refine gsk ?_
 refine gv (qt_pick_f rfl rfl rfl) ?_
 refine gas ?_
 refine gnt (hK4 _ _ ?_)
 refine gc_ret ?_
 refine ret_1 rfl rfl  (fun w M => ?_)
 rw [isCat_f (.inl hs1_2)]; exact ⟨rfl, M.1⟩
end Go.Proofs.Ytbiplocgenppoaa
