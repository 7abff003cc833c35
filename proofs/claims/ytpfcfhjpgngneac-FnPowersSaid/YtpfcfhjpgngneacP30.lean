import Derived.Test.YtpfcfhjpgngneacP28
import Derived.Test.YtpfcfhjpgngneacP29
set_option linter.unusedSimpArgs false
set_option linter.unusedVariables false
set_option linter.unusedSectionVars false
namespace Go.Proofs.Ytpfcfhjpgngneac
open Go.RowKit
structure PowF (c : Cat) (f : Int) (K i : Nat) : Prop where
  hi : i ≤ K
  hK : K + 1 ≤ c.s.length
  n40 : c.s.length ≤ 40
  eq : pw c f (K + 1) = pw c f i
  no : ∀ j, j < K → ¬ cycP c f j
  comp : ∀ k, fCompositeOf c (pw c f k) f = (pw c f (k + 1), 0)
  idem : bP (idemP c f) = decide (i = 0 ∧ K = 0)
  fid : fIsIdempotent c f = (bP (idemP c f), 0)
theorem pow_facts {c : Cat} {f A B r : Int} (h : fPowerCycle c f = (A, B, r)) (hr : r = 0) : ∃ K i, PowF c f K i ∧ A = (i : Int) + 1 ∧ B = (K : Int) + 1 - i := by
  subst hr
  have hz : arrErr c [f] = 0 := Classical.byContradiction fun hn => by
    rw [PowerCycle_e hn] at h; exact hn (congrArg (fun p => p.2.2) h)
  have hen : at0 c.s f = at0 c.t f := Classical.byContradiction fun hn => by
    rw [PowerCycle_s hz hn] at h; exact absurd (show (5 : Int) = 0 from congrArg (fun p => p.2.2) h) (by decide)
  rw [PowerCycle_t hz hen] at h
  have hE := arrErr_0 hz
  have hS := hE.1.toShapeP
  have hc : fIsCategory c = true := by
    cases hb : fIsCategory c
    · rw [arrErr_f hb] at hz; cases hz
    · rfl
  obtain ⟨f0, f1⟩ := allP_one.1 hE.2
  have hex : ∃ k, cycP c f k := Classical.byContradiction fun hn => by
    have := pwL_bound hS f0 f1 hen (k := c.s.length) fun j _ hj => hn ⟨j, hj⟩
    omega
  obtain ⟨k, hk⟩ := hex
  have hst := (leastN_spec hk).1
  have hno : ∀ j, j < stopP c f → ¬ cycP c f j := fun j hj hc => by have := (leastN_spec hc).2; unfold stopP at hj; omega
  have hmem : pw c f (stopP c f + 1) ∈ pwL c f (stopP c f + 1) := hst
  have hidx : (pwL c f (stopP c f + 1)).idxOf (pw c f (stopP c f + 1)) < stopP c f + 1 := by
    have := List.idxOf_lt_length_iff.2 hmem; rwa [pwL_len] at this
  have hI : idxI (pwL c f (stopP c f + 1)) (pw c f (stopP c f + 1)) = ((pwL c f (stopP c f + 1)).idxOf (pw c f (stopP c f + 1)) : Nat) := by unfold idxI; rw [if_pos hmem]
  generalize hi : (pwL c f (stopP c f + 1)).idxOf (pw c f (stopP c f + 1)) = i at hidx hI
  have hat : pw c f (stopP c f + 1) = pw c f i := by
    have hl : i < (pwL c f (stopP c f + 1)).length := by rw [pwL_len]; exact hidx
    have h1 : (pwL c f (stopP c f + 1))[i] = pw c f (stopP c f + 1) := by subst hi; exact List.getElem_idxOf (by rw [pwL_len]; exact hidx)
    rw [← h1]; simp [pwL, tabTo]
  have hb := pwL_bound hS f0 f1 hen hno
  refine ⟨stopP c f, i, ⟨by omega, hb, hS.n40, hat, hno, fun k => ?_, ?_, ?_⟩, ?_, ?_⟩
  · have hp := pw_in hS f0 f1 hen k
    exact comp_t (arrErr_t hc (allP_two.2 ⟨⟨hp.1, hp.2.1⟩, f0, f1⟩)) (by rw [hp.2.2.2])
  · rw [← bP_dec]
    refine bP_congr ⟨fun hd => ?_, fun hd => ?_⟩
    · have h1 : cycP c f 0 := by
        show pw c f 1 ∈ pwL c f 1
        rw [pwL_one, show pw c f 1 = f from hd]; simp
      have h2 : stopP c f = 0 := by have := (leastN_spec h1).2; unfold stopP; omega
      omega
    · obtain ⟨rfl, h2⟩ := hd
      rw [h2] at hat
      exact hat
  · unfold fIsIdempotent; rw [if_pos hz]
  · have := congrArg (fun p => p.1) h
    simp only at this
    rw [← this]; unfold cycA; rw [hI]
  · have := congrArg (fun p => p.2.1) h
    simp only at this
    rw [← this]; unfold cycB; rw [hI]
theorem bigP_any (w : World) (a : Option Addr) (len cap : Nat) (hl : len ≤ 9223372036854775807) : Calls Try.prog 11 #[.slice a len cap] w (RetB w (decide (4096 < (len : Int)))) := by
  go_enter Try.func11, Try.ntmps11
  go_wp2
  go_ret
  exact ⟨by simp, (Below.refl _ _)⟩
theorem run_equalIn_boolP (w : World) (d : Nat) (t : TypeId) (a b : Bool) (h : Try.prog.underlying t = some .bool) : (Op.equalIn (d + 1) t (.bool a) (.bool b)).run Try.prog w = .ok (a == b) w := by simp [Op.equalIn, run_underlying h, Sem.run_bind, Sem.run_pure]
theorem run_equal_boolP (w : World) (t : TypeId) (a b : Bool) (h : Try.prog.underlying t = some .bool) : (Op.equal t (.bool a) (.bool b)).run Try.prog w = .ok (a == b) w := run_equalIn_boolP w 9999 t a b h
section
variable {w0 : World} {is : List Itm} {o : Oper} {e : Env}
theorem qt_eqBB_t {x y : Operand} {t u : TypeId} {a b : Bool} (hop : o.op = .binOp .eql t x y u) (hx : evo e x = some (.bool a)) (hy : evo e y = some (.bool b)) (ht : Try.prog.underlying t = some .bool) (h : a = b) : QV w0 is o e (.bool true) :=
  fun w ac M F => by
    have hx := F _ _ hx; have hy := F _ _ hy
    subst h
    simp [execOp, hop, hx, hy, eqGuard, binOp, Sem.run_bind, Sem.run_pure, run_equal_boolP w t a a ht]
end
theorem at0_memP {xs : List Int} {j : Nat} (h : j < xs.length) : at0 xs (j : Int) ∈ xs := by rw [at0_nat]; exact mem_getD h
set_option maxHeartbeats 1000000 in
set_option maxRecDepth 100000 in
theorem hasIntP_any (w : World) (v : Value) (p : List Int) (h : Rd w v p) (x : Int) :
    Calls Try.prog 22 #[v, .int .i64 x] w (RetB w (bP (x ∈ p))) := by
  obtain ⟨va, vc, rfl⟩ := rd_form h
  have hxl : p.length ≤ 17592186044415 := by obtain ⟨_, _, _, hl, _⟩ := h; exact hl
  go_enter Try.func22, Try.ntmps22
  refine gc_enter (N := 18) rfl (look_cons (k := 0) rfl (look_cons (k := 1) rfl (look_nil _))) ?_
  refine gc_seq fun K1 hK1 => ?_
  refine gc_region ?_
  refine g_v (.free rfl) rfl rfl (qt_assign rfl rfl) ?_
  refine g_nil ?_
  refine gk_then (hK1 _ _ ?_)
  refine gc_seq fun K2 hK2 => ?_
  refine gc_seq fun K3 hK3 => ?_
  refine gc_region ?_
  refine g_v (.free rfl) rfl rfl (qt_assign rfl rfl) ?_
  refine g_nil ?_
  refine gk_then (hK3 _ _ ?_)
  refine gc_block ?_
  try simp only [List.nil_append, List.cons_append, List.append_assoc, List.set_cons_succ, List.set_cons_zero]
  refine gc_loop ([(0, _), (1, _)] : Env) (fun s : Nat => (fun (k : Nat) => ([(5, .int .i64 (k : Int))] : Env)) s) (fun s : Nat => (fun (k : Nat) => ([] : List (Nat × Itm))) s) (fun s : Nat => (fun (k : Nat) => k ≤ p.length ∧ ∀ j : Nat, j < k → at0 p (j : Int) ≠ x) s) (fun s : Nat => (fun (k : Nat) => p.length - k) s) (0) (sub_cons rfl (sub_cons rfl (sub_cons rfl sub_nil))) rfl ⟨Nat.zero_le _, fun j hj => absurd hj (by omega)⟩ ?_
  rintro k hinv KL4 hKL4
  simp only [updL, List.foldl_cons, List.foldl_nil, List.set_cons_succ, List.set_cons_zero, List.cons_append, List.nil_append] at hinv hKL4 ⊢
  obtain ⟨hk, hall⟩ := hinv
  refine gc_seq fun K5 hK5 => ?_
  refine gc_seq fun K6 hK6 => ?_
  refine gc_region ?_
  refine g_v (.free rfl) rfl rfl (qt_move rfl rfl) ?_
  refine g_v (.free rfl) rfl rfl (qt_move rfl rfl) ?_
  refine g_v (.free rfl) rfl rfl (qt_len rfl rfl ulE1 (fun w M => lenV_rd h)) ?_
  refine g_v (.free rfl) rfl rfl (qt_lss rfl rfl rfl) ?_
  refine g_nil ?_
  refine gk_then (hK6 _ _ ?_)
  refine gc_cond rfl (fun hc0 => ?_) (fun hc0 => ?_)
  · try simp only [decide_eq_true_eq, decide_eq_false_iff_not, Bool.not_eq_true', Bool.not_eq_false', Bool.not_eq_eq_eq_not, Bool.not_true, Bool.not_false, ne_eq, Decidable.not_not, Classical.not_not] at hc0
    refine gc_skip ?_
    refine gk_then (hK5 _ _ ?_)
    refine gc_seq fun K7 hK7 => ?_
    refine gc_block ?_
    refine gc_seq fun K8 hK8 => ?_
    refine gc_region ?_
    refine g_v (.free rfl) rfl rfl (qt_move rfl rfl) ?_
    refine g_v (.free rfl) rfl rfl (qt_move rfl rfl) ?_
    refine g_v (.free rfl) rfl rfl (qt_index rfl rfl rfl ulE1 szE1 (fun w M => lenA_rd h) (by omega) (by omega)) ?_
    refine g_v (.free rfl) rfl rfl (qt_load1 rfl rfl Try.underlying2 rfl (fun w M => mem_rd M h) (by omega) (by omega)) ?_
    refine g_v (.free rfl) rfl rfl (qt_move rfl rfl) ?_
    refine g_v (.free rfl) rfl rfl (qt_eql rfl rfl rfl) ?_
    refine g_nil ?_
    refine gk_then (hK8 _ _ ?_)
    refine gc_cond rfl (fun hc1 => ?_) (fun hc1 => ?_)
    · try simp only [decide_eq_true_eq, decide_eq_false_iff_not, Bool.not_eq_true', Bool.not_eq_false', Bool.not_eq_eq_eq_not, Bool.not_true, Bool.not_false, ne_eq, Decidable.not_not, Classical.not_not] at hc1
      refine gc_seq fun K9 hK9 => ?_
      refine gc_region ?_
      refine g_v (.free rfl) rfl rfl (qt_assign rfl rfl) ?_
      refine g_nil ?_
      refine gk_then (hK9 _ _ ?_)
      refine gc_ret ?_
      refine gk_block_ret ?_
      refine gk_then_ret ?_
      refine gk_then_ret ?_
      refine gk_block_ret ?_
      refine gk_then_ret ?_
      refine ret_1 rfl rfl  (fun w M => ?_)
      rw [bP_t (show x ∈ p by rw [← hc1]; exact at0_memP (by omega))]; exact ⟨rfl, M.1⟩
    · try simp only [decide_eq_true_eq, decide_eq_false_iff_not, Bool.not_eq_true', Bool.not_eq_false', Bool.not_eq_eq_eq_not, Bool.not_true, Bool.not_false, ne_eq, Decidable.not_not, Classical.not_not] at hc1
      refine gc_skip ?_
      refine gk_block ?_
      refine gk_then (hK7 _ _ ?_)
      refine gc_region ?_
      refine g_v (.free rfl) rfl rfl (qt_move rfl rfl) ?_
      refine g_v (.free rfl) rfl rfl (qt_add rfl rfl rfl (by omega)) ?_
      refine g_v (.free rfl) rfl rfl (qt_assign rfl rfl) ?_
      refine g_nil ?_
      refine gk_then (gk_take 0 ?_)
      refine gk_sub ?hs_10 (hKL4 (k + 1) ?hi_10 ?hm_10)
      case hs_10 => exact (sub_cons rfl (sub_cons rfl (sub_cons rfl sub_nil)))
      case hi_10 => exact ⟨by omega, all_next hall (by assumption)⟩
      case hm_10 => omega
  · try simp only [decide_eq_true_eq, decide_eq_false_iff_not, Bool.not_eq_true', Bool.not_eq_false', Bool.not_eq_eq_eq_not, Bool.not_true, Bool.not_false, ne_eq, Decidable.not_not, Classical.not_not] at hc0
    refine gc_exit ?_
    refine gk_then_exit ?_
    refine gk_then_exit ?_
    refine gk_block_hit ?_
    refine gk_then (hK2 _ _ ?_)
    refine gc_seq fun K11 hK11 => ?_
    refine gc_region ?_
    refine g_v (.free rfl) rfl rfl (qt_assign rfl rfl) ?_
    refine g_nil ?_
    refine gk_then (hK11 _ _ ?_)
    refine gc_ret ?_
    refine ret_1 rfl rfl  (fun w M => ?_)
    obtain rfl : k = p.length := by omega
    rw [bP_f (fun hm : x ∈ p => by obtain ⟨j, hj, he⟩ := List.getElem_of_mem hm; exact hall j hj (by rw [at0_nat, List.getD_eq_getElem?_getD, List.getElem?_eq_getElem hj]; exact he))]; exact ⟨rfl, M.1⟩
set_option maxHeartbeats 8000000 in
set_option maxRecDepth 100000 in
theorem powWalk (w : World) (ca : Option Addr) (clen ccap : Nat) (h : InB w (.slice ca clen ccap)) (hcl : clen ≤ 9223372036854775807) :
    Calls Try.prog 4 #[.slice ca clen ccap] w (RetB w true) := by
  go_enter Try.func4, Try.ntmps4
  refine gc_enter (N := 123) rfl (look_cons (k := 0) rfl (look_nil _)) ?_
  refine gc_seq fun K1 hK1 => ?_
  refine gc_region ?_
  refine g_v (.free rfl) rfl rfl (qt_assign rfl rfl) ?_
  refine g_nil ?_
  refine gk_then (hK1 _ _ ?_)
  refine gc_seq fun K2 hK2 => ?_
  refine gc_seq fun K3 hK3 => ?_
  refine gc_region ?_
  refine g_v (.free rfl) rfl rfl (qt_move rfl rfl) ?_
  refine g_q (.free rfl) rfl rfl (qt_call rfl Try.func11 rfl (by decide) rfl (fun w M => bigP_any w _ _ _ (by first | assumption | omega))) ?_
  refine g_nil ?_
  refine gk_then (hK3 _ _ ?_)
  refine gc_cond rfl (fun hc0 => ?_) (fun hc0 => ?_)
  · try simp only [decide_eq_true_eq, decide_eq_false_iff_not, Bool.not_eq_true', Bool.not_eq_false', Bool.not_eq_eq_eq_not, Bool.not_true, Bool.not_false, ne_eq, Decidable.not_not, Classical.not_not] at hc0
    refine gc_seq fun K4 hK4 => ?_
    refine gc_region ?_
    refine g_v (.free rfl) rfl rfl (qt_assign rfl rfl) ?_
    refine g_nil ?_
    refine gk_then (hK4 _ _ ?_)
    refine gc_ret ?_
    refine gk_then_ret ?_
    refine ret_1 rfl rfl  (fun w M => ?_)
    exact ⟨rfl, M.1⟩
  · try simp only [decide_eq_true_eq, decide_eq_false_iff_not, Bool.not_eq_true', Bool.not_eq_false', Bool.not_eq_eq_eq_not, Bool.not_true, Bool.not_false, ne_eq, Decidable.not_not, Classical.not_not] at hc0
    refine gc_skip ?_
    refine gk_then (hK2 _ _ ?_)
    refine gc_seq fun K5 hK5 => ?_
    refine gc_region ?_
    refine g_v (.free rfl) rfl rfl (qt_move rfl rfl) ?_
    refine g_op (.free rfl) fun K7 hK7 => ?_
    refine go_callHV (α := Int) (P := fun c x => DrawP c ∧ NumP x) (V := fun x v => .tuple #[v, .int .i64 x]) rfl rfl rfl Try.func18 rfl (by decide) rfl (fun w M => drawPowerCycle_any w ca clen ccap (inb_below M.1 h)) ?_
    intro c f ca1 cb1 cc1 cd1 ce1 cf1 cg1 ch1 hdraw
    refine hK7 _ _ ?_
    refine g_v (.free rfl) rfl rfl (qt_move rfl rfl) ?_
    refine g_v (.free rfl) rfl rfl (qt_extract rfl rfl rfl) ?_
    refine g_v (.free rfl) rfl rfl (qt_extract rfl rfl rfl) ?_
    refine g_op (.free rfl) fun K9 hK9 => ?_
    refine go_alloc (z := (.agg #[.int .i64 0, .slice none 0 0, .slice none 0 0, .slice none 0 0, .slice none 0 0])) (cs := [.int .i64 0, .slice none 0 0, .slice none 0 0, .slice none 0 0, .slice none 0 0]) rfl rfl rfl (fun w => by kernel_rfl) rfl ?_
    intro B8
    refine hK9 _ _ ?_
    refine g_op (.free rfl) fun K10 hK10 => ?_
    refine go_storeS (n := 1) rfl rfl rfl rfl (by kernel_rfl) rfl rfl rfl ?_
    refine hK10 _ _ ?_
    refine g_v (.free rfl) rfl rfl (qt_assign rfl rfl) ?_
    refine g_nil ?_
    refine gk_then (hK5 _ _ ?_)
    refine gc_seq fun K11 hK11 => ?_
    obtain ⟨A, B, r, hP⟩ : ∃ A B r, fPowerCycle c f = (A, B, r) := ⟨_, _, _, rfl⟩
    have HPi := fun (w : World) (v : Value) (h1 : RdC w v c) => impl_PowerCycle w v c f h1
    simp only [hP] at HPi
    have HPs := fun (w : World) (v : Value) (h1 : RdC w v c) => spec_PowerCycle w v c f h1
    simp only [hP] at HPs
    refine gc_region ?_
    refine g_v (.free rfl) rfl rfl (qt_loadS (n := 1) rfl rfl Try.underlying27 rfl (by kernel_rfl) rfl) ?_
    refine g_v (.free rfl) rfl rfl (qt_move rfl rfl) ?_
    refine g_q (.free rfl) rfl rfl (qt_call rfl Try.func19 rfl (by decide) rfl (fun w M => HPi w _ (mem_held (n := 0) M rfl))) ?_
    refine g_v (.free rfl) rfl rfl (qt_move rfl rfl) ?_
    refine g_v (.free rfl) rfl rfl (qt_extract rfl rfl rfl) ?_
    refine g_v (.free rfl) rfl rfl (qt_extract rfl rfl rfl) ?_
    refine g_v (.free rfl) rfl rfl (qt_extract rfl rfl rfl) ?_
    refine g_v (.free rfl) rfl rfl (qt_assign rfl rfl) ?_
    refine g_v (.free rfl) rfl rfl (qt_assign rfl rfl) ?_
    refine g_v (.free rfl) rfl rfl (qt_assign rfl rfl) ?_
    refine g_nil ?_
    refine gk_then (hK11 _ _ ?_)
    refine gc_seq fun K12 hK12 => ?_
    refine gc_region ?_
    refine g_v (.free rfl) rfl rfl (qt_loadS (n := 1) rfl rfl Try.underlying27 rfl (by kernel_rfl) rfl) ?_
    refine g_v (.free rfl) rfl rfl (qt_move rfl rfl) ?_
    refine g_q (.free rfl) rfl rfl (qt_call rfl Try.func20 rfl (by decide) rfl (fun w M => HPs w _ (mem_held (n := 0) M rfl))) ?_
    refine g_v (.free rfl) rfl rfl (qt_move rfl rfl) ?_
    refine g_v (.free rfl) rfl rfl (qt_extract rfl rfl rfl) ?_
    refine g_v (.free rfl) rfl rfl (qt_extract rfl rfl rfl) ?_
    refine g_v (.free rfl) rfl rfl (qt_extract rfl rfl rfl) ?_
    refine g_v (.free rfl) rfl rfl (qt_assign rfl rfl) ?_
    refine g_v (.free rfl) rfl rfl (qt_assign rfl rfl) ?_
    refine g_v (.free rfl) rfl rfl (qt_assign rfl rfl) ?_
    refine g_nil ?_
    refine gk_then (hK12 _ _ ?_)
    refine gc_seq fun K13 hK13 => ?_
    refine gc_seq fun K14 hK14 => ?_
    refine gc_region ?_
    refine g_v (.free rfl) rfl rfl (qt_move rfl rfl) ?_
    refine g_v (.free rfl) rfl rfl (qt_move rfl rfl) ?_
    refine g_v (.free rfl) rfl rfl (qt_neq_f rfl rfl rfl (fun h => h rfl)) ?_
    refine g_v (.free rfl) rfl rfl (qt_move rfl rfl) ?_
    refine g_v (.held _ _ _ rfl rfl rfl) rfl rfl (qt_move rfl rfl) ?_
    refine g_v (.held _ _ _ rfl rfl rfl) rfl rfl (qt_move rfl rfl) ?_
    refine g_v (.held _ _ _ rfl rfl rfl) rfl rfl (qt_neq_f rfl rfl rfl (fun h => h rfl)) ?_
    refine g_v (.free rfl) rfl rfl (qt_pick_f rfl rfl rfl) ?_
    refine g_v (.free rfl) rfl rfl (qt_move rfl rfl) ?_
    refine g_v (.held _ _ _ rfl rfl rfl) rfl rfl (qt_move rfl rfl) ?_
    refine g_v (.held _ _ _ rfl rfl rfl) rfl rfl (qt_move rfl rfl) ?_
    refine g_v (.held _ _ _ rfl rfl rfl) rfl rfl (qt_neq_f rfl rfl rfl (fun h => h rfl)) ?_
    refine g_v (.free rfl) rfl rfl (qt_pick_f rfl rfl rfl) ?_
    refine g_nil ?_
    refine gk_then (hK14 _ _ ?_)
    refine gc_cond_f rfl ?_
    refine gc_skip ?_
    refine gk_then (hK13 _ _ ?_)
    refine gc_seq fun K15 hK15 => ?_
    refine gc_seq fun K16 hK16 => ?_
    refine gc_region ?_
    refine g_v (.free rfl) rfl rfl (qt_move rfl rfl) ?_
    refine g_v (.free rfl) rfl rfl (qt_neq rfl rfl rfl) ?_
    refine g_nil ?_
    refine gk_then (hK16 _ _ ?_)
    refine gc_cond rfl (fun hc1 => ?_) (fun hc1 => ?_)
    · try simp only [decide_eq_true_eq, decide_eq_false_iff_not, Bool.not_eq_true', Bool.not_eq_false', Bool.not_eq_eq_eq_not, Bool.not_true, Bool.not_false, ne_eq, Decidable.not_not, Classical.not_not] at hc1
      refine gc_seq fun K17 hK17 => ?_
      refine gc_region ?_
      refine g_v (.free rfl) rfl rfl (qt_assign rfl rfl) ?_
      refine g_nil ?_
      refine gk_then (hK17 _ _ ?_)
      refine gc_ret ?_
      refine gk_then_ret ?_
      refine ret_1 rfl rfl  (fun w M => ?_)
      exact ⟨rfl, M.1⟩
    · try simp only [decide_eq_true_eq, decide_eq_false_iff_not, Bool.not_eq_true', Bool.not_eq_false', Bool.not_eq_eq_eq_not, Bool.not_true, Bool.not_false, ne_eq, Decidable.not_not, Classical.not_not] at hc1
      refine gc_skip ?_
      refine gk_then (hK15 _ _ ?_)
      refine gc_seq fun K18 hK18 => ?_
      obtain ⟨K, i, pf, hA, hB⟩ := pow_facts hP (by omega)
      have hi := pf.hi; have hK := pf.hK; have hn40 := pf.n40
      have HI := fun (w : World) (v : Value) (h1 : RdC w v c) => impl_IsIdempotent w v c f h1
      simp only [pf.fid] at HI
      refine gc_region ?_
      refine g_v (.free rfl) rfl rfl (qt_move rfl rfl) ?_
      refine g_op (.free rfl) fun K20 hK20 => ?_
      refine go_slice1 rfl rfl rfl rfl Try.underlying24 ?_
      intro B19
      refine hK20 _ _ ?_
      refine g_v (.free rfl) rfl rfl (qt_assign rfl rfl) ?_
      refine g_nil ?_
      refine gk_then (hK18 _ _ ?_)
      refine gc_seq fun K21 hK21 => ?_
      refine gc_block ?_
      try simp only [List.nil_append, List.cons_append, List.append_assoc, List.set_cons_succ, List.set_cons_zero]
      refine gc_loop ([(0, _), (3, _), (4, _), (5, _), (6, _), (7, _), (8, _), (9, _), (10, _), (17, _), (49, _), (51, _)] : Env) (fun s : Nat × (Option Addr) × Nat => (fun (k : Nat) (a : Option Addr) (q : Nat) => ([(11, .slice a (pwL c f (k + 1)).length q)] : Env)) s.1 s.2.1 s.2.2) (fun s : Nat × (Option Addr) × Nat => (fun (k : Nat) (a : Option Addr) (q : Nat) => ([(2, own1I (.slice a (pwL c f (k + 1)).length q) (pwL c f (k + 1)))] : List (Nat × Itm))) s.1 s.2.1 s.2.2) (fun s : Nat × (Option Addr) × Nat => (fun (k : Nat) (a : Option Addr) (q : Nat) => k ≤ K + 1) s.1 s.2.1 s.2.2) (fun s : Nat × (Option Addr) × Nat => (fun (k : Nat) (a : Option Addr) (q : Nat) => K + 1 - k) s.1 s.2.1 s.2.2) (0, _, _) (sub_cons rfl (sub_cons rfl (sub_cons rfl (sub_cons rfl (sub_cons rfl (sub_cons rfl (sub_cons rfl (sub_cons rfl (sub_cons rfl (sub_cons rfl (sub_cons rfl (sub_cons rfl (sub_cons rfl sub_nil))))))))))))) rfl (Nat.zero_le _) ?_
      rintro ⟨k, a, q⟩ hinv KL22 hKL22
      simp only [updL, List.foldl_cons, List.foldl_nil, List.set_cons_succ, List.set_cons_zero, List.cons_append, List.nil_append] at hinv hKL22 ⊢
      have hk := hinv
      have hl := pwL_len c f (k + 1)
      have hat := pw_at (c := c) (f := f) (k := k) (y := ((pwL c f (k + 1)).length : Int) - 1) (by rw [hl])
      have hcm : fCompositeOf c (at0 (pwL c f (k + 1)) (((pwL c f (k + 1)).length : Int) - 1)) f = (pw c f (k + 1), 0) := by rw [hat]; exact pf.comp k
      have HC := fun (w : World) (v : Value) (h1 : RdC w v c) => impl_CompositeOf w v c (at0 (pwL c f (k + 1)) (((pwL c f (k + 1)).length : Int) - 1)) f h1
      simp only [hcm] at HC
      have HH : ∀ (w : World) (v : Value) (h1 : Rd w v (pwL c f (k + 1))) (hk : k < K), Calls Try.prog 22 #[v, .int .i64 (pw c f (k + 1))] w (RetB w false) := fun w v h1 hk => by have := hasIntP_any w v _ h1 (pw c f (k + 1)); rwa [bP_f (show ¬ pw c f (k + 1) ∈ pwL c f (k + 1) from pf.no k hk)] at this
      refine gc_seq fun K23 hK23 => ?_
      refine gc_seq fun K24 hK24 => ?_
      refine gc_region ?_
      refine g_v (.free rfl) rfl rfl (qt_move rfl rfl) ?_
      refine g_v (.free rfl) rfl rfl (qt_len rfl rfl ulE1 (fun w M => lenV_own1 (n := 2) rfl M)) ?_
      refine g_v (.free rfl) rfl rfl (qt_move rfl rfl) ?_
      refine g_v (.free rfl) rfl rfl (qt_move rfl rfl) ?_
      refine g_v (.free rfl) rfl rfl (qt_add rfl rfl rfl (by omega)) ?_
      refine g_v (.free rfl) rfl rfl (qt_lss rfl rfl rfl) ?_
      refine g_nil ?_
      refine gk_then (hK24 _ _ ?_)
      refine gc_cond rfl (fun hc2 => ?_) (fun hc2 => ?_)
      · try simp only [decide_eq_true_eq, decide_eq_false_iff_not, Bool.not_eq_true', Bool.not_eq_false', Bool.not_eq_eq_eq_not, Bool.not_true, Bool.not_false, ne_eq, Decidable.not_not, Classical.not_not] at hc2
        refine gc_skip ?_
        refine gk_then (hK23 _ _ ?_)
        refine gc_block ?_
        refine gc_seq fun K25 hK25 => ?_
        refine gc_draw (by kernel_rfl) ?_
        refine gd_v (.free rfl) rfl rfl (qt_loadS (n := 1) rfl rfl Try.underlying27 rfl (by kernel_rfl) rfl) ?_
        refine gd_v (.free rfl) rfl rfl (qt_move rfl rfl) ?_
        refine gd_v (.free rfl) rfl rfl (qt_move rfl rfl) ?_
        refine gd_v (.free rfl) rfl rfl (qt_len rfl rfl ulE1 (fun w M => lenV_own1 (n := 2) rfl M)) ?_
        refine gd_v (.free rfl) rfl rfl (qt_sub rfl rfl rfl (by omega)) ?_
        refine gd_v (.free rfl) rfl rfl (qt_index rfl rfl rfl ulE1 szE1 (fun w M => lenA_own1 (n := 2) rfl M) (by omega) (by omega)) ?_
        refine gd_v (.free rfl) rfl rfl (qt_load1 rfl rfl Try.underlying2 rfl (fun w M => (mem_own1 (n := 2) M rfl).rd) (by omega) (by omega)) ?_
        refine gd_v (.free rfl) rfl rfl (qt_move rfl rfl) ?_
        refine gd_q (.free rfl) rfl rfl (qt_call rfl Try.func21 rfl (by decide) rfl (fun w M => HC w _ (mem_held (n := 0) M rfl))) ?_
        refine gd_v (.free rfl) rfl rfl (qt_move rfl rfl) ?_
        refine gd_v (.free rfl) rfl rfl (qt_extract rfl rfl rfl) ?_
        refine gd_v (.free rfl) rfl rfl (qt_extract rfl rfl rfl) ?_
        refine gd_v (.free rfl) rfl rfl (qt_assign rfl rfl) ?_
        refine gd_v (.free rfl) rfl rfl (qt_assign rfl rfl) ?_
        refine gd_nil ?_
        refine gk_then (hK25 _ _ ?_)
        refine gc_seq fun K26 hK26 => ?_
        refine gc_seq fun K27 hK27 => ?_
        refine gc_region ?_
        refine g_v (.free rfl) rfl rfl (qt_move rfl rfl) ?_
        refine g_v (.free rfl) rfl rfl (qt_neq_f rfl rfl rfl (fun h => h rfl)) ?_
        refine g_nil ?_
        refine gk_then (hK27 _ _ ?_)
        refine gc_cond_f rfl ?_
        refine gc_skip ?_
        refine gk_then (hK26 _ _ ?_)
        refine gc_seq fun K28 hK28 => ?_
        refine gc_seq fun K29 hK29 => ?_
        refine gc_region ?_
        refine g_v (.free rfl) rfl rfl (qt_move rfl rfl) ?_
        refine g_v (.free rfl) rfl rfl (qt_len rfl rfl ulE1 (fun w M => lenV_own1 (n := 2) rfl M)) ?_
        refine g_v (.free rfl) rfl rfl (qt_move rfl rfl) ?_
        refine g_v (.free rfl) rfl rfl (qt_move rfl rfl) ?_
        refine g_v (.free rfl) rfl rfl (qt_add rfl rfl rfl (by omega)) ?_
        refine g_v (.free rfl) rfl rfl (qt_sub rfl rfl rfl (by omega)) ?_
        refine g_v (.free rfl) rfl rfl (qt_lss rfl rfl rfl) ?_
        refine g_splitv (.free rfl) rfl rfl (qt_move rfl rfl) (fun hs15_7 => ?_) (fun hs15_7 => ?_)
        · try simp only [decide_eq_true_eq, decide_eq_false_iff_not, Bool.not_eq_true', Bool.not_eq_false', Bool.not_eq_eq_eq_not, Bool.not_true, Bool.not_false, ne_eq, Decidable.not_not, Classical.not_not] at hs15_7
          refine g_v (.held _ _ _ rfl rfl rfl) rfl rfl (qt_move rfl rfl) ?_
          refine g_v (.held _ _ _ rfl rfl rfl) rfl rfl (qt_move rfl rfl) ?_
          refine g_q (.held _ _ _ rfl rfl rfl) rfl rfl (qt_call rfl Try.func22 rfl (by decide) rfl (fun w M => HH w _ ((mem_own1 (n := 2) M rfl).rd) (by omega))) ?_
          refine g_v (.free rfl) rfl rfl (qt_pick_t rfl rfl rfl) ?_
          refine g_nil ?_
          refine gk_then (hK29 _ _ ?_)
          refine gc_cond_f rfl ?_
          refine gc_skip ?_
          refine gk_then (hK28 _ _ ?_)
          refine gc_region ?_
          refine g_v (.free rfl) rfl rfl (qt_move rfl rfl) ?_
          refine g_v (.free rfl) rfl rfl (qt_move rfl rfl) ?_
          refine g_op (.free rfl) fun K31 hK31 => ?_
          refine go_slice1 rfl rfl rfl rfl Try.underlying24 ?_
          intro B30
          refine hK31 _ _ ?_
          refine g_op (.free rfl) fun K33 hK33 => ?_
          refine go_append (n := 2) (m := 3) rfl rfl rfl Try.underlying24 rfl rfl rfl rfl (by omega) ?_
          intro va32 vc32
          refine hK33 _ _ ?_
          refine g_v (.free rfl) rfl rfl (qt_assign rfl rfl) ?_
          refine g_nil ?_
          refine gk_block ?_
          rw [pwL_succ]
          refine gk_then (gk_take 3 ?_)
          refine gk_sub ?hs_34 (hKL22 (k + 1, _, _) ?hi_34 ?hm_34)
          case hs_34 => exact (sub_cons rfl (sub_cons rfl (sub_cons rfl (sub_cons rfl (sub_cons rfl (sub_cons rfl (sub_cons rfl (sub_cons rfl (sub_cons rfl (sub_cons rfl (sub_cons rfl (sub_cons rfl (sub_cons rfl sub_nil)))))))))))))
          case hi_34 => omega
          case hm_34 => omega
        · try simp only [decide_eq_true_eq, decide_eq_false_iff_not, Bool.not_eq_true', Bool.not_eq_false', Bool.not_eq_eq_eq_not, Bool.not_true, Bool.not_false, ne_eq, Decidable.not_not, Classical.not_not] at hs15_7
          refine g_skip (.not _ _ _ _ rfl rfl rfl rfl) rfl rfl ?_
          refine g_skip (.not _ _ _ _ rfl rfl rfl rfl) rfl rfl ?_
          refine g_skip (.not _ _ _ _ rfl rfl rfl rfl) rfl rfl ?_
          refine g_v (.free rfl) rfl rfl (qt_pick_f rfl rfl rfl) ?_
          refine g_nil ?_
          refine gk_then (hK29 _ _ ?_)
          refine gc_cond_f rfl ?_
          refine gc_skip ?_
          refine gk_then (hK28 _ _ ?_)
          refine gc_region ?_
          refine g_v (.free rfl) rfl rfl (qt_move rfl rfl) ?_
          refine g_v (.free rfl) rfl rfl (qt_move rfl rfl) ?_
          refine g_op (.free rfl) fun K36 hK36 => ?_
          refine go_slice1 rfl rfl rfl rfl Try.underlying24 ?_
          intro B35
          refine hK36 _ _ ?_
          refine g_op (.free rfl) fun K38 hK38 => ?_
          refine go_append (n := 2) (m := 3) rfl rfl rfl Try.underlying24 rfl rfl rfl rfl (by omega) ?_
          intro va37 vc37
          refine hK38 _ _ ?_
          refine g_v (.free rfl) rfl rfl (qt_assign rfl rfl) ?_
          refine g_nil ?_
          refine gk_block ?_
          rw [pwL_succ]
          refine gk_then (gk_take 3 ?_)
          refine gk_sub ?hs_39 (hKL22 (k + 1, _, _) ?hi_39 ?hm_39)
          case hs_39 => exact (sub_cons rfl (sub_cons rfl (sub_cons rfl (sub_cons rfl (sub_cons rfl (sub_cons rfl (sub_cons rfl (sub_cons rfl (sub_cons rfl (sub_cons rfl (sub_cons rfl (sub_cons rfl (sub_cons rfl sub_nil)))))))))))))
          case hi_39 => omega
          case hm_39 => omega
      · try simp only [decide_eq_true_eq, decide_eq_false_iff_not, Bool.not_eq_true', Bool.not_eq_false', Bool.not_eq_eq_eq_not, Bool.not_true, Bool.not_false, ne_eq, Decidable.not_not, Classical.not_not] at hc2
        refine gc_exit ?_
        refine gk_then_exit ?_
        refine gk_then_exit ?_
        refine gk_block_hit ?_
        refine gk_then (hK21 _ _ ?_)
        refine gc_seq fun K40 hK40 => ?_
        obtain rfl : k = K + 1 := by omega
        have hE : at0 (pwL c f (K + 1 + 1)) (A + B - 1) = at0 (pwL c f (K + 1 + 1)) (A - 1) := by rw [show A + B - 1 = ((K + 1 : Nat) : Int) from by omega, show A - 1 = (i : Int) from by omega, pwL_last]; rw [pf.eq]; exact (tabTo_at _ (by omega)).symm
        have hid : bP (idemP c f) = decide (A = 1 ∧ B = 1) := by rw [pf.idem, decide_eq_decide]; omega
        refine gc_region ?_
        refine g_v (.free rfl) rfl rfl (qt_loadS (n := 1) rfl rfl Try.underlying27 rfl (by kernel_rfl) rfl) ?_
        refine g_v (.free rfl) rfl rfl (qt_move rfl rfl) ?_
        refine g_q (.free rfl) rfl rfl (qt_call rfl Try.func23 rfl (by decide) rfl (fun w M => HI w _ (mem_held (n := 0) M rfl))) ?_
        refine g_v (.free rfl) rfl rfl (qt_move rfl rfl) ?_
        refine g_v (.free rfl) rfl rfl (qt_extract rfl rfl rfl) ?_
        refine g_v (.free rfl) rfl rfl (qt_extract rfl rfl rfl) ?_
        refine g_v (.free rfl) rfl rfl (qt_assign rfl rfl) ?_
        refine g_v (.free rfl) rfl rfl (qt_assign rfl rfl) ?_
        refine g_nil ?_
        refine gk_then (hK40 _ _ ?_)
        refine gc_seq fun K41 hK41 => ?_
        refine gc_draw (by kernel_rfl) ?_
        refine gd_v (.free rfl) rfl rfl (qt_move rfl rfl) ?_
        refine gd_v (.free rfl) rfl rfl (qt_eql_t rfl rfl rfl rfl) ?_
        refine gd_v (.free rfl) rfl rfl (qt_move rfl rfl) ?_
        refine gd_v (.held _ _ _ rfl rfl rfl) rfl rfl (qt_move rfl rfl) ?_
        refine gd_v (.held _ _ _ rfl rfl rfl) rfl rfl (qt_move rfl rfl) ?_
        refine gd_v (.held _ _ _ rfl rfl rfl) rfl rfl (qt_move rfl rfl) ?_
        refine gd_v (.held _ _ _ rfl rfl rfl) rfl rfl (qt_add rfl rfl rfl (by omega)) ?_
        refine gd_v (.held _ _ _ rfl rfl rfl) rfl rfl (qt_sub rfl rfl rfl (by omega)) ?_
        refine gd_v (.held _ _ _ rfl rfl rfl) rfl rfl (qt_index rfl rfl rfl ulE1 szE1 (fun w M => lenA_own1 (n := 2) rfl M) (by omega) (by omega)) ?_
        refine gd_v (.held _ _ _ rfl rfl rfl) rfl rfl (qt_load1 rfl rfl Try.underlying2 rfl (fun w M => (mem_own1 (n := 2) M rfl).rd) (by omega) (by omega)) ?_
        refine gd_v (.held _ _ _ rfl rfl rfl) rfl rfl (qt_move rfl rfl) ?_
        refine gd_v (.held _ _ _ rfl rfl rfl) rfl rfl (qt_move rfl rfl) ?_
        refine gd_v (.held _ _ _ rfl rfl rfl) rfl rfl (qt_sub rfl rfl rfl (by omega)) ?_
        refine gd_v (.held _ _ _ rfl rfl rfl) rfl rfl (qt_index rfl rfl rfl ulE1 szE1 (fun w M => lenA_own1 (n := 2) rfl M) (by omega) (by omega)) ?_
        refine gd_v (.held _ _ _ rfl rfl rfl) rfl rfl (qt_load1 rfl rfl Try.underlying2 rfl (fun w M => (mem_own1 (n := 2) M rfl).rd) (by omega) (by omega)) ?_
        refine gd_v (.held _ _ _ rfl rfl rfl) rfl rfl (qt_eql_t rfl rfl rfl hE) ?_
        refine gd_v (.free rfl) rfl rfl (qt_pick_t rfl rfl rfl) ?_
        refine gd_v (.free rfl) rfl rfl (qt_move rfl rfl) ?_
        refine gd_v (.held _ _ _ rfl rfl rfl) rfl rfl (qt_move rfl rfl) ?_
        refine gd_v (.held _ _ _ rfl rfl rfl) rfl rfl (qt_move rfl rfl) ?_
        refine gd_v (.held _ _ _ rfl rfl rfl) rfl rfl (qt_eql rfl rfl rfl) ?_
        refine gd_splitv (.held _ _ _ rfl rfl rfl) rfl rfl (qt_move rfl rfl) (fun hs19_21 => ?_) (fun hs19_21 => ?_)
        · try simp only [decide_eq_true_eq, decide_eq_false_iff_not, Bool.not_eq_true', Bool.not_eq_false', Bool.not_eq_eq_eq_not, Bool.not_true, Bool.not_false, ne_eq, Decidable.not_not, Classical.not_not] at hs19_21
          refine gd_v (.held _ _ _ rfl rfl rfl) rfl rfl (qt_move rfl rfl) ?_
          refine gd_v (.held _ _ _ rfl rfl rfl) rfl rfl (qt_eql rfl rfl rfl) ?_
          refine gd_v (.held _ _ _ rfl rfl rfl) rfl rfl (qt_pick_t rfl rfl rfl) ?_
          refine gd_v (.held _ _ _ rfl rfl rfl) rfl rfl (qt_eqBB_t rfl rfl rfl Try.underlying4 (by first | (rw [hid]; simp only [decide_eq_decide]; omega) | (rw [hid, decide_eq_false_iff_not]; omega) | (rw [hid]; simp_all))) ?_
          refine gd_v (.free rfl) rfl rfl (qt_pick_t rfl rfl rfl) ?_
          refine gd_v (.free rfl) rfl rfl (qt_assign rfl rfl) ?_
          refine gd_nil ?_
          refine gk_then (hK41 _ _ ?_)
          refine gc_ret ?_
          refine ret_1 rfl rfl  (fun w M => ?_)
          exact ⟨rfl, M.1⟩
        · try simp only [decide_eq_true_eq, decide_eq_false_iff_not, Bool.not_eq_true', Bool.not_eq_false', Bool.not_eq_eq_eq_not, Bool.not_true, Bool.not_false, ne_eq, Decidable.not_not, Classical.not_not] at hs19_21
          refine gd_skip (.not _ _ _ _ rfl rfl rfl rfl) rfl rfl ?_
          refine gd_skip (.not _ _ _ _ rfl rfl rfl rfl) rfl rfl ?_
          refine gd_v (.held _ _ _ rfl rfl rfl) rfl rfl (qt_pick_f rfl rfl rfl) ?_
          refine gd_v (.held _ _ _ rfl rfl rfl) rfl rfl (qt_eqBB_t rfl rfl rfl Try.underlying4 (by first | (rw [hid]; simp only [decide_eq_decide]; omega) | (rw [hid, decide_eq_false_iff_not]; omega) | (rw [hid]; simp_all))) ?_
          refine gd_v (.free rfl) rfl rfl (qt_pick_t rfl rfl rfl) ?_
          refine gd_v (.free rfl) rfl rfl (qt_assign rfl rfl) ?_
          refine gd_nil ?_
          refine gk_then (hK41 _ _ ?_)
          refine gc_ret ?_
          refine ret_1 rfl rfl  (fun w M => ?_)
          exact ⟨rfl, M.1⟩
end Go.Proofs.Ytpfcfhjpgngneac
