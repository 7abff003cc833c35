
/- Hom sets and composites of paths: both sides. -/
import Derived.Test.YtakifeiemcldlabComp
namespace Go.Proofs.Ytakifeiemcldlab
open Go.RowKit


theorem objErr_facts {c : Cat} {xs : List Int} (h : objErr c xs = 0) : IsCat c ∧ AllP c.ob xs := objErr_0 h
noncomputable def fHomSet (c : Cat) (x y : Int) : List Int × Int := if objErr c [x, y] = 0 then (homTo c x y c.s.length, 0) else ([], objErr c [x, y])
theorem hom_err {c : Cat} {x y : Int} (h : ¬ objErr c [x, y] = 0) : fHomSet c x y = ([], objErr c [x, y]) := if_neg h
theorem hom_t {c : Cat} {x y : Int} (h : objErr c [x, y] = 0) : fHomSet c x y = (homTo c x y c.s.length, 0) := if_pos h
def pathGo (c : Cat) : Int → List Int → Int × Int
  | h, [] => (h, 0)
  | h, f :: r => if at0 c.t h = at0 c.s f then pathGo c (c.th h f) r else (0, 5)
noncomputable def fPathComposite (c : Cat) (x : Int) (path : List Int) : Int × Int :=
  if objErr c [x] = 0 then (if arrErr c path = 0 then pathGo c (at0 c.e x) path else (0, arrErr c path)) else (0, objErr c [x])
theorem path_o {c : Cat} {x : Int} {p : List Int} (h : ¬ objErr c [x] = 0) : fPathComposite c x p = (0, objErr c [x]) := if_neg h
theorem path_a {c : Cat} {x : Int} {p : List Int} (h : objErr c [x] = 0) (h' : ¬ arrErr c p = 0) : fPathComposite c x p = (0, arrErr c p) := by unfold fPathComposite; rw [if_pos h, if_neg h']
theorem path_t {c : Cat} {x : Int} {p : List Int} (h : objErr c [x] = 0) (h' : arrErr c p = 0) : fPathComposite c x p = pathGo c (at0 c.e x) p := by unfold fPathComposite; rw [if_pos h, if_pos h']
theorem drop_at {xs : List Int} {k : Nat} (h : k < xs.length) : xs.drop k = at0 xs (k : Int) :: xs.drop (k + 1) := by
  rw [at0_nat, List.drop_eq_getElem_cons h]; simp [List.getD_eq_getElem?_getD, List.getElem?_eq_getElem h]
theorem pathGo_t {c : Cat} {h : Int} {xs : List Int} {k : Nat} (hk : k < xs.length) (he : at0 c.t h = at0 c.s (at0 xs k)) : pathGo c h (xs.drop k) = pathGo c (c.th h (at0 xs k)) (xs.drop (k + 1)) := by
  rw [drop_at hk]; show (if _ then _ else _) = _; rw [if_pos he]
theorem pathGo_f {c : Cat} {h : Int} {xs : List Int} {k : Nat} (hk : k < xs.length) (he : ¬ at0 c.t h = at0 c.s (at0 xs k)) : pathGo c h (xs.drop k) = (0, 5) := by
  rw [drop_at hk]; show (if _ then _ else _) = _; rw [if_neg he]
theorem pathGo_end {c : Cat} {h : Int} {xs : List Int} : pathGo c h (xs.drop xs.length) = (h, 0) := by simp [pathGo]
theorem allP_get {n : Int} {xs : List Int} (h : AllP n xs) {k : Nat} (hk : k < xs.length) : 0 ≤ at0 xs (k : Int) ∧ at0 xs (k : Int) < n := allP_at h hk
structure PathI (c : Cat) (e0 : Int) (xs : List Int) (k : Nat) (h : Int) : Prop where
  kl : k ≤ xs.length
  h0 : 0 ≤ h
  h1 : h < c.s.length
  go : pathGo c h (xs.drop k) = pathGo c e0 xs
theorem pathI_next {c : Cat} (hS : ShapeP c) {e0 : Int} {xs : List Int} (hx : AllP c.s.length xs) {k : Nat} {h : Int} (H : PathI c e0 xs k h) (hk : k < xs.length) (he : at0 c.t h = at0 c.s (at0 xs k)) : PathI c e0 xs (k + 1) (c.th h (at0 xs k)) := by
  have hg := allP_get hx hk
  have hc := comp_arr hS H.h0 H.h1 hg.1 hg.2 he
  exact ⟨by omega, hc.1, hc.2, (pathGo_t hk he).symm.trans H.go⟩
theorem bP_f' {p : Prop} (h : bP p = false) : ¬ p := fun hp => by rw [bP_t hp] at h; cases h
theorem bP_t' {p : Prop} (h : bP p = true) : p := bP_iff.1 h

set_option maxHeartbeats 1000000 in
set_option maxRecDepth 100000 in
theorem arrowsBetween_any (w : World) (v : Value) (c : Cat) (x y : Int) (h : RdC w v c) (hS : ShapeP c) :
    Calls Try.prog 110 #[v, .agg #[.int .i64 x, .int .i64 y]] w (RetL w (homTo c x y c.s.length)) := by
  have h0 := h
  obtain ⟨va, vb, vc, vd, ve, vf, vg, vh, rfl, h1, h2, h3, h4, _⟩ := h.lists
  have hn40 := hS.n40; have htl := hS.tl
  go_enter Try.func110, Try.ntmps110
  refine gc_enter (N := 23) rfl (look_cons (k := 0) rfl (look_cons (k := 1) rfl (look_nil _))) ?_
  refine gc_seq fun K1 hK1 => ?_
  refine gc_region ?_
  refine g_op (.free rfl) fun K3 hK3 => ?_
  refine go_box rfl rfl rfl rfl rfl ?_
  intro B2
  refine hK3 _ _ ?_
  refine g_op (.free rfl) fun K5 hK5 => ?_
  refine go_box rfl rfl rfl rfl rfl ?_
  intro B4
  refine hK5 _ _ ?_
  refine g_v (.free rfl) rfl rfl (qt_assign rfl rfl) ?_
  refine g_nil ?_
  refine gk_then (hK1 _ _ ?_)
  refine gc_seq fun K6 hK6 => ?_
  refine gc_region ?_
  refine g_v (.free rfl) rfl rfl (qt_assign rfl rfl) ?_
  refine g_nil ?_
  refine gk_then (hK6 _ _ ?_)
  refine gc_seq fun K7 hK7 => ?_
  refine gc_seq fun K8 hK8 => ?_
  refine gc_nilS ?_
  refine gc_region ?_
  refine g_v (.free rfl) rfl rfl (qt_loadS (n := 0) rfl rfl Try.underlying29 rfl (by kernel_rfl) rfl) ?_
  refine g_q (.free rfl) rfl rfl (qt_call rfl Try.func62 rfl (by decide) rfl (fun w M => arrows_any w _ _ (mem_rdC M h0))) ?_
  refine g_v (.free rfl) rfl rfl (qt_move rfl rfl) ?_
  refine g_nil ?_
  refine gk_then (hK8 _ _ ?_)
  refine gc_block ?_
  try simp only [List.nil_append, List.cons_append, List.append_assoc, List.set_cons_succ, List.set_cons_zero]
  refine gc_loop ([(0, _), (1, _), (2, _), (3, _), (4, _), (8, _)] : Env) (fun s : Nat × (Option Addr) × Nat => (fun (k : Nat) (a : Option Addr) (q : Nat) => ([(5, .slice a (homTo c x y k).length q), (9, .int .i64 (k : Int))] : Env)) s.1 s.2.1 s.2.2) (fun s : Nat × (Option Addr) × Nat => (fun (k : Nat) (a : Option Addr) (q : Nat) => ([(2, own1I (.slice a (homTo c x y k).length q) (homTo c x y k))] : List (Nat × Itm))) s.1 s.2.1 s.2.2) (fun s : Nat × (Option Addr) × Nat => (fun (k : Nat) (a : Option Addr) (q : Nat) => k ≤ c.s.length) s.1 s.2.1 s.2.2) (fun s : Nat × (Option Addr) × Nat => (fun (k : Nat) (a : Option Addr) (q : Nat) => c.s.length - k) s.1 s.2.1 s.2.2) (0, _, _) (sub_cons rfl (sub_cons rfl (sub_cons rfl (sub_cons rfl (sub_cons rfl (sub_cons rfl (sub_cons rfl (sub_cons rfl sub_nil)))))))) rfl (Nat.zero_le _) ?_
  rintro ⟨k, a, q⟩ hinv KL9 hKL9
  simp only [updL, List.foldl_cons, List.foldl_nil, List.set_cons_succ, List.set_cons_zero, List.cons_append, List.nil_append] at hinv hKL9 ⊢
  have hk := hinv
  have hl := homTo_len c x y k
  refine gc_seq fun K10 hK10 => ?_
  refine gc_region ?_
  refine g_v (.free rfl) rfl rfl (qt_lss rfl rfl rfl) ?_
  refine g_nil ?_
  refine gk_then (hK10 _ _ ?_)
  refine gc_seq fun K11 hK11 => ?_
  refine gc_cond rfl (fun hc0 => ?_) (fun hc0 => ?_)
  · try simp only [decide_eq_true_eq, decide_eq_false_iff_not, Bool.not_eq_true', Bool.not_eq_false', Bool.not_eq_eq_eq_not, Bool.not_true, Bool.not_false, ne_eq, Decidable.not_not, Classical.not_not] at hc0
    refine gc_skip ?_
    refine gk_then (hK11 _ _ ?_)
    refine gc_seq fun K12 hK12 => ?_
    refine gc_block ?_
    refine gc_seq fun K13 hK13 => ?_
    refine gc_region ?_
    refine g_v (.free rfl) rfl rfl (qt_move rfl rfl) ?_
    refine g_v (.free rfl) rfl rfl (qt_assign rfl rfl) ?_
    refine g_nil ?_
    refine gk_then (hK13 _ _ ?_)
    refine gc_seq fun K14 hK14 => ?_
    refine gc_draw (by kernel_rfl) ?_
    refine gd_v (.free rfl) rfl rfl (qt_loadS (n := 0) rfl rfl Try.underlying29 rfl (by kernel_rfl) rfl) ?_
    refine gd_v (.free rfl) rfl rfl (qt_move rfl rfl) ?_
    refine gd_q (.free rfl) rfl rfl (qt_call rfl Try.func123 rfl (by decide) rfl (fun w M => ends_any w _ _ _ (mem_rdC M h0) (by first | assumption | omega) (by first | assumption | omega) (by first | assumption | omega))) ?_
    refine gd_v (.free rfl) rfl rfl (qt_loadS (n := 1) rfl rfl Try.underlying108 rfl (by kernel_rfl) rfl) ?_
    refine gd_v (.free rfl) rfl rfl (qt_eqA rfl rfl rfl (fun w => eqA_arrowEnds _ _ _ _ w) eqG_arrowEnds) ?_
    refine gd_nil ?_
    refine gk_then (hK14 _ _ ?_)
    refine gc_cond rfl (fun hc1 => ?_) (fun hc1 => ?_)
    · try simp only [decide_eq_true_eq, decide_eq_false_iff_not, Bool.not_eq_true', Bool.not_eq_false', Bool.not_eq_eq_eq_not, Bool.not_true, Bool.not_false, ne_eq, Decidable.not_not, Classical.not_not] at hc1
      refine gc_region ?_
      refine g_v (.free rfl) rfl rfl (qt_move rfl rfl) ?_
      refine g_v (.free rfl) rfl rfl (qt_move rfl rfl) ?_
      refine g_op (.free rfl) fun K16 hK16 => ?_
      refine go_slice1 rfl rfl rfl rfl Try.underlying22 ?_
      intro B15
      refine hK16 _ _ ?_
      refine g_op (.free rfl) fun K18 hK18 => ?_
      refine go_append (n := 2) (m := 3) rfl rfl rfl Try.underlying22 rfl rfl rfl rfl (by omega) ?_
      intro va17 vc17
      refine hK18 _ _ ?_
      refine g_v (.free rfl) rfl rfl (qt_assign rfl rfl) ?_
      refine g_nil ?_
      refine gk_block ?_
      refine gk_then (hK12 _ _ ?_)
      refine gc_region ?_
      refine g_v (.free rfl) rfl rfl (qt_add rfl rfl rfl (by omega)) ?_
      refine g_v (.free rfl) rfl rfl (qt_move rfl rfl) ?_
      refine g_nil ?_
      rw [← homTo_succ_t hc1.1 hc1.2]
      refine gk_then (gk_take 3 ?_)
      refine gk_sub ?hs_19 (hKL9 (k + 1, _, _) ?hi_19 ?hm_19)
      case hs_19 => exact (sub_cons rfl (sub_cons rfl (sub_cons rfl (sub_cons rfl (sub_cons rfl (sub_cons rfl (sub_cons rfl (sub_cons rfl sub_nil))))))))
      case hi_19 => omega
      case hm_19 => omega
    · try simp only [decide_eq_true_eq, decide_eq_false_iff_not, Bool.not_eq_true', Bool.not_eq_false', Bool.not_eq_eq_eq_not, Bool.not_true, Bool.not_false, ne_eq, Decidable.not_not, Classical.not_not] at hc1
      refine gc_skip ?_
      refine gk_block ?_
      refine gk_then (hK12 _ _ ?_)
      refine gc_region ?_
      refine g_v (.free rfl) rfl rfl (qt_add rfl rfl rfl (by omega)) ?_
      refine g_v (.free rfl) rfl rfl (qt_move rfl rfl) ?_
      refine g_nil ?_
      rw [← homTo_succ_f hc1]
      refine gk_then (gk_take 3 ?_)
      refine gk_sub ?hs_20 (hKL9 (k + 1, _, _) ?hi_20 ?hm_20)
      case hs_20 => exact (sub_cons rfl (sub_cons rfl (sub_cons rfl (sub_cons rfl (sub_cons rfl (sub_cons rfl (sub_cons rfl (sub_cons rfl sub_nil))))))))
      case hi_20 => omega
      case hm_20 => omega
  · try simp only [decide_eq_true_eq, decide_eq_false_iff_not, Bool.not_eq_true', Bool.not_eq_false', Bool.not_eq_eq_eq_not, Bool.not_true, Bool.not_false, ne_eq, Decidable.not_not, Classical.not_not] at hc0
    refine gc_exit ?_
    refine gk_then_exit ?_
    refine gk_then_exit ?_
    refine gk_block_hit ?_
    refine gk_then (hK7 _ _ ?_)
    refine gc_seq fun K21 hK21 => ?_
    refine gc_region ?_
    refine g_v (.free rfl) rfl rfl (qt_move rfl rfl) ?_
    refine g_v (.free rfl) rfl rfl (qt_assign rfl rfl) ?_
    refine g_nil ?_
    refine gk_then (hK21 _ _ ?_)
    refine gc_ret ?_
    refine ret_1 rfl rfl  (fun w M => ?_)
    obtain rfl : k = c.s.length := by omega
    exact ⟨_, rfl, mem_own1 (n := 2) M rfl, M.1⟩

theorem path_code {c : Cat} {x : Int} {xs : List Int} (h : ¬ arrErr c xs = 0) : fPathComposite c x xs = (0, arrErr c xs) := by
  by_cases ho : objErr c [x] = 0
  · exact path_a ho h
  · rw [path_o ho]
    cases hI : fIsCategory c with
    | false => rw [arrErr_f hI, objErr_f hI]
    | true =>
      have h1 : objErr c [x] = 2 := by
        by_cases hp : AllP c.ob [x]
        · exact absurd (objErr_t hI hp) ho
        · exact objErr_r hI hp
      have h2 : arrErr c xs = 2 := by
        by_cases hp : AllP c.s.length xs
        · exact absurd (arrErr_t hI hp) h
        · exact arrErr_r hI hp
      rw [h1, h2]
theorem isCat_b {c : Cat} (h : IsCat c) : fIsCategory c = true := bP_t h

end Go.Proofs.Ytakifeiemcldlab
