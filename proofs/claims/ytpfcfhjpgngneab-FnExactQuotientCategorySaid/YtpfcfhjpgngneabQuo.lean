
/- A category modulo a congruence: both sides. -/
import Derived.Test.YtpfcfhjpgngneabCong2
import Derived.Test.YtpfcfhjpgngneabPlanI
import Derived.Test.YtpfcfhjpgngneabEnts
set_option linter.unusedSimpArgs false
set_option linter.unusedVariables false
set_option linter.unusedSectionVars false
namespace Go.Proofs.Ytpfcfhjpgngneab
open Go.RowKit


def lsC (p : List Int) : List Int := lstL p (nC p p.length)
def mC (p : List Int) : Nat := nC p p.length
theorem lsC_len (p : List Int) : (lsC p).length = mC p := lstL_len _ _
theorem mC_le (p : List Int) : mC p ≤ p.length := nC_le _ _
/-- The least arrow of a class. -/
theorem ls_at {p : List Int} (hp : p = clsOf p) {k : Nat} (hk : k < mC p) : ∃ i : Nat, i < p.length ∧ at0 (lsC p) (k : Int) = i ∧ at0 p (i : Int) = k := by
  have h := seen_up hp p.length (Nat.le_refl _)
  rw [List.take_length] at h
  have hm : (k : Int) ∈ p := (mem_seenOf p _).1 (by rw [h]; exact mem_upTo (Int.natCast_nonneg k) (by have := hk; unfold mC at this; omega))
  refine ⟨p.idxOf (k : Int), List.idxOf_lt_length_of_mem hm, ?_, ?_⟩
  · unfold lsC; rw [at0_nat]; exact lstL_getD hk
  · rw [at0_nat]; exact getD_idx hm
theorem ls_atI {p : List Int} (hp : p = clsOf p) {k : Int} (h0 : 0 ≤ k) (hk : k < mC p) : 0 ≤ at0 (lsC p) k ∧ at0 (lsC p) k < p.length ∧ at0 p (at0 (lsC p) k) = k := by
  obtain ⟨n, rfl⟩ := Int.eq_ofNat_of_zero_le h0
  obtain ⟨i, hi, e1, e2⟩ := ls_at hp (k := n) (by omega)
  rw [e1]
  exact ⟨by omega, by omega, e2⟩
/-- The least arrow of an arrow's class. -/
theorem ls_cls {p : List Int} (hp : p = clsOf p) {k : Int} (h0 : 0 ≤ k) (hk : k < p.length) : 0 ≤ at0 p k ∧ at0 p k < mC p ∧ at0 (lsC p) (at0 p k) = (lfN p k.toNat : Int) := by
  obtain ⟨n, rfl⟩ := Int.eq_ofNat_of_zero_le h0
  have h1 := cls_rng hp (k := n) (by omega)
  exact ⟨h1.1, h1.2, lst_at hp (by omega)⟩
theorem fst_iff {p : List Int} (hp : p = clsOf p) {k : Nat} (hk : k < p.length) : lfN p k = k ↔ p.getD k 0 = nC p k := by
  constructor
  · intro h
    have hs := seen_up hp k (by omega)
    have hst := proper_step hp hk hs
    refine Classical.byContradiction fun hn => ?_
    have hin : p.getD k 0 ∈ p.take k := (mem_seenOf _ _).1 (by rw [hs]; exact mem_upTo hst.1 (by omega))
    have hlt : (p.take k).idxOf (p.getD k 0) < (p.take k).length := List.idxOf_lt_length_of_mem hin
    have hx : p.idxOf (p.getD k 0) = (p.take k).idxOf (p.getD k 0) := by
      conv => lhs; rw [← List.take_append_drop k p]
      rw [List.idxOf_append, if_pos (by rw [List.take_append_drop]; exact hin)]
      rw [List.take_append_drop]
    unfold lfN at h
    rw [at0_nat, hx] at h
    rw [List.length_take] at hlt
    omega
  · intro h
    unfold lfN
    rw [at0_nat, h]; exact (nC_t hp hk h).2
theorem idxI_lf {p : List Int} {k : Nat} (hk : k < p.length) : idxI p (at0 p (k : Int)) = (lfN p k : Int) := if_pos (at0_memC hk)
theorem fst_t {p : List Int} (hp : p = clsOf p) {k : Nat} (hk : k < p.length) (h : idxI p (at0 p (k : Int)) = (k : Int)) : lstL p (nC p k) ++ [(k : Int)] = lstL p (nC p (k + 1)) := by
  rw [idxI_lf hk] at h
  refine lst_t hp hk ?_
  rw [lstL_len, at0_nat]; exact (fst_iff hp hk).1 (by omega)
theorem fst_f {p : List Int} (hp : p = clsOf p) {k : Nat} (hk : k < p.length) (h : ¬ idxI p (at0 p (k : Int)) = (k : Int)) : lstL p (nC p k) = lstL p (nC p (k + 1)) := by
  rw [idxI_lf hk] at h
  refine lst_f hp hk fun hh => h ?_
  rw [lstL_len, at0_nat] at hh
  have := (fst_iff hp hk).2 hh
  omega
def qM (c : Cat) (p : List Int) (f g : Int) : Int := if 0 ≤ at0 (row2 c.m f) g then at0 p (at0 (row2 c.m f) g) else at0 (row2 c.m f) g
theorem qM_t {c : Cat} {p : List Int} {f g : Int} (h : 0 ≤ at0 (row2 c.m f) g) : at0 p (at0 (row2 c.m f) g) = qM c p f g := (if_pos h).symm
theorem qM_f {c : Cat} {p : List Int} {f g : Int} (h : ¬ 0 ≤ at0 (row2 c.m f) g) : at0 (row2 c.m f) g = qM c p f g := (if_neg h).symm
def qS (c : Cat) (p : List Int) (i : Nat) : Int := at0 c.s (at0 (lsC p) (i : Int))
def qT (c : Cat) (p : List Int) (i : Nat) : Int := at0 c.t (at0 (lsC p) (i : Int))
def qE (c : Cat) (p : List Int) (x : Nat) : Int := at0 p (at0 c.e (x : Int))
def qR (c : Cat) (p : List Int) (i : Nat) : List Int := tabTo (fun j => qM c p (at0 (lsC p) (i : Int)) (at0 (lsC p) (j : Int))) (mC p)
theorem qR_def (c : Cat) (p : List Int) (i : Nat) : tabTo (fun j => qM c p (at0 (lsC p) (i : Int)) (at0 (lsC p) (j : Int))) (mC p) = qR c p i := rfl
theorem qS_def (c : Cat) (p : List Int) (i : Nat) : at0 c.s (at0 (lsC p) (i : Int)) = qS c p i := rfl
theorem qT_def (c : Cat) (p : List Int) (i : Nat) : at0 c.t (at0 (lsC p) (i : Int)) = qT c p i := rfl
theorem qE_def (c : Cat) (p : List Int) (x : Nat) : at0 p (at0 c.e (x : Int)) = qE c p x := rfl
def quoM (c : Cat) (p : List Int) : Cat := ⟨c.ob, tabTo (qS c p) (mC p), tabTo (qT c p) (mC p), tabTo (qE c p) c.ob.toNat, rowsTo (qR c p) (mC p)⟩
noncomputable def fQuotientCategory (c : Cat) (p : List Int) : Cat × Int := if fIsCategory c = true ∧ bP (congM c p) = true then (quoM c p, 0) else (cat0, 1)
theorem quo_f {c : Cat} {p : List Int} (h : ¬ (fIsCategory c = true ∧ congM c p)) : fQuotientCategory c p = (cat0, 1) := if_neg fun hh => h ⟨hh.1, bP_t' hh.2⟩
theorem quo_t {c : Cat} {p : List Int} (h : fIsCategory c = true) (h' : congM c p) : fQuotientCategory c p = (quoM c p, 0) := if_pos ⟨h, bP_t h'⟩
theorem th_ltI {c : Cat} (hS : ShapeP c) {f g : Int} (f0 : 0 ≤ f) (hf : f < c.s.length) (g0 : 0 ≤ g) (hg : g < c.s.length) : at0 (row2 c.m f) g < (c.s.length : Int) := by
  obtain ⟨a, rfl⟩ := Int.eq_ofNat_of_zero_le f0
  obtain ⟨b, rfl⟩ := Int.eq_ofNat_of_zero_le g0
  exact (th_rng hS (f := a) (g := b) (by omega) (by omega)).1
/-! ### What is built -/
def entQ (c : Cat) (p : List Int) (i : Nat) : Ent Int := (qS c p i, qT c p i, (i : Int))
theorem entQ_def (c : Cat) (p : List Int) (i : Nat) : (qS c p i, qT c p i, (i : Int)) = entQ c p i := rfl
theorem entQ_inj (c : Cat) (p : List Int) (i j : Nat) (h : entQ c p i = entQ c p j) : i = j := by simp only [entQ, Prod.mk.injEq] at h; omega
def uQ (c : Cat) (p : List Int) (x : Nat) : Int := at0 p (at0 c.e (x : Int))
def thQ (c : Cat) (p : List Int) (f g : Int) : Int := at0 p (c.th (at0 (lsC p) f) (at0 (lsC p) g))
theorem ls_par {c : Cat} {p : List Int} (hl : p.length = c.s.length) (hp : p = clsOf p) (hpar : ∀ j : Nat, j < c.s.length → Par c (lfN p j) j) {f : Int} (h0 : 0 ≤ f) (h1 : f < c.s.length) :
    0 ≤ at0 p f ∧ at0 p f < mC p ∧ at0 c.s (at0 (lsC p) (at0 p f)) = at0 c.s f ∧ at0 c.t (at0 (lsC p) (at0 p f)) = at0 c.t f := by
  have h := ls_cls hp h0 (by omega)
  obtain ⟨n, rfl⟩ := Int.eq_ofNat_of_zero_le h0
  rw [h.2.2]
  exact ⟨h.1, h.2.1, hpar n (by omega)⟩
theorem quo_build {c : Cat} (hS : ShapeP c) {p : List Int} (hl : p.length = c.s.length) (hp : p = clsOf p) (hpar : ∀ j : Nat, j < c.s.length → Par c (lfN p j) j) :
    buildE c.ob (entsTo (entQ c p) (mC p)) (uQ c p) (thQ c p) = quoM c p := by
  have hn40 := hS.n40; have hob0 := hS.ob0
  have hm := mC_le p
  have hinj : ∀ i j, i < mC p → j < mC p → entQ c p i = entQ c p j → i = j := fun i j _ _ h => entQ_inj c p i j h
  refine buildE_to rfl (tabTo_len _ _) (tabTo_len _ _) (tabTo_len _ _) (rowsTo_len _ _) (fun i hi => ?_) (fun i hi => tabTo_at _ hi) (fun i hi => tabTo_at _ hi) (fun x hx => ?_) (fun i j hi hj => ?_)
  · rw [show row2 (quoM c p).m (i : Int) = _ from rowsTo_at _ hi]; exact tabTo_len _ _
  · have i1 := hS.idn (x := (x : Int)) (by omega) (by omega)
    have i2 := ls_par hl hp hpar i1.1 i1.2.1
    rw [show at0 (quoM c p).e (x : Int) = _ from tabTo_at _ hx]
    show at0 p (at0 c.e (x : Int)) = _
    refine (posE_int hinj i2.1 i2.2.1 ?_).symm
    unfold entQ qS qT
    rw [Int.toNat_of_nonneg i2.1, i2.2.2.1, i2.2.2.2, i1.2.2.1, i1.2.2.2]; rfl
  · rw [show row2 (quoM c p).m (i : Int) = _ from rowsTo_at _ hi, show at0 (qR c p i) (j : Int) = _ from tabTo_at _ hj]
    have l1 := ls_atI hp (k := (i : Int)) (by omega) (by omega)
    have l2 := ls_atI hp (k := (j : Int)) (by omega) (by omega)
    unfold cellE
    by_cases he : at0 c.t (at0 (lsC p) (i : Int)) = at0 c.s (at0 (lsC p) (j : Int))
    · have T := th_ends hS (f := at0 (lsC p) (i : Int)) (g := at0 (lsC p) (j : Int)) l1.1 (by omega) l2.1 (by omega) he
      have i2 := ls_par hl hp hpar T.1.1 T.1.2
      rw [if_pos (show (entQ c p i).2.1 = (entQ c p j).1 from he), ← qM_t T.1.1]
      refine (posE_int hinj i2.1 i2.2.1 ?_).symm
      unfold entQ qS qT
      rw [Int.toNat_of_nonneg i2.1, i2.2.2.1, i2.2.2.2, T.2.1, T.2.2]; rfl
    · have hn := (th_none hS (f := at0 (lsC p) (i : Int)) (g := at0 (lsC p) (j : Int)) l1.1 (by omega) l2.1 (by omega)).2 he
      have hn' : at0 (row2 c.m (at0 (lsC p) (i : Int))) (at0 (lsC p) (j : Int)) = -1 := hn
      rw [if_neg (show ¬ (entQ c p i).2.1 = (entQ c p j).1 from he), ← qM_f (by omega)]; exact hn
theorem quo_made {c : Cat} (hI : fIsCategory c = true) {p : List Int} (h : congM c p) : madeE c.ob (entsTo (entQ c p) (mC p)) (uQ c p) (thQ c p) = (fQuotientCategory c p).1 ∧ madeEc (α := Int) c.ob (entsTo (entQ c p) (mC p)) = (fQuotientCategory c p).2 := by
  have hS := (isCat_of hI).toShapeP
  have hm := mC_le p
  have hn40 := hS.n40; have hl := h.1.1
  have h1 := madeE_t (n := c.ob) (es := entsTo (entQ c p) (mC p)) (u := uQ c p) (th := thQ c p) hS.ob8 (by rw [entsTo_len]; omega)
  rw [quo_t hI h, h1.1, h1.2, quo_build hS h.1.1 h.1.2.2 h.2.1]; exact ⟨rfl, rfl⟩
theorem bound_QuotientCategory (c : Cat) (p : List Int) : mzC (fQuotientCategory c p).1 ≤ 1152921504606846 := by
  by_cases h : fIsCategory c = true ∧ congM c p
  · have hS := (isCat_of h.1).toShapeP
    have hm := mC_le p
    have hn40 := hS.n40; have hl := h.2.1.1; have hob8 := hS.ob8; have hob0 := hS.ob0
    rw [quo_t h.1 h.2]
    refine mz_small (show (tabTo _ _).length ≤ 40 by rw [tabTo_len]; omega) (show (tabTo _ _).length ≤ 40 by rw [tabTo_len]; omega) (show (tabTo _ _).length ≤ 40 by rw [tabTo_len]; omega) (show (rowsTo _ _).length ≤ 40 by rw [rowsTo_len]; omega) fun i hi => ?_
    have hi : i < (rowsTo (qR c p) (mC p)).length := hi
    rw [rowsTo_len] at hi
    rw [show row2 (quoM c p, (0 : Int)).1.m (i : Int) = _ from rowsTo_at _ hi]
    show (tabTo _ _).length ≤ 40
    rw [tabTo_len]; omega
  · rw [quo_f h]; show mzC cat0 ≤ _; decide

set_option maxHeartbeats 1000000 in
set_option maxRecDepth 100000 in
theorem specQuo_any (w : World) (v : Value) (c : Cat) (h : RdC w v c) (u : Value) (p : List Int) (hu : Rd w u p) (hS : ShapeP c) (hl : p.length = c.s.length) (hp : p = clsOf p) :
    Calls Try.prog 106 #[v, u] w (RetC w (quoM c p)) := by
  have h0 := h
  obtain ⟨va, vb, vc, vd, ve, vf, vg, vh, rfl, h1, h2, h3, h4, _⟩ := h.lists
  obtain ⟨ua, uc, rfl⟩ := rd_form hu
  have hn40 := hS.n40; have htl := hS.tl; have hel := hS.el; have hob0 := hS.ob0; have hob8 := hS.ob8; have hml := hS.ml
  have hm := mC_le p
  have hll := lsC_len p
  go_enter Try.func106, Try.ntmps106
  refine gc_enter (N := 128) rfl (look_cons (k := 0) rfl (look_cons (k := 1) rfl (look_nil _))) ?_
  refine gc_seq fun K1 hK1 => ?_
  refine gc_region ?_
  refine g_op (.free rfl) fun K3 hK3 => ?_
  refine go_box rfl rfl rfl rfl rfl ?_
  intro B2
  refine hK3 _ _ ?_
  refine g_op (.free rfl) fun K5 hK5 => ?_
  refine go_alloc (z := (.agg #[.int .i64 0, .slice none 0 0, .slice none 0 0, .slice none 0 0, .slice none 0 0])) (cs := [.int .i64 0, .slice none 0 0, .slice none 0 0, .slice none 0 0, .slice none 0 0]) rfl rfl rfl (fun w => by kernel_rfl) rfl ?_
  intro B4
  refine hK5 _ _ ?_
  refine g_nil ?_
  refine gk_then (hK1 _ _ ?_)
  refine gc_seq fun K6 hK6 => ?_
  refine gc_region ?_
  refine g_op (.free rfl) fun K8 hK8 => ?_
  refine go_slice0 rfl rfl rfl Try.underlying22 ?_
  intro B7
  refine hK8 _ _ ?_
  refine g_v (.free rfl) rfl rfl (qt_assign rfl rfl) ?_
  refine g_nil ?_
  refine gk_then (hK6 _ _ ?_)
  refine gc_seq fun K9 hK9 => ?_
  refine gc_seq fun K10 hK10 => ?_
  refine gc_region ?_
  refine g_v (.free rfl) rfl rfl (qt_assign rfl rfl) ?_
  refine g_nil ?_
  refine gk_then (hK10 _ _ ?_)
  refine gc_block ?_
  try simp only [List.nil_append, List.cons_append, List.append_assoc, List.set_cons_succ, List.set_cons_zero]
  refine gc_loop ([(0, _), (1, _), (2, _), (4, _)] : Env) (fun s : Nat × (Option Addr) × Nat => (fun (k : Nat) (a : Option Addr) (q : Nat) => ([(5, .slice a (lstL p (nC p k)).length q), (6, .int .i64 (k : Int))] : Env)) s.1 s.2.1 s.2.2) (fun s : Nat × (Option Addr) × Nat => (fun (k : Nat) (a : Option Addr) (q : Nat) => ([(2, own1I (.slice a (lstL p (nC p k)).length q) (lstL p (nC p k)))] : List (Nat × Itm))) s.1 s.2.1 s.2.2) (fun s : Nat × (Option Addr) × Nat => (fun (k : Nat) (a : Option Addr) (q : Nat) => k ≤ p.length) s.1 s.2.1 s.2.2) (fun s : Nat × (Option Addr) × Nat => (fun (k : Nat) (a : Option Addr) (q : Nat) => p.length - k) s.1 s.2.1 s.2.2) (0, _, _) (sub_cons rfl (sub_cons rfl (sub_cons rfl (sub_cons rfl (sub_cons rfl (sub_cons rfl sub_nil)))))) rfl (Nat.zero_le _) ?_
  rintro ⟨k, a, q⟩ hinv KL11 hKL11
  simp only [updL, List.foldl_cons, List.foldl_nil, List.set_cons_succ, List.set_cons_zero, List.cons_append, List.nil_append] at hinv hKL11 ⊢
  have hk := hinv
  have hl1 := lstL_len p (nC p k)
  have hl2 := nC_le p k
  refine gc_seq fun K12 hK12 => ?_
  refine gc_seq fun K13 hK13 => ?_
  refine gc_region ?_
  refine g_v (.free rfl) rfl rfl (qt_move rfl rfl) ?_
  refine g_v (.free rfl) rfl rfl (qt_move rfl rfl) ?_
  refine g_v (.free rfl) rfl rfl (qt_len rfl rfl ulE1 (fun w M => lenV_rd hu)) ?_
  refine g_v (.free rfl) rfl rfl (qt_lss rfl rfl rfl) ?_
  refine g_nil ?_
  refine gk_then (hK13 _ _ ?_)
  refine gc_cond rfl (fun hc0 => ?_) (fun hc0 => ?_)
  · try simp only [decide_eq_true_eq, decide_eq_false_iff_not, Bool.not_eq_true', Bool.not_eq_false', Bool.not_eq_eq_eq_not, Bool.not_true, Bool.not_false, ne_eq, Decidable.not_not, Classical.not_not] at hc0
    refine gc_skip ?_
    refine gk_then (hK12 _ _ ?_)
    refine gc_seq fun K14 hK14 => ?_
    refine gc_block ?_
    refine gc_seq fun K15 hK15 => ?_
    refine gc_region ?_
    refine g_v (.free rfl) rfl rfl (qt_move rfl rfl) ?_
    refine g_v (.free rfl) rfl rfl (qt_move rfl rfl) ?_
    refine g_v (.free rfl) rfl rfl (qt_move rfl rfl) ?_
    refine g_v (.free rfl) rfl rfl (qt_index rfl rfl rfl ulE1 szE1 (fun w M => lenA_rd hu) (by omega) (by omega)) ?_
    refine g_v (.free rfl) rfl rfl (qt_load1 rfl rfl Try.underlying2 rfl (fun w M => mem_rd M hu) (by omega) (by omega)) ?_
    refine g_q (.free rfl) rfl rfl (qt_call rfl Try.func129 rfl (by decide) rfl (fun w M => specIndex_any w _ _ _ (mem_rd M hu))) ?_
    refine g_v (.free rfl) rfl rfl (qt_move rfl rfl) ?_
    refine g_v (.free rfl) rfl rfl (qt_eql rfl rfl rfl) ?_
    refine g_nil ?_
    refine gk_then (hK15 _ _ ?_)
    refine gc_cond rfl (fun hc1 => ?_) (fun hc1 => ?_)
    · try simp only [decide_eq_true_eq, decide_eq_false_iff_not, Bool.not_eq_true', Bool.not_eq_false', Bool.not_eq_eq_eq_not, Bool.not_true, Bool.not_false, ne_eq, Decidable.not_not, Classical.not_not] at hc1
      refine gc_region ?_
      refine g_v (.free rfl) rfl rfl (qt_move rfl rfl) ?_
      refine g_v (.free rfl) rfl rfl (qt_move rfl rfl) ?_
      refine g_op (.free rfl) fun K17 hK17 => ?_
      refine go_slice1 rfl rfl rfl rfl Try.underlying22 ?_
      intro B16
      refine hK17 _ _ ?_
      refine g_op (.free rfl) fun K19 hK19 => ?_
      refine go_append (n := 2) (m := 3) rfl rfl rfl Try.underlying22 rfl rfl rfl rfl (by omega) ?_
      intro va18 vc18
      refine hK19 _ _ ?_
      refine g_v (.free rfl) rfl rfl (qt_assign rfl rfl) ?_
      refine g_nil ?_
      refine gk_block ?_
      refine gk_then (hK14 _ _ ?_)
      refine gc_region ?_
      refine g_v (.free rfl) rfl rfl (qt_move rfl rfl) ?_
      refine g_v (.free rfl) rfl rfl (qt_add rfl rfl rfl (by omega)) ?_
      refine g_v (.free rfl) rfl rfl (qt_assign rfl rfl) ?_
      refine g_nil ?_
      simp only [fst_t hp (k := k) (by omega) (by assumption)]
      refine gk_then (gk_take 3 ?_)
      refine gk_sub ?hs_20 (hKL11 (k + 1, _, _) ?hi_20 ?hm_20)
      case hs_20 => exact (sub_cons rfl (sub_cons rfl (sub_cons rfl (sub_cons rfl (sub_cons rfl (sub_cons rfl sub_nil))))))
      case hi_20 => omega
      case hm_20 => omega
    · try simp only [decide_eq_true_eq, decide_eq_false_iff_not, Bool.not_eq_true', Bool.not_eq_false', Bool.not_eq_eq_eq_not, Bool.not_true, Bool.not_false, ne_eq, Decidable.not_not, Classical.not_not] at hc1
      refine gc_skip ?_
      refine gk_block ?_
      refine gk_then (hK14 _ _ ?_)
      refine gc_region ?_
      refine g_v (.free rfl) rfl rfl (qt_move rfl rfl) ?_
      refine g_v (.free rfl) rfl rfl (qt_add rfl rfl rfl (by omega)) ?_
      refine g_v (.free rfl) rfl rfl (qt_assign rfl rfl) ?_
      refine g_nil ?_
      rw [fst_f hp (k := k) (by omega) (by assumption)]
      refine gk_then (gk_take 3 ?_)
      refine gk_sub ?hs_21 (hKL11 (k + 1, _, _) ?hi_21 ?hm_21)
      case hs_21 => exact (sub_cons rfl (sub_cons rfl (sub_cons rfl (sub_cons rfl (sub_cons rfl (sub_cons rfl sub_nil))))))
      case hi_21 => omega
      case hm_21 => omega
  · try simp only [decide_eq_true_eq, decide_eq_false_iff_not, Bool.not_eq_true', Bool.not_eq_false', Bool.not_eq_eq_eq_not, Bool.not_true, Bool.not_false, ne_eq, Decidable.not_not, Classical.not_not] at hc0
    refine gc_exit ?_
    refine gk_then_exit ?_
    refine gk_then_exit ?_
    refine gk_block_hit ?_
    refine gk_then (hK9 _ _ ?_)
    refine gc_seq fun K22 hK22 => ?_
    obtain rfl : k = p.length := by omega
    simp only [show lstL p (nC p p.length) = lsC p from rfl]
    refine gc_region ?_
    refine g_v (.free rfl) rfl rfl (qt_field (z := 0) (off := 0) rfl rfl Try.underlying29 rfl (by kernel_rfl) rfl) ?_
    refine g_v (.free rfl) rfl rfl (qt_loadB (n := 0) rfl rfl Try.underlying2 rfl rfl rfl) ?_
    refine g_op (.free rfl) fun K24 hK24 => ?_
    refine go_slice0 rfl rfl rfl Try.underlying22 ?_
    intro B23
    refine hK24 _ _ ?_
    refine g_op (.free rfl) fun K26 hK26 => ?_
    refine go_slice0 rfl rfl rfl Try.underlying22 ?_
    intro B25
    refine hK26 _ _ ?_
    refine g_op (.free rfl) fun K28 hK28 => ?_
    refine go_slice0 rfl rfl rfl Try.underlying22 ?_
    intro B27
    refine hK28 _ _ ?_
    refine g_op (.free rfl) fun K30 hK30 => ?_
    refine go_sliceR0 rfl rfl rfl Try.underlying23 ?_
    intro B29
    refine hK30 _ _ ?_
    refine g_v (.free rfl) rfl rfl (qt_build rfl rfl bt_Category) ?_
    refine g_op (.free rfl) fun K32 hK32 => ?_
    refine go_alloc (z := (.agg #[.int .i64 0, .slice none 0 0, .slice none 0 0, .slice none 0 0, .slice none 0 0])) (cs := [.int .i64 0, .slice none 0 0, .slice none 0 0, .slice none 0 0, .slice none 0 0]) rfl rfl rfl (fun w => by kernel_rfl) rfl ?_
    intro B31
    refine hK32 _ _ ?_
    refine g_op (.free rfl) fun K33 hK33 => ?_
    refine go_storeS (n := 7) rfl rfl rfl rfl (by kernel_rfl) rfl rfl rfl ?_
    refine hK33 _ _ ?_
    refine g_nil ?_
    refine gk_then (hK22 _ _ ?_)
    refine gc_seq fun K34 hK34 => ?_
    refine gc_seq fun K35 hK35 => ?_
    refine gc_region ?_
    refine g_v (.free rfl) rfl rfl (qt_assign rfl rfl) ?_
    refine g_nil ?_
    refine gk_then (hK35 _ _ ?_)
    refine gc_block ?_
    try simp only [List.nil_append, List.cons_append, List.append_assoc, List.set_cons_succ, List.set_cons_zero]
    refine gc_loop ([(0, _), (1, _), (2, _), (4, _), (5, _), (6, _), (7, _), (17, _)] : Env) (fun s : Nat × (Option Addr) × Nat => (fun (x : Nat) (a3 : Option Addr) (q3 : Nat) => ([(8, .int .i64 (x : Int))] : Env)) s.1 s.2.1 s.2.2) (fun s : Nat × (Option Addr) × Nat => (fun (x : Nat) (a3 : Option Addr) (q3 : Nat) => ([(5, own1I (.slice a3 (tabTo (qE c p) x).length q3) (tabTo (qE c p) x)), (7, bxI B31 29 [.int .i64 c.ob, .slice (some ⟨B23, 0, none⟩) 0 0, .slice (some ⟨B25, 0, none⟩) 0 0, .slice a3 (tabTo (qE c p) x).length q3, .slice (some ⟨B29, 0, none⟩) 0 0])] : List (Nat × Itm))) s.1 s.2.1 s.2.2) (fun s : Nat × (Option Addr) × Nat => (fun (x : Nat) (a3 : Option Addr) (q3 : Nat) => x ≤ c.ob.toNat) s.1 s.2.1 s.2.2) (fun s : Nat × (Option Addr) × Nat => (fun (x : Nat) (a3 : Option Addr) (q3 : Nat) => c.ob.toNat - x) s.1 s.2.1 s.2.2) (0, _, _) (sub_cons rfl (sub_cons rfl (sub_cons rfl (sub_cons rfl (sub_cons rfl (sub_cons rfl (sub_cons rfl (sub_cons rfl (sub_cons rfl sub_nil))))))))) rfl (Nat.zero_le _) ?_
    rintro ⟨x, a3, q3⟩ hinv KL36 hKL36
    simp only [updL, List.foldl_cons, List.foldl_nil, List.set_cons_succ, List.set_cons_zero, List.cons_append, List.nil_append] at hinv hKL36 ⊢
    have hx := hinv
    have hl3 := tabTo_len (qE c p) x
    refine gc_seq fun K37 hK37 => ?_
    refine gc_seq fun K38 hK38 => ?_
    refine gc_region ?_
    refine g_v (.free rfl) rfl rfl (qt_move rfl rfl) ?_
    refine g_v (.free rfl) rfl rfl (qt_field (z := 0) (off := 0) rfl rfl Try.underlying29 rfl (by kernel_rfl) rfl) ?_
    refine g_v (.free rfl) rfl rfl (qt_loadB (n := 0) rfl rfl Try.underlying2 rfl rfl rfl) ?_
    refine g_v (.free rfl) rfl rfl (qt_lss rfl rfl rfl) ?_
    refine g_nil ?_
    refine gk_then (hK38 _ _ ?_)
    refine gc_cond rfl (fun hc2 => ?_) (fun hc2 => ?_)
    · try simp only [decide_eq_true_eq, decide_eq_false_iff_not, Bool.not_eq_true', Bool.not_eq_false', Bool.not_eq_eq_eq_not, Bool.not_true, Bool.not_false, ne_eq, Decidable.not_not, Classical.not_not] at hc2
      refine gc_skip ?_
      refine gk_then (hK37 _ _ ?_)
      refine gc_seq fun K39 hK39 => ?_
      refine gc_block ?_
      have i1 := hS.idn (x := (x : Int)) (by omega) (by omega)
      have i2 := i1.1; have i3 := i1.2.1
      try simp only [List.nil_append, List.cons_append, List.append_assoc, List.set_cons_succ, List.set_cons_zero]
      refine ga_start _ (fun w M => mem_erase 5 (mem_erase 7 (M))) ?_
      refine ga_v 0 rfl (by kernel_rfl) (by kernel_rfl) (by kernel_rfl) (.free rfl) rfl rfl (qt_field (z := 0) (off := 3) rfl rfl Try.underlying29 rfl (by kernel_rfl) rfl) (fun _ _ _ h => h) ?_
      refine ga_v 2 rfl (by kernel_rfl) (by kernel_rfl) (by kernel_rfl) (.free rfl) rfl rfl (qt_move rfl rfl) (fun _ _ _ h => h) ?_
      refine ga_v 3 rfl (by kernel_rfl) (by kernel_rfl) (by kernel_rfl) (.free rfl) rfl rfl (qt_field (z := 0) (off := 3) rfl rfl Try.underlying29 rfl (by kernel_rfl) rfl) (fun _ _ _ h => h) ?_
      refine ga_v 4 rfl (by kernel_rfl) (by kernel_rfl) (by kernel_rfl) (.free rfl) rfl rfl (qt_loadB (n := 0) rfl rfl Try.underlying22 rfl rfl rfl) (fun _ _ _ h => h) ?_
      refine ga_v 5 rfl (by kernel_rfl) (by kernel_rfl) (by kernel_rfl) (.free rfl) rfl rfl (qt_move rfl rfl) (fun _ _ _ h => h) ?_
      refine ga_v 6 rfl (by kernel_rfl) (by kernel_rfl) (by kernel_rfl) (.free rfl) rfl rfl (qt_index rfl rfl rfl ulE1 szE1 (fun w M => lenA_rd h3) (by omega) (by omega)) (fun _ _ _ h => h) ?_
      refine ga_v 7 rfl (by kernel_rfl) (by kernel_rfl) (by kernel_rfl) (.free rfl) rfl rfl (qt_load1 rfl rfl Try.underlying2 rfl (fun w M => mem_rd M h3) (by omega) (by omega)) (fun _ _ _ h => h) ?_
      refine ga_v 8 rfl (by kernel_rfl) (by kernel_rfl) (by kernel_rfl) (.free rfl) rfl rfl (qt_index rfl rfl rfl ulE1 szE1 (fun w M => lenA_rd hu) (by omega) (by omega)) (fun _ _ _ h => h) ?_
      refine ga_v 9 rfl (by kernel_rfl) (by kernel_rfl) (by kernel_rfl) (.free rfl) rfl rfl (qt_load1 rfl rfl Try.underlying2 rfl (fun w M => mem_rd M hu) (by omega) (by omega)) (fun _ _ _ h => h) ?_
      refine ga_two 1 10 (by kernel_rfl) rfl rfl (.free rfl) (.free rfl) (fun K40 hK40 => ?_) (fun K40 hK40 => ?_)
      · refine go_v rfl rfl (qt_loadB (n := 7) rfl rfl Try.underlying22 rfl rfl rfl) ?_
        refine hK40 _ _ (fun w M => (mem_erase 5 (mem_erase 7 (mem_take 8 M)) :)) ?_
        refine ga_op 10 (by kernel_rfl) rfl (.free rfl) fun K43 hK43 => ?_
        refine go_slice1 rfl rfl rfl rfl Try.underlying22 ?_
        intro B42
        refine hK43 _ _ (fun w M => (mem_erase 5 (mem_erase 7 (mem_take 8 M)) :)) ?_
        refine ga_op 11 (by kernel_rfl) rfl (.free rfl) fun K45 hK45 => ?_
        refine go_append (n := 5) (m := 8) rfl rfl rfl Try.underlying22 rfl rfl rfl rfl (by omega) ?_
        intro va44 vc44
        refine hK45 _ _ (fun w M => (mem_erase 5 (mem_erase 7 (mem_take 8 M)) :)) ?_
        refine ga_v 12 rfl (by kernel_rfl) (by kernel_rfl) (by kernel_rfl) (.free rfl) rfl rfl (qt_field (z := 0) (off := 3) rfl rfl Try.underlying29 rfl (by kernel_rfl) rfl) (fun _ _ _ h => h) ?_
        refine ga_op 13 (by kernel_rfl) rfl (.free rfl) fun K46 hK46 => ?_
        refine go_storeB (n := 7) rfl rfl rfl rfl (by kernel_rfl) rfl rfl rfl (by first | decide | simp) ?_
        refine hK46 _ _ (fun w M => (mem_erase 5 (mem_erase 7 (mem_take 8 M)) :)) ?_
        refine ga_done (by kernel_rfl) ?_
        refine gk_block ?_
        refine gk_then (hK39 _ _ ?_)
        refine gc_region ?_
        refine g_v (.free rfl) rfl rfl (qt_move rfl rfl) ?_
        refine g_v (.free rfl) rfl rfl (qt_add rfl rfl rfl (by omega)) ?_
        refine g_v (.free rfl) rfl rfl (qt_assign rfl rfl) ?_
        refine g_nil ?_
        rw [qE_def]
        simp only [tabTo_succ]
        refine gk_then (gk_take 8 ?_)
        refine gk_sub ?hs_47 (hKL36 (x + 1, _, _) ?hi_47 ?hm_47)
        case hs_47 => exact (sub_cons rfl (sub_cons rfl (sub_cons rfl (sub_cons rfl (sub_cons rfl (sub_cons rfl (sub_cons rfl (sub_cons rfl (sub_cons rfl sub_nil)))))))))
        case hi_47 => omega
        case hm_47 => omega
      · refine go_slice1 rfl rfl rfl rfl Try.underlying22 ?_
        intro B48
        refine hK40 _ _ (fun w M => (mem_erase 5 (mem_erase 7 (mem_take 8 M)) :)) ?_
        refine ga_op 1 (by kernel_rfl) rfl (.free rfl) fun K50 hK50 => ?_
        refine go_v rfl rfl (qt_loadB (n := 7) rfl rfl Try.underlying22 rfl rfl rfl) ?_
        refine hK50 _ _ (fun w M => (mem_erase 5 (mem_erase 7 (mem_take 8 M)) :)) ?_
        refine ga_op 11 (by kernel_rfl) rfl (.free rfl) fun K52 hK52 => ?_
        refine go_append (n := 5) (m := 8) rfl rfl rfl Try.underlying22 rfl rfl rfl rfl (by omega) ?_
        intro va51 vc51
        refine hK52 _ _ (fun w M => (mem_erase 5 (mem_erase 7 (mem_take 8 M)) :)) ?_
        refine ga_v 12 rfl (by kernel_rfl) (by kernel_rfl) (by kernel_rfl) (.free rfl) rfl rfl (qt_field (z := 0) (off := 3) rfl rfl Try.underlying29 rfl (by kernel_rfl) rfl) (fun _ _ _ h => h) ?_
        refine ga_op 13 (by kernel_rfl) rfl (.free rfl) fun K53 hK53 => ?_
        refine go_storeB (n := 7) rfl rfl rfl rfl (by kernel_rfl) rfl rfl rfl (by first | decide | simp) ?_
        refine hK53 _ _ (fun w M => (mem_erase 5 (mem_erase 7 (mem_take 8 M)) :)) ?_
        refine ga_done (by kernel_rfl) ?_
        refine gk_block ?_
        refine gk_then (hK39 _ _ ?_)
        refine gc_region ?_
        refine g_v (.free rfl) rfl rfl (qt_move rfl rfl) ?_
        refine g_v (.free rfl) rfl rfl (qt_add rfl rfl rfl (by omega)) ?_
        refine g_v (.free rfl) rfl rfl (qt_assign rfl rfl) ?_
        refine g_nil ?_
        rw [qE_def]
        simp only [tabTo_succ]
        refine gk_then (gk_take 8 ?_)
        refine gk_sub ?hs_54 (hKL36 (x + 1, _, _) ?hi_54 ?hm_54)
        case hs_54 => exact (sub_cons rfl (sub_cons rfl (sub_cons rfl (sub_cons rfl (sub_cons rfl (sub_cons rfl (sub_cons rfl (sub_cons rfl (sub_cons rfl sub_nil)))))))))
        case hi_54 => omega
        case hm_54 => omega
    · try simp only [decide_eq_true_eq, decide_eq_false_iff_not, Bool.not_eq_true', Bool.not_eq_false', Bool.not_eq_eq_eq_not, Bool.not_true, Bool.not_false, ne_eq, Decidable.not_not, Classical.not_not] at hc2
      refine gc_exit ?_
      refine gk_then_exit ?_
      refine gk_then_exit ?_
      refine gk_block_hit ?_
      refine gk_then (hK34 _ _ ?_)
      refine gc_seq fun K55 hK55 => ?_
      refine gc_seq fun K56 hK56 => ?_
      obtain rfl : x = c.ob.toNat := by omega
      refine gc_region ?_
      refine g_v (.free rfl) rfl rfl (qt_assign rfl rfl) ?_
      refine g_nil ?_
      refine gk_then (hK56 _ _ ?_)
      refine gc_block ?_
      try simp only [List.nil_append, List.cons_append, List.append_assoc, List.set_cons_succ, List.set_cons_zero]
      refine gc_loop ([(0, _), (1, _), (2, _), (4, _), (5, _), (6, _), (7, _), (8, _), (17, _), (42, _)] : Env) (fun s : Nat × (Option Addr) × Nat × (Option Addr) × Nat × (Option Addr) × Nat × (List Value) => (fun (i : Nat) (a1 : Option Addr) (q1 : Nat) (a2 : Option Addr) (q2 : Nat) (a4 : Option Addr) (q4 : Nat) (us : List Value) => ([(9, .int .i64 (i : Int))] : Env)) s.1 s.2.1 s.2.2.1 s.2.2.2.1 s.2.2.2.2.1 s.2.2.2.2.2.1 s.2.2.2.2.2.2.1 s.2.2.2.2.2.2.2) (fun s : Nat × (Option Addr) × Nat × (Option Addr) × Nat × (Option Addr) × Nat × (List Value) => (fun (i : Nat) (a1 : Option Addr) (q1 : Nat) (a2 : Option Addr) (q2 : Nat) (a4 : Option Addr) (q4 : Nat) (us : List Value) => ([(3, own1I (.slice a1 (tabTo (qS c p) i).length q1) (tabTo (qS c p) i)), (4, own1I (.slice a2 (tabTo (qT c p) i).length q2) (tabTo (qT c p) i)), (6, own2U (.slice a4 (rowsTo (qR c p) i).length q4) us (rowsTo (qR c p) i)), (7, bxI B31 29 [.int .i64 c.ob, .slice a1 (tabTo (qS c p) i).length q1, .slice a2 (tabTo (qT c p) i).length q2, .slice a3 (tabTo (qE c p) c.ob.toNat).length q3, .slice a4 (rowsTo (qR c p) i).length q4])] : List (Nat × Itm))) s.1 s.2.1 s.2.2.1 s.2.2.2.1 s.2.2.2.2.1 s.2.2.2.2.2.1 s.2.2.2.2.2.2.1 s.2.2.2.2.2.2.2) (fun s : Nat × (Option Addr) × Nat × (Option Addr) × Nat × (Option Addr) × Nat × (List Value) => (fun (i : Nat) (a1 : Option Addr) (q1 : Nat) (a2 : Option Addr) (q2 : Nat) (a4 : Option Addr) (q4 : Nat) (us : List Value) => i ≤ mC p) s.1 s.2.1 s.2.2.1 s.2.2.2.1 s.2.2.2.2.1 s.2.2.2.2.2.1 s.2.2.2.2.2.2.1 s.2.2.2.2.2.2.2) (fun s : Nat × (Option Addr) × Nat × (Option Addr) × Nat × (Option Addr) × Nat × (List Value) => (fun (i : Nat) (a1 : Option Addr) (q1 : Nat) (a2 : Option Addr) (q2 : Nat) (a4 : Option Addr) (q4 : Nat) (us : List Value) => mC p - i) s.1 s.2.1 s.2.2.1 s.2.2.2.1 s.2.2.2.2.1 s.2.2.2.2.2.1 s.2.2.2.2.2.2.1 s.2.2.2.2.2.2.2) (0, _, _, _, _, _, _, _) (sub_cons rfl (sub_cons rfl (sub_cons rfl (sub_cons rfl (sub_cons rfl (sub_cons rfl (sub_cons rfl (sub_cons rfl (sub_cons rfl (sub_cons rfl (sub_cons rfl sub_nil))))))))))) rfl (Nat.zero_le _) ?_
      rintro ⟨i, a1, q1, a2, q2, a4, q4, us⟩ hinv KL57 hKL57
      simp only [updL, List.foldl_cons, List.foldl_nil, List.set_cons_succ, List.set_cons_zero, List.cons_append, List.nil_append] at hinv hKL57 ⊢
      have hi := hinv
      have hl4 := tabTo_len (qS c p) i
      have hl5 := tabTo_len (qT c p) i
      have hl6 := rowsTo_len (qR c p) i
      refine gc_seq fun K58 hK58 => ?_
      refine gc_seq fun K59 hK59 => ?_
      refine gc_region ?_
      refine g_v (.free rfl) rfl rfl (qt_move rfl rfl) ?_
      refine g_v (.free rfl) rfl rfl (qt_move rfl rfl) ?_
      refine g_v (.free rfl) rfl rfl (qt_len rfl rfl ulE1 (fun w M => lenV_own1 (n := 2) rfl M)) ?_
      refine g_v (.free rfl) rfl rfl (qt_lss rfl rfl rfl) ?_
      refine g_nil ?_
      refine gk_then (hK59 _ _ ?_)
      refine gc_cond rfl (fun hc3 => ?_) (fun hc3 => ?_)
      · try simp only [decide_eq_true_eq, decide_eq_false_iff_not, Bool.not_eq_true', Bool.not_eq_false', Bool.not_eq_eq_eq_not, Bool.not_true, Bool.not_false, ne_eq, Decidable.not_not, Classical.not_not] at hc3
        refine gc_skip ?_
        refine gk_then (hK58 _ _ ?_)
        refine gc_seq fun K60 hK60 => ?_
        refine gc_block ?_
        refine gc_seq fun K61 hK61 => ?_
        have l1 := ls_atI hp (k := (i : Int)) (by omega) (by omega)
        have l2 := l1.1; have l3 := l1.2.1
        try simp only [List.nil_append, List.cons_append, List.append_assoc, List.set_cons_succ, List.set_cons_zero]
        refine ga_start _ (fun w M => mem_erase 3 (mem_erase 7 (M))) ?_
        refine ga_v 0 rfl (by kernel_rfl) (by kernel_rfl) (by kernel_rfl) (.free rfl) rfl rfl (qt_field (z := 0) (off := 1) rfl rfl Try.underlying29 rfl (by kernel_rfl) rfl) (fun _ _ _ h => h) ?_
        refine ga_v 2 rfl (by kernel_rfl) (by kernel_rfl) (by kernel_rfl) (.free rfl) rfl rfl (qt_field (z := 0) (off := 1) rfl rfl Try.underlying29 rfl (by kernel_rfl) rfl) (fun _ _ _ h => h) ?_
        refine ga_v 3 rfl (by kernel_rfl) (by kernel_rfl) (by kernel_rfl) (.free rfl) rfl rfl (qt_loadB (n := 0) rfl rfl Try.underlying22 rfl rfl rfl) (fun _ _ _ h => h) ?_
        refine ga_v 4 rfl (by kernel_rfl) (by kernel_rfl) (by kernel_rfl) (.free rfl) rfl rfl (qt_move rfl rfl) (fun _ _ _ h => h) ?_
        refine ga_v 5 rfl (by kernel_rfl) (by kernel_rfl) (by kernel_rfl) (.free rfl) rfl rfl (qt_move rfl rfl) (fun _ _ _ h => h) ?_
        refine ga_v 6 rfl (by kernel_rfl) (by kernel_rfl) (by kernel_rfl) (.free rfl) rfl rfl (qt_index rfl rfl rfl ulE1 szE1 (fun w M => lenA_own1 (n := 2) rfl M) (by omega) (by omega)) (fun _ _ _ h => h) ?_
        refine ga_v 7 rfl (by kernel_rfl) (by kernel_rfl) (by kernel_rfl) (.free rfl) rfl rfl (qt_load1 rfl rfl Try.underlying2 rfl (fun w M => (mem_own1 (n := 2) M rfl).rd) (by omega) (by omega)) (fun _ _ _ h => h) ?_
        refine ga_v 8 rfl (by kernel_rfl) (by kernel_rfl) (by kernel_rfl) (.free rfl) rfl rfl (qt_index rfl rfl rfl ulE1 szE1 (fun w M => lenA_rd h1) (by omega) (by omega)) (fun _ _ _ h => h) ?_
        refine ga_v 9 rfl (by kernel_rfl) (by kernel_rfl) (by kernel_rfl) (.free rfl) rfl rfl (qt_load1 rfl rfl Try.underlying2 rfl (fun w M => mem_rd M h1) (by omega) (by omega)) (fun _ _ _ h => h) ?_
        refine ga_two 1 10 (by kernel_rfl) rfl rfl (.free rfl) (.free rfl) (fun K62 hK62 => ?_) (fun K62 hK62 => ?_)
        · refine go_v rfl rfl (qt_loadB (n := 7) rfl rfl Try.underlying22 rfl rfl rfl) ?_
          refine hK62 _ _ (fun w M => (mem_erase 3 (mem_erase 7 (mem_take 8 M)) :)) ?_
          refine ga_op 10 (by kernel_rfl) rfl (.free rfl) fun K65 hK65 => ?_
          refine go_slice1 rfl rfl rfl rfl Try.underlying22 ?_
          intro B64
          refine hK65 _ _ (fun w M => (mem_erase 3 (mem_erase 7 (mem_take 8 M)) :)) ?_
          refine ga_op 11 (by kernel_rfl) rfl (.free rfl) fun K67 hK67 => ?_
          refine go_append (n := 3) (m := 8) rfl rfl rfl Try.underlying22 rfl rfl rfl rfl (by omega) ?_
          intro va66 vc66
          refine hK67 _ _ (fun w M => (mem_erase 3 (mem_erase 7 (mem_take 8 M)) :)) ?_
          refine ga_v 12 rfl (by kernel_rfl) (by kernel_rfl) (by kernel_rfl) (.free rfl) rfl rfl (qt_field (z := 0) (off := 1) rfl rfl Try.underlying29 rfl (by kernel_rfl) rfl) (fun _ _ _ h => h) ?_
          refine ga_op 13 (by kernel_rfl) rfl (.free rfl) fun K68 hK68 => ?_
          refine go_storeB (n := 7) rfl rfl rfl rfl (by kernel_rfl) rfl rfl rfl (by first | decide | simp) ?_
          refine hK68 _ _ (fun w M => (mem_erase 3 (mem_erase 7 (mem_take 8 M)) :)) ?_
          refine ga_done (by kernel_rfl) ?_
          refine gk_then (hK61 _ _ ?_)
          refine gc_seq fun K69 hK69 => ?_
          try simp only [List.nil_append, List.cons_append, List.append_assoc, List.set_cons_succ, List.set_cons_zero]
          refine ga_start _ (fun w M => mem_erase 4 (mem_erase 7 (M))) ?_
          refine ga_v 0 rfl (by kernel_rfl) (by kernel_rfl) (by kernel_rfl) (.free rfl) rfl rfl (qt_field (z := 0) (off := 2) rfl rfl Try.underlying29 rfl (by kernel_rfl) rfl) (fun _ _ _ h => h) ?_
          refine ga_v 2 rfl (by kernel_rfl) (by kernel_rfl) (by kernel_rfl) (.free rfl) rfl rfl (qt_field (z := 0) (off := 2) rfl rfl Try.underlying29 rfl (by kernel_rfl) rfl) (fun _ _ _ h => h) ?_
          refine ga_v 3 rfl (by kernel_rfl) (by kernel_rfl) (by kernel_rfl) (.free rfl) rfl rfl (qt_loadB (n := 0) rfl rfl Try.underlying22 rfl rfl rfl) (fun _ _ _ h => h) ?_
          refine ga_v 4 rfl (by kernel_rfl) (by kernel_rfl) (by kernel_rfl) (.free rfl) rfl rfl (qt_move rfl rfl) (fun _ _ _ h => h) ?_
          refine ga_v 5 rfl (by kernel_rfl) (by kernel_rfl) (by kernel_rfl) (.free rfl) rfl rfl (qt_move rfl rfl) (fun _ _ _ h => h) ?_
          refine ga_v 6 rfl (by kernel_rfl) (by kernel_rfl) (by kernel_rfl) (.free rfl) rfl rfl (qt_index rfl rfl rfl ulE1 szE1 (fun w M => lenA_own1 (n := 2) rfl M) (by omega) (by omega)) (fun _ _ _ h => h) ?_
          refine ga_v 7 rfl (by kernel_rfl) (by kernel_rfl) (by kernel_rfl) (.free rfl) rfl rfl (qt_load1 rfl rfl Try.underlying2 rfl (fun w M => (mem_own1 (n := 2) M rfl).rd) (by omega) (by omega)) (fun _ _ _ h => h) ?_
          refine ga_v 8 rfl (by kernel_rfl) (by kernel_rfl) (by kernel_rfl) (.free rfl) rfl rfl (qt_index rfl rfl rfl ulE1 szE1 (fun w M => lenA_rd h2) (by omega) (by omega)) (fun _ _ _ h => h) ?_
          refine ga_v 9 rfl (by kernel_rfl) (by kernel_rfl) (by kernel_rfl) (.free rfl) rfl rfl (qt_load1 rfl rfl Try.underlying2 rfl (fun w M => mem_rd M h2) (by omega) (by omega)) (fun _ _ _ h => h) ?_
          refine ga_two 1 10 (by kernel_rfl) rfl rfl (.free rfl) (.free rfl) (fun K70 hK70 => ?_) (fun K70 hK70 => ?_)
          · refine go_v rfl rfl (qt_loadB (n := 7) rfl rfl Try.underlying22 rfl rfl rfl) ?_
            refine hK70 _ _ (fun w M => (mem_erase 4 (mem_erase 7 (mem_take 9 M)) :)) ?_
            refine ga_op 10 (by kernel_rfl) rfl (.free rfl) fun K73 hK73 => ?_
            refine go_slice1 rfl rfl rfl rfl Try.underlying22 ?_
            intro B72
            refine hK73 _ _ (fun w M => (mem_erase 4 (mem_erase 7 (mem_take 9 M)) :)) ?_
            refine ga_op 11 (by kernel_rfl) rfl (.free rfl) fun K75 hK75 => ?_
            refine go_append (n := 4) (m := 9) rfl rfl rfl Try.underlying22 rfl rfl rfl rfl (by omega) ?_
            intro va74 vc74
            refine hK75 _ _ (fun w M => (mem_erase 4 (mem_erase 7 (mem_take 9 M)) :)) ?_
            refine ga_v 12 rfl (by kernel_rfl) (by kernel_rfl) (by kernel_rfl) (.free rfl) rfl rfl (qt_field (z := 0) (off := 2) rfl rfl Try.underlying29 rfl (by kernel_rfl) rfl) (fun _ _ _ h => h) ?_
            refine ga_op 13 (by kernel_rfl) rfl (.free rfl) fun K76 hK76 => ?_
            refine go_storeB (n := 7) rfl rfl rfl rfl (by kernel_rfl) rfl rfl rfl (by first | decide | simp) ?_
            refine hK76 _ _ (fun w M => (mem_erase 4 (mem_erase 7 (mem_take 9 M)) :)) ?_
            refine ga_done (by kernel_rfl) ?_
            refine gk_then (hK69 _ _ ?_)
            refine gc_seq fun K77 hK77 => ?_
            refine gc_region ?_
            refine g_op (.free rfl) fun K79 hK79 => ?_
            refine go_slice0 rfl rfl rfl Try.underlying22 ?_
            intro B78
            refine hK79 _ _ ?_
            refine g_v (.free rfl) rfl rfl (qt_assign rfl rfl) ?_
            refine g_nil ?_
            refine gk_then (hK77 _ _ ?_)
            refine gc_seq fun K80 hK80 => ?_
            refine gc_seq fun K81 hK81 => ?_
            refine gc_region ?_
            refine g_v (.free rfl) rfl rfl (qt_assign rfl rfl) ?_
            refine g_nil ?_
            refine gk_then (hK81 _ _ ?_)
            refine gc_block ?_
            try simp only [List.nil_append, List.cons_append, List.append_assoc, List.set_cons_succ, List.set_cons_zero]
            refine gc_loop ([(0, _), (1, _), (2, _), (4, _), (5, _), (6, _), (7, _), (8, _), (9, _), (17, _), (42, _), (61, _)] : Env) (fun s : Nat × (Option Addr) × Nat => (fun (j : Nat) (z : Option Addr) (r : Nat) => ([(10, .slice z (tabTo (fun j => qM c p (at0 (lsC p) (i : Int)) (at0 (lsC p) (j : Int))) j).length r), (11, .int .i64 (j : Int))] : Env)) s.1 s.2.1 s.2.2) (fun s : Nat × (Option Addr) × Nat => (fun (j : Nat) (z : Option Addr) (r : Nat) => ([(10, own1I (.slice z (tabTo (fun j => qM c p (at0 (lsC p) (i : Int)) (at0 (lsC p) (j : Int))) j).length r) (tabTo (fun j => qM c p (at0 (lsC p) (i : Int)) (at0 (lsC p) (j : Int))) j))] : List (Nat × Itm))) s.1 s.2.1 s.2.2) (fun s : Nat × (Option Addr) × Nat => (fun (j : Nat) (z : Option Addr) (r : Nat) => j ≤ mC p) s.1 s.2.1 s.2.2) (fun s : Nat × (Option Addr) × Nat => (fun (j : Nat) (z : Option Addr) (r : Nat) => mC p - j) s.1 s.2.1 s.2.2) (0, _, _) (sub_cons rfl (sub_cons rfl (sub_cons rfl (sub_cons rfl (sub_cons rfl (sub_cons rfl (sub_cons rfl (sub_cons rfl (sub_cons rfl (sub_cons rfl (sub_cons rfl (sub_cons rfl (sub_cons rfl (sub_cons rfl sub_nil)))))))))))))) rfl (Nat.zero_le _) ?_
            rintro ⟨j, z, r⟩ hinv KL82 hKL82
            simp only [updL, List.foldl_cons, List.foldl_nil, List.set_cons_succ, List.set_cons_zero, List.cons_append, List.nil_append] at hinv hKL82 ⊢
            have hj := hinv
            have hl7 := tabTo_len (fun j => qM c p (at0 (lsC p) (i : Int)) (at0 (lsC p) (j : Int))) j
            refine gc_seq fun K83 hK83 => ?_
            refine gc_seq fun K84 hK84 => ?_
            refine gc_region ?_
            refine g_v (.free rfl) rfl rfl (qt_move rfl rfl) ?_
            refine g_v (.free rfl) rfl rfl (qt_move rfl rfl) ?_
            refine g_v (.free rfl) rfl rfl (qt_len rfl rfl ulE1 (fun w M => lenV_own1 (n := 2) rfl M)) ?_
            refine g_v (.free rfl) rfl rfl (qt_lss rfl rfl rfl) ?_
            refine g_nil ?_
            refine gk_then (hK84 _ _ ?_)
            refine gc_cond rfl (fun hc4 => ?_) (fun hc4 => ?_)
            · try simp only [decide_eq_true_eq, decide_eq_false_iff_not, Bool.not_eq_true', Bool.not_eq_false', Bool.not_eq_eq_eq_not, Bool.not_true, Bool.not_false, ne_eq, Decidable.not_not, Classical.not_not] at hc4
              refine gc_skip ?_
              refine gk_then (hK83 _ _ ?_)
              refine gc_seq fun K85 hK85 => ?_
              refine gc_block ?_
              refine gc_seq fun K86 hK86 => ?_
              have l1 := ls_atI hp (k := (i : Int)) (by omega) (by omega)
              have l2 := l1.1; have l3 := l1.2.1
              have m1 := ls_atI hp (k := (j : Int)) (by omega) (by omega)
              have m2 := m1.1; have m3 := m1.2.1
              have G := arrP hS (f := at0 (lsC p) (i : Int)) (by omega) (by omega)
              have g1 := G.fm; have g2 := G.row
              refine gc_draw (by kernel_rfl) ?_
              refine gd_v (.free rfl) rfl rfl (qt_field (z := 0) (off := 4) rfl rfl Try.underlying29 rfl (by kernel_rfl) rfl) ?_
              refine gd_v (.free rfl) rfl rfl (qt_loadB (n := 0) rfl rfl Try.underlying23 rfl rfl rfl) ?_
              refine gd_v (.free rfl) rfl rfl (qt_move rfl rfl) ?_
              refine gd_v (.free rfl) rfl rfl (qt_move rfl rfl) ?_
              refine gd_v (.free rfl) rfl rfl (qt_index rfl rfl rfl ulE1 szE1 (fun w M => lenA_own1 (n := 2) rfl M) (by omega) (by omega)) ?_
              refine gd_v (.free rfl) rfl rfl (qt_load1 rfl rfl Try.underlying2 rfl (fun w M => (mem_own1 (n := 2) M rfl).rd) (by omega) (by omega)) ?_
              refine gd_v (.free rfl) rfl rfl (qt_index rfl rfl rfl ulE2 szE2 (fun w M => lenA_rd2 h4) (by omega) (by omega)) ?_
              refine gd_load2 (.free rfl) rfl rfl rfl rfl Try.underlying22 rfl h4 (by omega) (by omega) ?_
              intro ra87 rc87 hr87
              refine gd_v (.free rfl) rfl rfl (qt_move rfl rfl) ?_
              refine gd_v (.free rfl) rfl rfl (qt_move rfl rfl) ?_
              refine gd_v (.free rfl) rfl rfl (qt_index rfl rfl rfl ulE1 szE1 (fun w M => lenA_own1 (n := 2) rfl M) (by omega) (by omega)) ?_
              refine gd_v (.free rfl) rfl rfl (qt_load1 rfl rfl Try.underlying2 rfl (fun w M => (mem_own1 (n := 2) M rfl).rd) (by omega) (by omega)) ?_
              refine gd_v (.free rfl) rfl rfl (qt_index rfl rfl rfl ulE1 szE1 (fun w M => lenA_rd hr87) (by omega) (by omega)) ?_
              refine gd_v (.free rfl) rfl rfl (qt_load1 rfl rfl Try.underlying2 rfl (fun w M => mem_rd M hr87) (by omega) (by omega)) ?_
              refine gd_v (.free rfl) rfl rfl (qt_assign rfl rfl) ?_
              refine gd_nil ?_
              refine gk_then (hK86 _ _ ?_)
              refine gc_seq fun K88 hK88 => ?_
              refine gc_seq fun K89 hK89 => ?_
              refine gc_region ?_
              refine g_v (.free rfl) rfl rfl (qt_move rfl rfl) ?_
              refine g_v (.free rfl) rfl rfl (qt_geq rfl rfl rfl) ?_
              refine g_nil ?_
              refine gk_then (hK89 _ _ ?_)
              refine gc_cond rfl (fun hc5 => ?_) (fun hc5 => ?_)
              · try simp only [decide_eq_true_eq, decide_eq_false_iff_not, Bool.not_eq_true', Bool.not_eq_false', Bool.not_eq_eq_eq_not, Bool.not_true, Bool.not_false, ne_eq, Decidable.not_not, Classical.not_not] at hc5
                have t1 := th_ltI hS (f := at0 (lsC p) (i : Int)) (g := at0 (lsC p) (j : Int)) (by omega) (by omega) (by omega) (by omega)
                refine gc_region ?_
                refine g_v (.free rfl) rfl rfl (qt_move rfl rfl) ?_
                refine g_v (.free rfl) rfl rfl (qt_move rfl rfl) ?_
                refine g_v (.free rfl) rfl rfl (qt_index rfl rfl rfl ulE1 szE1 (fun w M => lenA_rd hu) (by omega) (by omega)) ?_
                refine g_v (.free rfl) rfl rfl (qt_load1 rfl rfl Try.underlying2 rfl (fun w M => mem_rd M hu) (by omega) (by omega)) ?_
                refine g_v (.free rfl) rfl rfl (qt_assign rfl rfl) ?_
                refine g_nil ?_
                refine gk_then (hK88 _ _ ?_)
                refine gc_region ?_
                refine g_v (.free rfl) rfl rfl (qt_move rfl rfl) ?_
                refine g_v (.free rfl) rfl rfl (qt_move rfl rfl) ?_
                refine g_op (.free rfl) fun K91 hK91 => ?_
                refine go_slice1 rfl rfl rfl rfl Try.underlying22 ?_
                intro B90
                refine hK91 _ _ ?_
                refine g_op (.free rfl) fun K93 hK93 => ?_
                refine go_append (n := 10) (m := 11) rfl rfl rfl Try.underlying22 rfl rfl rfl rfl (by omega) ?_
                intro va92 vc92
                refine hK93 _ _ ?_
                refine g_v (.free rfl) rfl rfl (qt_assign rfl rfl) ?_
                refine g_nil ?_
                refine gk_block ?_
                refine gk_then (hK85 _ _ ?_)
                refine gc_region ?_
                refine g_v (.free rfl) rfl rfl (qt_move rfl rfl) ?_
                refine g_v (.free rfl) rfl rfl (qt_add rfl rfl rfl (by omega)) ?_
                refine g_v (.free rfl) rfl rfl (qt_assign rfl rfl) ?_
                refine g_nil ?_
                rw [qM_t (c := c) (p := p) (f := at0 (lsC p) (i : Int)) (g := at0 (lsC p) (j : Int)) (by assumption)]
                simp only [tabTo_succ]
                refine gk_then (gk_take 11 ?_)
                refine gk_sub ?hs_94 (hKL82 (j + 1, _, _) ?hi_94 ?hm_94)
                case hs_94 => exact (sub_cons rfl (sub_cons rfl (sub_cons rfl (sub_cons rfl (sub_cons rfl (sub_cons rfl (sub_cons rfl (sub_cons rfl (sub_cons rfl (sub_cons rfl (sub_cons rfl (sub_cons rfl (sub_cons rfl (sub_cons rfl sub_nil))))))))))))))
                case hi_94 => omega
                case hm_94 => omega
              · try simp only [decide_eq_true_eq, decide_eq_false_iff_not, Bool.not_eq_true', Bool.not_eq_false', Bool.not_eq_eq_eq_not, Bool.not_true, Bool.not_false, ne_eq, Decidable.not_not, Classical.not_not] at hc5
                refine gc_skip ?_
                refine gk_then (hK88 _ _ ?_)
                refine gc_region ?_
                refine g_v (.free rfl) rfl rfl (qt_move rfl rfl) ?_
                refine g_v (.free rfl) rfl rfl (qt_move rfl rfl) ?_
                refine g_op (.free rfl) fun K96 hK96 => ?_
                refine go_slice1 rfl rfl rfl rfl Try.underlying22 ?_
                intro B95
                refine hK96 _ _ ?_
                refine g_op (.free rfl) fun K98 hK98 => ?_
                refine go_append (n := 10) (m := 11) rfl rfl rfl Try.underlying22 rfl rfl rfl rfl (by omega) ?_
                intro va97 vc97
                refine hK98 _ _ ?_
                refine g_v (.free rfl) rfl rfl (qt_assign rfl rfl) ?_
                refine g_nil ?_
                refine gk_block ?_
                refine gk_then (hK85 _ _ ?_)
                refine gc_region ?_
                refine g_v (.free rfl) rfl rfl (qt_move rfl rfl) ?_
                refine g_v (.free rfl) rfl rfl (qt_add rfl rfl rfl (by omega)) ?_
                refine g_v (.free rfl) rfl rfl (qt_assign rfl rfl) ?_
                refine g_nil ?_
                rw [qM_f (c := c) (p := p) (f := at0 (lsC p) (i : Int)) (g := at0 (lsC p) (j : Int)) (by omega)]
                simp only [tabTo_succ]
                refine gk_then (gk_take 11 ?_)
                refine gk_sub ?hs_99 (hKL82 (j + 1, _, _) ?hi_99 ?hm_99)
                case hs_99 => exact (sub_cons rfl (sub_cons rfl (sub_cons rfl (sub_cons rfl (sub_cons rfl (sub_cons rfl (sub_cons rfl (sub_cons rfl (sub_cons rfl (sub_cons rfl (sub_cons rfl (sub_cons rfl (sub_cons rfl (sub_cons rfl sub_nil))))))))))))))
                case hi_99 => omega
                case hm_99 => omega
            · try simp only [decide_eq_true_eq, decide_eq_false_iff_not, Bool.not_eq_true', Bool.not_eq_false', Bool.not_eq_eq_eq_not, Bool.not_true, Bool.not_false, ne_eq, Decidable.not_not, Classical.not_not] at hc4
              refine gc_exit ?_
              refine gk_then_exit ?_
              refine gk_then_exit ?_
              refine gk_block_hit ?_
              refine gk_then (hK80 _ _ ?_)
              refine gc_region ?_
              refine g_v (.free rfl) rfl rfl (qt_field (z := 0) (off := 4) rfl rfl Try.underlying29 rfl (by kernel_rfl) rfl) ?_
              refine g_v (.free rfl) rfl rfl (qt_loadB (n := 7) rfl rfl Try.underlying23 rfl rfl rfl) ?_
              refine g_v (.free rfl) rfl rfl (qt_move rfl rfl) ?_
              refine g_op (.free rfl) fun K101 hK101 => ?_
              refine go_sliceR1 (m := 10) rfl rfl rfl rfl Try.underlying23 rfl ?_
              intro B100
              refine hK101 _ _ ?_
              refine g_op (.free rfl) fun K103 hK103 => ?_
              refine go_appendRow (n := 6) (m := 10) (m' := 9) rfl rfl rfl Try.underlying23 rfl rfl rfl rfl rfl (by omega) ?_
              intro va102 vc102
              refine hK103 _ _ ?_
              refine g_v (.free rfl) rfl rfl (qt_field (z := 0) (off := 4) rfl rfl Try.underlying29 rfl (by kernel_rfl) rfl) ?_
              refine g_op (.free rfl) fun K104 hK104 => ?_
              refine go_storeB (n := 7) rfl rfl rfl rfl (by kernel_rfl) rfl rfl rfl (by first | decide | simp) ?_
              refine hK104 _ _ ?_
              refine g_nil ?_
              refine gk_block ?_
              refine gk_then (hK60 _ _ ?_)
              refine gc_region ?_
              refine g_v (.free rfl) rfl rfl (qt_move rfl rfl) ?_
              refine g_v (.free rfl) rfl rfl (qt_add rfl rfl rfl (by omega)) ?_
              refine g_v (.free rfl) rfl rfl (qt_assign rfl rfl) ?_
              refine g_nil ?_
              obtain rfl : j = mC p := by omega
              rw [qR_def, qS_def, qT_def]
              simp only [tabTo_succ, rowsTo_succ]
              refine gk_then (gk_take 8 ?_)
              refine gk_sub ?hs_105 (hKL57 (i + 1, _, _, _, _, _, _, _) ?hi_105 ?hm_105)
              case hs_105 => exact (sub_cons rfl (sub_cons rfl (sub_cons rfl (sub_cons rfl (sub_cons rfl (sub_cons rfl (sub_cons rfl (sub_cons rfl (sub_cons rfl (sub_cons rfl (sub_cons rfl sub_nil)))))))))))
              case hi_105 => omega
              case hm_105 => omega
          · refine go_slice1 rfl rfl rfl rfl Try.underlying22 ?_
            intro B106
            refine hK70 _ _ (fun w M => (mem_erase 4 (mem_erase 7 (mem_take 9 M)) :)) ?_
            refine ga_op 1 (by kernel_rfl) rfl (.free rfl) fun K108 hK108 => ?_
            refine go_v rfl rfl (qt_loadB (n := 7) rfl rfl Try.underlying22 rfl rfl rfl) ?_
            refine hK108 _ _ (fun w M => (mem_erase 4 (mem_erase 7 (mem_take 9 M)) :)) ?_
            refine ga_op 11 (by kernel_rfl) rfl (.free rfl) fun K110 hK110 => ?_
            refine go_append (n := 4) (m := 9) rfl rfl rfl Try.underlying22 rfl rfl rfl rfl (by omega) ?_
            intro va109 vc109
            refine hK110 _ _ (fun w M => (mem_erase 4 (mem_erase 7 (mem_take 9 M)) :)) ?_
            refine ga_v 12 rfl (by kernel_rfl) (by kernel_rfl) (by kernel_rfl) (.free rfl) rfl rfl (qt_field (z := 0) (off := 2) rfl rfl Try.underlying29 rfl (by kernel_rfl) rfl) (fun _ _ _ h => h) ?_
            refine ga_op 13 (by kernel_rfl) rfl (.free rfl) fun K111 hK111 => ?_
            refine go_storeB (n := 7) rfl rfl rfl rfl (by kernel_rfl) rfl rfl rfl (by first | decide | simp) ?_
            refine hK111 _ _ (fun w M => (mem_erase 4 (mem_erase 7 (mem_take 9 M)) :)) ?_
            refine ga_done (by kernel_rfl) ?_
            refine gk_then (hK69 _ _ ?_)
            refine gc_seq fun K112 hK112 => ?_
            refine gc_region ?_
            refine g_op (.free rfl) fun K114 hK114 => ?_
            refine go_slice0 rfl rfl rfl Try.underlying22 ?_
            intro B113
            refine hK114 _ _ ?_
            refine g_v (.free rfl) rfl rfl (qt_assign rfl rfl) ?_
            refine g_nil ?_
            refine gk_then (hK112 _ _ ?_)
            refine gc_seq fun K115 hK115 => ?_
            refine gc_seq fun K116 hK116 => ?_
            refine gc_region ?_
            refine g_v (.free rfl) rfl rfl (qt_assign rfl rfl) ?_
            refine g_nil ?_
            refine gk_then (hK116 _ _ ?_)
            refine gc_block ?_
            try simp only [List.nil_append, List.cons_append, List.append_assoc, List.set_cons_succ, List.set_cons_zero]
            refine gc_loop ([(0, _), (1, _), (2, _), (4, _), (5, _), (6, _), (7, _), (8, _), (9, _), (17, _), (42, _), (61, _)] : Env) (fun s : Nat × (Option Addr) × Nat => (fun (j : Nat) (z : Option Addr) (r : Nat) => ([(10, .slice z (tabTo (fun j => qM c p (at0 (lsC p) (i : Int)) (at0 (lsC p) (j : Int))) j).length r), (11, .int .i64 (j : Int))] : Env)) s.1 s.2.1 s.2.2) (fun s : Nat × (Option Addr) × Nat => (fun (j : Nat) (z : Option Addr) (r : Nat) => ([(10, own1I (.slice z (tabTo (fun j => qM c p (at0 (lsC p) (i : Int)) (at0 (lsC p) (j : Int))) j).length r) (tabTo (fun j => qM c p (at0 (lsC p) (i : Int)) (at0 (lsC p) (j : Int))) j))] : List (Nat × Itm))) s.1 s.2.1 s.2.2) (fun s : Nat × (Option Addr) × Nat => (fun (j : Nat) (z : Option Addr) (r : Nat) => j ≤ mC p) s.1 s.2.1 s.2.2) (fun s : Nat × (Option Addr) × Nat => (fun (j : Nat) (z : Option Addr) (r : Nat) => mC p - j) s.1 s.2.1 s.2.2) (0, _, _) (sub_cons rfl (sub_cons rfl (sub_cons rfl (sub_cons rfl (sub_cons rfl (sub_cons rfl (sub_cons rfl (sub_cons rfl (sub_cons rfl (sub_cons rfl (sub_cons rfl (sub_cons rfl (sub_cons rfl (sub_cons rfl sub_nil)))))))))))))) rfl (Nat.zero_le _) ?_
            rintro ⟨j, z, r⟩ hinv KL117 hKL117
            simp only [updL, List.foldl_cons, List.foldl_nil, List.set_cons_succ, List.set_cons_zero, List.cons_append, List.nil_append] at hinv hKL117 ⊢
            have hj := hinv
            have hl7 := tabTo_len (fun j => qM c p (at0 (lsC p) (i : Int)) (at0 (lsC p) (j : Int))) j
            refine gc_seq fun K118 hK118 => ?_
            refine gc_seq fun K119 hK119 => ?_
            refine gc_region ?_
            refine g_v (.free rfl) rfl rfl (qt_move rfl rfl) ?_
            refine g_v (.free rfl) rfl rfl (qt_move rfl rfl) ?_
            refine g_v (.free rfl) rfl rfl (qt_len rfl rfl ulE1 (fun w M => lenV_own1 (n := 2) rfl M)) ?_
            refine g_v (.free rfl) rfl rfl (qt_lss rfl rfl rfl) ?_
            refine g_nil ?_
            refine gk_then (hK119 _ _ ?_)
            refine gc_cond rfl (fun hc6 => ?_) (fun hc6 => ?_)
            · try simp only [decide_eq_true_eq, decide_eq_false_iff_not, Bool.not_eq_true', Bool.not_eq_false', Bool.not_eq_eq_eq_not, Bool.not_true, Bool.not_false, ne_eq, Decidable.not_not, Classical.not_not] at hc6
              refine gc_skip ?_
              refine gk_then (hK118 _ _ ?_)
              refine gc_seq fun K120 hK120 => ?_
              refine gc_block ?_
              refine gc_seq fun K121 hK121 => ?_
              have l1 := ls_atI hp (k := (i : Int)) (by omega) (by omega)
              have l2 := l1.1; have l3 := l1.2.1
              have m1 := ls_atI hp (k := (j : Int)) (by omega) (by omega)
              have m2 := m1.1; have m3 := m1.2.1
              have G := arrP hS (f := at0 (lsC p) (i : Int)) (by omega) (by omega)
              have g1 := G.fm; have g2 := G.row
              refine gc_draw (by kernel_rfl) ?_
              refine gd_v (.free rfl) rfl rfl (qt_field (z := 0) (off := 4) rfl rfl Try.underlying29 rfl (by kernel_rfl) rfl) ?_
              refine gd_v (.free rfl) rfl rfl (qt_loadB (n := 0) rfl rfl Try.underlying23 rfl rfl rfl) ?_
              refine gd_v (.free rfl) rfl rfl (qt_move rfl rfl) ?_
              refine gd_v (.free rfl) rfl rfl (qt_move rfl rfl) ?_
              refine gd_v (.free rfl) rfl rfl (qt_index rfl rfl rfl ulE1 szE1 (fun w M => lenA_own1 (n := 2) rfl M) (by omega) (by omega)) ?_
              refine gd_v (.free rfl) rfl rfl (qt_load1 rfl rfl Try.underlying2 rfl (fun w M => (mem_own1 (n := 2) M rfl).rd) (by omega) (by omega)) ?_
              refine gd_v (.free rfl) rfl rfl (qt_index rfl rfl rfl ulE2 szE2 (fun w M => lenA_rd2 h4) (by omega) (by omega)) ?_
              refine gd_load2 (.free rfl) rfl rfl rfl rfl Try.underlying22 rfl h4 (by omega) (by omega) ?_
              intro ra122 rc122 hr122
              refine gd_v (.free rfl) rfl rfl (qt_move rfl rfl) ?_
              refine gd_v (.free rfl) rfl rfl (qt_move rfl rfl) ?_
              refine gd_v (.free rfl) rfl rfl (qt_index rfl rfl rfl ulE1 szE1 (fun w M => lenA_own1 (n := 2) rfl M) (by omega) (by omega)) ?_
              refine gd_v (.free rfl) rfl rfl (qt_load1 rfl rfl Try.underlying2 rfl (fun w M => (mem_own1 (n := 2) M rfl).rd) (by omega) (by omega)) ?_
              refine gd_v (.free rfl) rfl rfl (qt_index rfl rfl rfl ulE1 szE1 (fun w M => lenA_rd hr122) (by omega) (by omega)) ?_
              refine gd_v (.free rfl) rfl rfl (qt_load1 rfl rfl Try.underlying2 rfl (fun w M => mem_rd M hr122) (by omega) (by omega)) ?_
              refine gd_v (.free rfl) rfl rfl (qt_assign rfl rfl) ?_
              refine gd_nil ?_
              refine gk_then (hK121 _ _ ?_)
              refine gc_seq fun K123 hK123 => ?_
              refine gc_seq fun K124 hK124 => ?_
              refine gc_region ?_
              refine g_v (.free rfl) rfl rfl (qt_move rfl rfl) ?_
              refine g_v (.free rfl) rfl rfl (qt_geq rfl rfl rfl) ?_
              refine g_nil ?_
              refine gk_then (hK124 _ _ ?_)
              refine gc_cond rfl (fun hc7 => ?_) (fun hc7 => ?_)
              · try simp only [decide_eq_true_eq, decide_eq_false_iff_not, Bool.not_eq_true', Bool.not_eq_false', Bool.not_eq_eq_eq_not, Bool.not_true, Bool.not_false, ne_eq, Decidable.not_not, Classical.not_not] at hc7
                have t1 := th_ltI hS (f := at0 (lsC p) (i : Int)) (g := at0 (lsC p) (j : Int)) (by omega) (by omega) (by omega) (by omega)
                refine gc_region ?_
                refine g_v (.free rfl) rfl rfl (qt_move rfl rfl) ?_
                refine g_v (.free rfl) rfl rfl (qt_move rfl rfl) ?_
                refine g_v (.free rfl) rfl rfl (qt_index rfl rfl rfl ulE1 szE1 (fun w M => lenA_rd hu) (by omega) (by omega)) ?_
                refine g_v (.free rfl) rfl rfl (qt_load1 rfl rfl Try.underlying2 rfl (fun w M => mem_rd M hu) (by omega) (by omega)) ?_
                refine g_v (.free rfl) rfl rfl (qt_assign rfl rfl) ?_
                refine g_nil ?_
                refine gk_then (hK123 _ _ ?_)
                refine gc_region ?_
                refine g_v (.free rfl) rfl rfl (qt_move rfl rfl) ?_
                refine g_v (.free rfl) rfl rfl (qt_move rfl rfl) ?_
                refine g_op (.free rfl) fun K126 hK126 => ?_
                refine go_slice1 rfl rfl rfl rfl Try.underlying22 ?_
                intro B125
                refine hK126 _ _ ?_
                refine g_op (.free rfl) fun K128 hK128 => ?_
                refine go_append (n := 10) (m := 11) rfl rfl rfl Try.underlying22 rfl rfl rfl rfl (by omega) ?_
                intro va127 vc127
                refine hK128 _ _ ?_
                refine g_v (.free rfl) rfl rfl (qt_assign rfl rfl) ?_
                refine g_nil ?_
                refine gk_block ?_
                refine gk_then (hK120 _ _ ?_)
                refine gc_region ?_
                refine g_v (.free rfl) rfl rfl (qt_move rfl rfl) ?_
                refine g_v (.free rfl) rfl rfl (qt_add rfl rfl rfl (by omega)) ?_
                refine g_v (.free rfl) rfl rfl (qt_assign rfl rfl) ?_
                refine g_nil ?_
                rw [qM_t (c := c) (p := p) (f := at0 (lsC p) (i : Int)) (g := at0 (lsC p) (j : Int)) (by assumption)]
                simp only [tabTo_succ]
                refine gk_then (gk_take 11 ?_)
                refine gk_sub ?hs_129 (hKL117 (j + 1, _, _) ?hi_129 ?hm_129)
                case hs_129 => exact (sub_cons rfl (sub_cons rfl (sub_cons rfl (sub_cons rfl (sub_cons rfl (sub_cons rfl (sub_cons rfl (sub_cons rfl (sub_cons rfl (sub_cons rfl (sub_cons rfl (sub_cons rfl (sub_cons rfl (sub_cons rfl sub_nil))))))))))))))
                case hi_129 => omega
                case hm_129 => omega
              · try simp only [decide_eq_true_eq, decide_eq_false_iff_not, Bool.not_eq_true', Bool.not_eq_false', Bool.not_eq_eq_eq_not, Bool.not_true, Bool.not_false, ne_eq, Decidable.not_not, Classical.not_not] at hc7
                refine gc_skip ?_
                refine gk_then (hK123 _ _ ?_)
                refine gc_region ?_
                refine g_v (.free rfl) rfl rfl (qt_move rfl rfl) ?_
                refine g_v (.free rfl) rfl rfl (qt_move rfl rfl) ?_
                refine g_op (.free rfl) fun K131 hK131 => ?_
                refine go_slice1 rfl rfl rfl rfl Try.underlying22 ?_
                intro B130
                refine hK131 _ _ ?_
                refine g_op (.free rfl) fun K133 hK133 => ?_
                refine go_append (n := 10) (m := 11) rfl rfl rfl Try.underlying22 rfl rfl rfl rfl (by omega) ?_
                intro va132 vc132
                refine hK133 _ _ ?_
                refine g_v (.free rfl) rfl rfl (qt_assign rfl rfl) ?_
                refine g_nil ?_
                refine gk_block ?_
                refine gk_then (hK120 _ _ ?_)
                refine gc_region ?_
                refine g_v (.free rfl) rfl rfl (qt_move rfl rfl) ?_
                refine g_v (.free rfl) rfl rfl (qt_add rfl rfl rfl (by omega)) ?_
                refine g_v (.free rfl) rfl rfl (qt_assign rfl rfl) ?_
                refine g_nil ?_
                rw [qM_f (c := c) (p := p) (f := at0 (lsC p) (i : Int)) (g := at0 (lsC p) (j : Int)) (by omega)]
                simp only [tabTo_succ]
                refine gk_then (gk_take 11 ?_)
                refine gk_sub ?hs_134 (hKL117 (j + 1, _, _) ?hi_134 ?hm_134)
                case hs_134 => exact (sub_cons rfl (sub_cons rfl (sub_cons rfl (sub_cons rfl (sub_cons rfl (sub_cons rfl (sub_cons rfl (sub_cons rfl (sub_cons rfl (sub_cons rfl (sub_cons rfl (sub_cons rfl (sub_cons rfl (sub_cons rfl sub_nil))))))))))))))
                case hi_134 => omega
                case hm_134 => omega
            · try simp only [decide_eq_true_eq, decide_eq_false_iff_not, Bool.not_eq_true', Bool.not_eq_false', Bool.not_eq_eq_eq_not, Bool.not_true, Bool.not_false, ne_eq, Decidable.not_not, Classical.not_not] at hc6
              refine gc_exit ?_
              refine gk_then_exit ?_
              refine gk_then_exit ?_
              refine gk_block_hit ?_
              refine gk_then (hK115 _ _ ?_)
              refine gc_region ?_
              refine g_v (.free rfl) rfl rfl (qt_field (z := 0) (off := 4) rfl rfl Try.underlying29 rfl (by kernel_rfl) rfl) ?_
              refine g_v (.free rfl) rfl rfl (qt_loadB (n := 7) rfl rfl Try.underlying23 rfl rfl rfl) ?_
              refine g_v (.free rfl) rfl rfl (qt_move rfl rfl) ?_
              refine g_op (.free rfl) fun K136 hK136 => ?_
              refine go_sliceR1 (m := 10) rfl rfl rfl rfl Try.underlying23 rfl ?_
              intro B135
              refine hK136 _ _ ?_
              refine g_op (.free rfl) fun K138 hK138 => ?_
              refine go_appendRow (n := 6) (m := 10) (m' := 9) rfl rfl rfl Try.underlying23 rfl rfl rfl rfl rfl (by omega) ?_
              intro va137 vc137
              refine hK138 _ _ ?_
              refine g_v (.free rfl) rfl rfl (qt_field (z := 0) (off := 4) rfl rfl Try.underlying29 rfl (by kernel_rfl) rfl) ?_
              refine g_op (.free rfl) fun K139 hK139 => ?_
              refine go_storeB (n := 7) rfl rfl rfl rfl (by kernel_rfl) rfl rfl rfl (by first | decide | simp) ?_
              refine hK139 _ _ ?_
              refine g_nil ?_
              refine gk_block ?_
              refine gk_then (hK60 _ _ ?_)
              refine gc_region ?_
              refine g_v (.free rfl) rfl rfl (qt_move rfl rfl) ?_
              refine g_v (.free rfl) rfl rfl (qt_add rfl rfl rfl (by omega)) ?_
              refine g_v (.free rfl) rfl rfl (qt_assign rfl rfl) ?_
              refine g_nil ?_
              obtain rfl : j = mC p := by omega
              rw [qR_def, qS_def, qT_def]
              simp only [tabTo_succ, rowsTo_succ]
              refine gk_then (gk_take 8 ?_)
              refine gk_sub ?hs_140 (hKL57 (i + 1, _, _, _, _, _, _, _) ?hi_140 ?hm_140)
              case hs_140 => exact (sub_cons rfl (sub_cons rfl (sub_cons rfl (sub_cons rfl (sub_cons rfl (sub_cons rfl (sub_cons rfl (sub_cons rfl (sub_cons rfl (sub_cons rfl (sub_cons rfl sub_nil)))))))))))
              case hi_140 => omega
              case hm_140 => omega
        · refine go_slice1 rfl rfl rfl rfl Try.underlying22 ?_
          intro B141
          refine hK62 _ _ (fun w M => (mem_erase 3 (mem_erase 7 (mem_take 8 M)) :)) ?_
          refine ga_op 1 (by kernel_rfl) rfl (.free rfl) fun K143 hK143 => ?_
          refine go_v rfl rfl (qt_loadB (n := 7) rfl rfl Try.underlying22 rfl rfl rfl) ?_
          refine hK143 _ _ (fun w M => (mem_erase 3 (mem_erase 7 (mem_take 8 M)) :)) ?_
          refine ga_op 11 (by kernel_rfl) rfl (.free rfl) fun K145 hK145 => ?_
          refine go_append (n := 3) (m := 8) rfl rfl rfl Try.underlying22 rfl rfl rfl rfl (by omega) ?_
          intro va144 vc144
          refine hK145 _ _ (fun w M => (mem_erase 3 (mem_erase 7 (mem_take 8 M)) :)) ?_
          refine ga_v 12 rfl (by kernel_rfl) (by kernel_rfl) (by kernel_rfl) (.free rfl) rfl rfl (qt_field (z := 0) (off := 1) rfl rfl Try.underlying29 rfl (by kernel_rfl) rfl) (fun _ _ _ h => h) ?_
          refine ga_op 13 (by kernel_rfl) rfl (.free rfl) fun K146 hK146 => ?_
          refine go_storeB (n := 7) rfl rfl rfl rfl (by kernel_rfl) rfl rfl rfl (by first | decide | simp) ?_
          refine hK146 _ _ (fun w M => (mem_erase 3 (mem_erase 7 (mem_take 8 M)) :)) ?_
          refine ga_done (by kernel_rfl) ?_
          refine gk_then (hK61 _ _ ?_)
          refine gc_seq fun K147 hK147 => ?_
          try simp only [List.nil_append, List.cons_append, List.append_assoc, List.set_cons_succ, List.set_cons_zero]
          refine ga_start _ (fun w M => mem_erase 4 (mem_erase 7 (M))) ?_
          refine ga_v 0 rfl (by kernel_rfl) (by kernel_rfl) (by kernel_rfl) (.free rfl) rfl rfl (qt_field (z := 0) (off := 2) rfl rfl Try.underlying29 rfl (by kernel_rfl) rfl) (fun _ _ _ h => h) ?_
          refine ga_v 2 rfl (by kernel_rfl) (by kernel_rfl) (by kernel_rfl) (.free rfl) rfl rfl (qt_field (z := 0) (off := 2) rfl rfl Try.underlying29 rfl (by kernel_rfl) rfl) (fun _ _ _ h => h) ?_
          refine ga_v 3 rfl (by kernel_rfl) (by kernel_rfl) (by kernel_rfl) (.free rfl) rfl rfl (qt_loadB (n := 0) rfl rfl Try.underlying22 rfl rfl rfl) (fun _ _ _ h => h) ?_
          refine ga_v 4 rfl (by kernel_rfl) (by kernel_rfl) (by kernel_rfl) (.free rfl) rfl rfl (qt_move rfl rfl) (fun _ _ _ h => h) ?_
          refine ga_v 5 rfl (by kernel_rfl) (by kernel_rfl) (by kernel_rfl) (.free rfl) rfl rfl (qt_move rfl rfl) (fun _ _ _ h => h) ?_
          refine ga_v 6 rfl (by kernel_rfl) (by kernel_rfl) (by kernel_rfl) (.free rfl) rfl rfl (qt_index rfl rfl rfl ulE1 szE1 (fun w M => lenA_own1 (n := 2) rfl M) (by omega) (by omega)) (fun _ _ _ h => h) ?_
          refine ga_v 7 rfl (by kernel_rfl) (by kernel_rfl) (by kernel_rfl) (.free rfl) rfl rfl (qt_load1 rfl rfl Try.underlying2 rfl (fun w M => (mem_own1 (n := 2) M rfl).rd) (by omega) (by omega)) (fun _ _ _ h => h) ?_
          refine ga_v 8 rfl (by kernel_rfl) (by kernel_rfl) (by kernel_rfl) (.free rfl) rfl rfl (qt_index rfl rfl rfl ulE1 szE1 (fun w M => lenA_rd h2) (by omega) (by omega)) (fun _ _ _ h => h) ?_
          refine ga_v 9 rfl (by kernel_rfl) (by kernel_rfl) (by kernel_rfl) (.free rfl) rfl rfl (qt_load1 rfl rfl Try.underlying2 rfl (fun w M => mem_rd M h2) (by omega) (by omega)) (fun _ _ _ h => h) ?_
          refine ga_two 1 10 (by kernel_rfl) rfl rfl (.free rfl) (.free rfl) (fun K148 hK148 => ?_) (fun K148 hK148 => ?_)
          · refine go_v rfl rfl (qt_loadB (n := 7) rfl rfl Try.underlying22 rfl rfl rfl) ?_
            refine hK148 _ _ (fun w M => (mem_erase 4 (mem_erase 7 (mem_take 9 M)) :)) ?_
            refine ga_op 10 (by kernel_rfl) rfl (.free rfl) fun K151 hK151 => ?_
            refine go_slice1 rfl rfl rfl rfl Try.underlying22 ?_
            intro B150
            refine hK151 _ _ (fun w M => (mem_erase 4 (mem_erase 7 (mem_take 9 M)) :)) ?_
            refine ga_op 11 (by kernel_rfl) rfl (.free rfl) fun K153 hK153 => ?_
            refine go_append (n := 4) (m := 9) rfl rfl rfl Try.underlying22 rfl rfl rfl rfl (by omega) ?_
            intro va152 vc152
            refine hK153 _ _ (fun w M => (mem_erase 4 (mem_erase 7 (mem_take 9 M)) :)) ?_
            refine ga_v 12 rfl (by kernel_rfl) (by kernel_rfl) (by kernel_rfl) (.free rfl) rfl rfl (qt_field (z := 0) (off := 2) rfl rfl Try.underlying29 rfl (by kernel_rfl) rfl) (fun _ _ _ h => h) ?_
            refine ga_op 13 (by kernel_rfl) rfl (.free rfl) fun K154 hK154 => ?_
            refine go_storeB (n := 7) rfl rfl rfl rfl (by kernel_rfl) rfl rfl rfl (by first | decide | simp) ?_
            refine hK154 _ _ (fun w M => (mem_erase 4 (mem_erase 7 (mem_take 9 M)) :)) ?_
            refine ga_done (by kernel_rfl) ?_
            refine gk_then (hK147 _ _ ?_)
            refine gc_seq fun K155 hK155 => ?_
            refine gc_region ?_
            refine g_op (.free rfl) fun K157 hK157 => ?_
            refine go_slice0 rfl rfl rfl Try.underlying22 ?_
            intro B156
            refine hK157 _ _ ?_
            refine g_v (.free rfl) rfl rfl (qt_assign rfl rfl) ?_
            refine g_nil ?_
            refine gk_then (hK155 _ _ ?_)
            refine gc_seq fun K158 hK158 => ?_
            refine gc_seq fun K159 hK159 => ?_
            refine gc_region ?_
            refine g_v (.free rfl) rfl rfl (qt_assign rfl rfl) ?_
            refine g_nil ?_
            refine gk_then (hK159 _ _ ?_)
            refine gc_block ?_
            try simp only [List.nil_append, List.cons_append, List.append_assoc, List.set_cons_succ, List.set_cons_zero]
            refine gc_loop ([(0, _), (1, _), (2, _), (4, _), (5, _), (6, _), (7, _), (8, _), (9, _), (17, _), (42, _), (61, _)] : Env) (fun s : Nat × (Option Addr) × Nat => (fun (j : Nat) (z : Option Addr) (r : Nat) => ([(10, .slice z (tabTo (fun j => qM c p (at0 (lsC p) (i : Int)) (at0 (lsC p) (j : Int))) j).length r), (11, .int .i64 (j : Int))] : Env)) s.1 s.2.1 s.2.2) (fun s : Nat × (Option Addr) × Nat => (fun (j : Nat) (z : Option Addr) (r : Nat) => ([(10, own1I (.slice z (tabTo (fun j => qM c p (at0 (lsC p) (i : Int)) (at0 (lsC p) (j : Int))) j).length r) (tabTo (fun j => qM c p (at0 (lsC p) (i : Int)) (at0 (lsC p) (j : Int))) j))] : List (Nat × Itm))) s.1 s.2.1 s.2.2) (fun s : Nat × (Option Addr) × Nat => (fun (j : Nat) (z : Option Addr) (r : Nat) => j ≤ mC p) s.1 s.2.1 s.2.2) (fun s : Nat × (Option Addr) × Nat => (fun (j : Nat) (z : Option Addr) (r : Nat) => mC p - j) s.1 s.2.1 s.2.2) (0, _, _) (sub_cons rfl (sub_cons rfl (sub_cons rfl (sub_cons rfl (sub_cons rfl (sub_cons rfl (sub_cons rfl (sub_cons rfl (sub_cons rfl (sub_cons rfl (sub_cons rfl (sub_cons rfl (sub_cons rfl (sub_cons rfl sub_nil)))))))))))))) rfl (Nat.zero_le _) ?_
            rintro ⟨j, z, r⟩ hinv KL160 hKL160
            simp only [updL, List.foldl_cons, List.foldl_nil, List.set_cons_succ, List.set_cons_zero, List.cons_append, List.nil_append] at hinv hKL160 ⊢
            have hj := hinv
            have hl7 := tabTo_len (fun j => qM c p (at0 (lsC p) (i : Int)) (at0 (lsC p) (j : Int))) j
            refine gc_seq fun K161 hK161 => ?_
            refine gc_seq fun K162 hK162 => ?_
            refine gc_region ?_
            refine g_v (.free rfl) rfl rfl (qt_move rfl rfl) ?_
            refine g_v (.free rfl) rfl rfl (qt_move rfl rfl) ?_
            refine g_v (.free rfl) rfl rfl (qt_len rfl rfl ulE1 (fun w M => lenV_own1 (n := 2) rfl M)) ?_
            refine g_v (.free rfl) rfl rfl (qt_lss rfl rfl rfl) ?_
            refine g_nil ?_
            refine gk_then (hK162 _ _ ?_)
            refine gc_cond rfl (fun hc8 => ?_) (fun hc8 => ?_)
            · try simp only [decide_eq_true_eq, decide_eq_false_iff_not, Bool.not_eq_true', Bool.not_eq_false', Bool.not_eq_eq_eq_not, Bool.not_true, Bool.not_false, ne_eq, Decidable.not_not, Classical.not_not] at hc8
              refine gc_skip ?_
              refine gk_then (hK161 _ _ ?_)
              refine gc_seq fun K163 hK163 => ?_
              refine gc_block ?_
              refine gc_seq fun K164 hK164 => ?_
              have l1 := ls_atI hp (k := (i : Int)) (by omega) (by omega)
              have l2 := l1.1; have l3 := l1.2.1
              have m1 := ls_atI hp (k := (j : Int)) (by omega) (by omega)
              have m2 := m1.1; have m3 := m1.2.1
              have G := arrP hS (f := at0 (lsC p) (i : Int)) (by omega) (by omega)
              have g1 := G.fm; have g2 := G.row
              refine gc_draw (by kernel_rfl) ?_
              refine gd_v (.free rfl) rfl rfl (qt_field (z := 0) (off := 4) rfl rfl Try.underlying29 rfl (by kernel_rfl) rfl) ?_
              refine gd_v (.free rfl) rfl rfl (qt_loadB (n := 0) rfl rfl Try.underlying23 rfl rfl rfl) ?_
              refine gd_v (.free rfl) rfl rfl (qt_move rfl rfl) ?_
              refine gd_v (.free rfl) rfl rfl (qt_move rfl rfl) ?_
              refine gd_v (.free rfl) rfl rfl (qt_index rfl rfl rfl ulE1 szE1 (fun w M => lenA_own1 (n := 2) rfl M) (by omega) (by omega)) ?_
              refine gd_v (.free rfl) rfl rfl (qt_load1 rfl rfl Try.underlying2 rfl (fun w M => (mem_own1 (n := 2) M rfl).rd) (by omega) (by omega)) ?_
              refine gd_v (.free rfl) rfl rfl (qt_index rfl rfl rfl ulE2 szE2 (fun w M => lenA_rd2 h4) (by omega) (by omega)) ?_
              refine gd_load2 (.free rfl) rfl rfl rfl rfl Try.underlying22 rfl h4 (by omega) (by omega) ?_
              intro ra165 rc165 hr165
              refine gd_v (.free rfl) rfl rfl (qt_move rfl rfl) ?_
              refine gd_v (.free rfl) rfl rfl (qt_move rfl rfl) ?_
              refine gd_v (.free rfl) rfl rfl (qt_index rfl rfl rfl ulE1 szE1 (fun w M => lenA_own1 (n := 2) rfl M) (by omega) (by omega)) ?_
              refine gd_v (.free rfl) rfl rfl (qt_load1 rfl rfl Try.underlying2 rfl (fun w M => (mem_own1 (n := 2) M rfl).rd) (by omega) (by omega)) ?_
              refine gd_v (.free rfl) rfl rfl (qt_index rfl rfl rfl ulE1 szE1 (fun w M => lenA_rd hr165) (by omega) (by omega)) ?_
              refine gd_v (.free rfl) rfl rfl (qt_load1 rfl rfl Try.underlying2 rfl (fun w M => mem_rd M hr165) (by omega) (by omega)) ?_
              refine gd_v (.free rfl) rfl rfl (qt_assign rfl rfl) ?_
              refine gd_nil ?_
              refine gk_then (hK164 _ _ ?_)
              refine gc_seq fun K166 hK166 => ?_
              refine gc_seq fun K167 hK167 => ?_
              refine gc_region ?_
              refine g_v (.free rfl) rfl rfl (qt_move rfl rfl) ?_
              refine g_v (.free rfl) rfl rfl (qt_geq rfl rfl rfl) ?_
              refine g_nil ?_
              refine gk_then (hK167 _ _ ?_)
              refine gc_cond rfl (fun hc9 => ?_) (fun hc9 => ?_)
              · try simp only [decide_eq_true_eq, decide_eq_false_iff_not, Bool.not_eq_true', Bool.not_eq_false', Bool.not_eq_eq_eq_not, Bool.not_true, Bool.not_false, ne_eq, Decidable.not_not, Classical.not_not] at hc9
                have t1 := th_ltI hS (f := at0 (lsC p) (i : Int)) (g := at0 (lsC p) (j : Int)) (by omega) (by omega) (by omega) (by omega)
                refine gc_region ?_
                refine g_v (.free rfl) rfl rfl (qt_move rfl rfl) ?_
                refine g_v (.free rfl) rfl rfl (qt_move rfl rfl) ?_
                refine g_v (.free rfl) rfl rfl (qt_index rfl rfl rfl ulE1 szE1 (fun w M => lenA_rd hu) (by omega) (by omega)) ?_
                refine g_v (.free rfl) rfl rfl (qt_load1 rfl rfl Try.underlying2 rfl (fun w M => mem_rd M hu) (by omega) (by omega)) ?_
                refine g_v (.free rfl) rfl rfl (qt_assign rfl rfl) ?_
                refine g_nil ?_
                refine gk_then (hK166 _ _ ?_)
                refine gc_region ?_
                refine g_v (.free rfl) rfl rfl (qt_move rfl rfl) ?_
                refine g_v (.free rfl) rfl rfl (qt_move rfl rfl) ?_
                refine g_op (.free rfl) fun K169 hK169 => ?_
                refine go_slice1 rfl rfl rfl rfl Try.underlying22 ?_
                intro B168
                refine hK169 _ _ ?_
                refine g_op (.free rfl) fun K171 hK171 => ?_
                refine go_append (n := 10) (m := 11) rfl rfl rfl Try.underlying22 rfl rfl rfl rfl (by omega) ?_
                intro va170 vc170
                refine hK171 _ _ ?_
                refine g_v (.free rfl) rfl rfl (qt_assign rfl rfl) ?_
                refine g_nil ?_
                refine gk_block ?_
                refine gk_then (hK163 _ _ ?_)
                refine gc_region ?_
                refine g_v (.free rfl) rfl rfl (qt_move rfl rfl) ?_
                refine g_v (.free rfl) rfl rfl (qt_add rfl rfl rfl (by omega)) ?_
                refine g_v (.free rfl) rfl rfl (qt_assign rfl rfl) ?_
                refine g_nil ?_
                rw [qM_t (c := c) (p := p) (f := at0 (lsC p) (i : Int)) (g := at0 (lsC p) (j : Int)) (by assumption)]
                simp only [tabTo_succ]
                refine gk_then (gk_take 11 ?_)
                refine gk_sub ?hs_172 (hKL160 (j + 1, _, _) ?hi_172 ?hm_172)
                case hs_172 => exact (sub_cons rfl (sub_cons rfl (sub_cons rfl (sub_cons rfl (sub_cons rfl (sub_cons rfl (sub_cons rfl (sub_cons rfl (sub_cons rfl (sub_cons rfl (sub_cons rfl (sub_cons rfl (sub_cons rfl (sub_cons rfl sub_nil))))))))))))))
                case hi_172 => omega
                case hm_172 => omega
              · try simp only [decide_eq_true_eq, decide_eq_false_iff_not, Bool.not_eq_true', Bool.not_eq_false', Bool.not_eq_eq_eq_not, Bool.not_true, Bool.not_false, ne_eq, Decidable.not_not, Classical.not_not] at hc9
                refine gc_skip ?_
                refine gk_then (hK166 _ _ ?_)
                refine gc_region ?_
                refine g_v (.free rfl) rfl rfl (qt_move rfl rfl) ?_
                refine g_v (.free rfl) rfl rfl (qt_move rfl rfl) ?_
                refine g_op (.free rfl) fun K174 hK174 => ?_
                refine go_slice1 rfl rfl rfl rfl Try.underlying22 ?_
                intro B173
                refine hK174 _ _ ?_
                refine g_op (.free rfl) fun K176 hK176 => ?_
                refine go_append (n := 10) (m := 11) rfl rfl rfl Try.underlying22 rfl rfl rfl rfl (by omega) ?_
                intro va175 vc175
                refine hK176 _ _ ?_
                refine g_v (.free rfl) rfl rfl (qt_assign rfl rfl) ?_
                refine g_nil ?_
                refine gk_block ?_
                refine gk_then (hK163 _ _ ?_)
                refine gc_region ?_
                refine g_v (.free rfl) rfl rfl (qt_move rfl rfl) ?_
                refine g_v (.free rfl) rfl rfl (qt_add rfl rfl rfl (by omega)) ?_
                refine g_v (.free rfl) rfl rfl (qt_assign rfl rfl) ?_
                refine g_nil ?_
                rw [qM_f (c := c) (p := p) (f := at0 (lsC p) (i : Int)) (g := at0 (lsC p) (j : Int)) (by omega)]
                simp only [tabTo_succ]
                refine gk_then (gk_take 11 ?_)
                refine gk_sub ?hs_177 (hKL160 (j + 1, _, _) ?hi_177 ?hm_177)
                case hs_177 => exact (sub_cons rfl (sub_cons rfl (sub_cons rfl (sub_cons rfl (sub_cons rfl (sub_cons rfl (sub_cons rfl (sub_cons rfl (sub_cons rfl (sub_cons rfl (sub_cons rfl (sub_cons rfl (sub_cons rfl (sub_cons rfl sub_nil))))))))))))))
                case hi_177 => omega
                case hm_177 => omega
            · try simp only [decide_eq_true_eq, decide_eq_false_iff_not, Bool.not_eq_true', Bool.not_eq_false', Bool.not_eq_eq_eq_not, Bool.not_true, Bool.not_false, ne_eq, Decidable.not_not, Classical.not_not] at hc8
              refine gc_exit ?_
              refine gk_then_exit ?_
              refine gk_then_exit ?_
              refine gk_block_hit ?_
              refine gk_then (hK158 _ _ ?_)
              refine gc_region ?_
              refine g_v (.free rfl) rfl rfl (qt_field (z := 0) (off := 4) rfl rfl Try.underlying29 rfl (by kernel_rfl) rfl) ?_
              refine g_v (.free rfl) rfl rfl (qt_loadB (n := 7) rfl rfl Try.underlying23 rfl rfl rfl) ?_
              refine g_v (.free rfl) rfl rfl (qt_move rfl rfl) ?_
              refine g_op (.free rfl) fun K179 hK179 => ?_
              refine go_sliceR1 (m := 10) rfl rfl rfl rfl Try.underlying23 rfl ?_
              intro B178
              refine hK179 _ _ ?_
              refine g_op (.free rfl) fun K181 hK181 => ?_
              refine go_appendRow (n := 6) (m := 10) (m' := 9) rfl rfl rfl Try.underlying23 rfl rfl rfl rfl rfl (by omega) ?_
              intro va180 vc180
              refine hK181 _ _ ?_
              refine g_v (.free rfl) rfl rfl (qt_field (z := 0) (off := 4) rfl rfl Try.underlying29 rfl (by kernel_rfl) rfl) ?_
              refine g_op (.free rfl) fun K182 hK182 => ?_
              refine go_storeB (n := 7) rfl rfl rfl rfl (by kernel_rfl) rfl rfl rfl (by first | decide | simp) ?_
              refine hK182 _ _ ?_
              refine g_nil ?_
              refine gk_block ?_
              refine gk_then (hK60 _ _ ?_)
              refine gc_region ?_
              refine g_v (.free rfl) rfl rfl (qt_move rfl rfl) ?_
              refine g_v (.free rfl) rfl rfl (qt_add rfl rfl rfl (by omega)) ?_
              refine g_v (.free rfl) rfl rfl (qt_assign rfl rfl) ?_
              refine g_nil ?_
              obtain rfl : j = mC p := by omega
              rw [qR_def, qS_def, qT_def]
              simp only [tabTo_succ, rowsTo_succ]
              refine gk_then (gk_take 8 ?_)
              refine gk_sub ?hs_183 (hKL57 (i + 1, _, _, _, _, _, _, _) ?hi_183 ?hm_183)
              case hs_183 => exact (sub_cons rfl (sub_cons rfl (sub_cons rfl (sub_cons rfl (sub_cons rfl (sub_cons rfl (sub_cons rfl (sub_cons rfl (sub_cons rfl (sub_cons rfl (sub_cons rfl sub_nil)))))))))))
              case hi_183 => omega
              case hm_183 => omega
          · refine go_slice1 rfl rfl rfl rfl Try.underlying22 ?_
            intro B184
            refine hK148 _ _ (fun w M => (mem_erase 4 (mem_erase 7 (mem_take 9 M)) :)) ?_
            refine ga_op 1 (by kernel_rfl) rfl (.free rfl) fun K186 hK186 => ?_
            refine go_v rfl rfl (qt_loadB (n := 7) rfl rfl Try.underlying22 rfl rfl rfl) ?_
            refine hK186 _ _ (fun w M => (mem_erase 4 (mem_erase 7 (mem_take 9 M)) :)) ?_
            refine ga_op 11 (by kernel_rfl) rfl (.free rfl) fun K188 hK188 => ?_
            refine go_append (n := 4) (m := 9) rfl rfl rfl Try.underlying22 rfl rfl rfl rfl (by omega) ?_
            intro va187 vc187
            refine hK188 _ _ (fun w M => (mem_erase 4 (mem_erase 7 (mem_take 9 M)) :)) ?_
            refine ga_v 12 rfl (by kernel_rfl) (by kernel_rfl) (by kernel_rfl) (.free rfl) rfl rfl (qt_field (z := 0) (off := 2) rfl rfl Try.underlying29 rfl (by kernel_rfl) rfl) (fun _ _ _ h => h) ?_
            refine ga_op 13 (by kernel_rfl) rfl (.free rfl) fun K189 hK189 => ?_
            refine go_storeB (n := 7) rfl rfl rfl rfl (by kernel_rfl) rfl rfl rfl (by first | decide | simp) ?_
            refine hK189 _ _ (fun w M => (mem_erase 4 (mem_erase 7 (mem_take 9 M)) :)) ?_
            refine ga_done (by kernel_rfl) ?_
            refine gk_then (hK147 _ _ ?_)
            refine gc_seq fun K190 hK190 => ?_
            refine gc_region ?_
            refine g_op (.free rfl) fun K192 hK192 => ?_
            refine go_slice0 rfl rfl rfl Try.underlying22 ?_
            intro B191
            refine hK192 _ _ ?_
            refine g_v (.free rfl) rfl rfl (qt_assign rfl rfl) ?_
            refine g_nil ?_
            refine gk_then (hK190 _ _ ?_)
            refine gc_seq fun K193 hK193 => ?_
            refine gc_seq fun K194 hK194 => ?_
            refine gc_region ?_
            refine g_v (.free rfl) rfl rfl (qt_assign rfl rfl) ?_
            refine g_nil ?_
            refine gk_then (hK194 _ _ ?_)
            refine gc_block ?_
            try simp only [List.nil_append, List.cons_append, List.append_assoc, List.set_cons_succ, List.set_cons_zero]
            refine gc_loop ([(0, _), (1, _), (2, _), (4, _), (5, _), (6, _), (7, _), (8, _), (9, _), (17, _), (42, _), (61, _)] : Env) (fun s : Nat × (Option Addr) × Nat => (fun (j : Nat) (z : Option Addr) (r : Nat) => ([(10, .slice z (tabTo (fun j => qM c p (at0 (lsC p) (i : Int)) (at0 (lsC p) (j : Int))) j).length r), (11, .int .i64 (j : Int))] : Env)) s.1 s.2.1 s.2.2) (fun s : Nat × (Option Addr) × Nat => (fun (j : Nat) (z : Option Addr) (r : Nat) => ([(10, own1I (.slice z (tabTo (fun j => qM c p (at0 (lsC p) (i : Int)) (at0 (lsC p) (j : Int))) j).length r) (tabTo (fun j => qM c p (at0 (lsC p) (i : Int)) (at0 (lsC p) (j : Int))) j))] : List (Nat × Itm))) s.1 s.2.1 s.2.2) (fun s : Nat × (Option Addr) × Nat => (fun (j : Nat) (z : Option Addr) (r : Nat) => j ≤ mC p) s.1 s.2.1 s.2.2) (fun s : Nat × (Option Addr) × Nat => (fun (j : Nat) (z : Option Addr) (r : Nat) => mC p - j) s.1 s.2.1 s.2.2) (0, _, _) (sub_cons rfl (sub_cons rfl (sub_cons rfl (sub_cons rfl (sub_cons rfl (sub_cons rfl (sub_cons rfl (sub_cons rfl (sub_cons rfl (sub_cons rfl (sub_cons rfl (sub_cons rfl (sub_cons rfl (sub_cons rfl sub_nil)))))))))))))) rfl (Nat.zero_le _) ?_
            rintro ⟨j, z, r⟩ hinv KL195 hKL195
            simp only [updL, List.foldl_cons, List.foldl_nil, List.set_cons_succ, List.set_cons_zero, List.cons_append, List.nil_append] at hinv hKL195 ⊢
            have hj := hinv
            have hl7 := tabTo_len (fun j => qM c p (at0 (lsC p) (i : Int)) (at0 (lsC p) (j : Int))) j
            refine gc_seq fun K196 hK196 => ?_
            refine gc_seq fun K197 hK197 => ?_
            refine gc_region ?_
            refine g_v (.free rfl) rfl rfl (qt_move rfl rfl) ?_
            refine g_v (.free rfl) rfl rfl (qt_move rfl rfl) ?_
            refine g_v (.free rfl) rfl rfl (qt_len rfl rfl ulE1 (fun w M => lenV_own1 (n := 2) rfl M)) ?_
            refine g_v (.free rfl) rfl rfl (qt_lss rfl rfl rfl) ?_
            refine g_nil ?_
            refine gk_then (hK197 _ _ ?_)
            refine gc_cond rfl (fun hc10 => ?_) (fun hc10 => ?_)
            · try simp only [decide_eq_true_eq, decide_eq_false_iff_not, Bool.not_eq_true', Bool.not_eq_false', Bool.not_eq_eq_eq_not, Bool.not_true, Bool.not_false, ne_eq, Decidable.not_not, Classical.not_not] at hc10
              refine gc_skip ?_
              refine gk_then (hK196 _ _ ?_)
              refine gc_seq fun K198 hK198 => ?_
              refine gc_block ?_
              refine gc_seq fun K199 hK199 => ?_
              have l1 := ls_atI hp (k := (i : Int)) (by omega) (by omega)
              have l2 := l1.1; have l3 := l1.2.1
              have m1 := ls_atI hp (k := (j : Int)) (by omega) (by omega)
              have m2 := m1.1; have m3 := m1.2.1
              have G := arrP hS (f := at0 (lsC p) (i : Int)) (by omega) (by omega)
              have g1 := G.fm; have g2 := G.row
              refine gc_draw (by kernel_rfl) ?_
              refine gd_v (.free rfl) rfl rfl (qt_field (z := 0) (off := 4) rfl rfl Try.underlying29 rfl (by kernel_rfl) rfl) ?_
              refine gd_v (.free rfl) rfl rfl (qt_loadB (n := 0) rfl rfl Try.underlying23 rfl rfl rfl) ?_
              refine gd_v (.free rfl) rfl rfl (qt_move rfl rfl) ?_
              refine gd_v (.free rfl) rfl rfl (qt_move rfl rfl) ?_
              refine gd_v (.free rfl) rfl rfl (qt_index rfl rfl rfl ulE1 szE1 (fun w M => lenA_own1 (n := 2) rfl M) (by omega) (by omega)) ?_
              refine gd_v (.free rfl) rfl rfl (qt_load1 rfl rfl Try.underlying2 rfl (fun w M => (mem_own1 (n := 2) M rfl).rd) (by omega) (by omega)) ?_
              refine gd_v (.free rfl) rfl rfl (qt_index rfl rfl rfl ulE2 szE2 (fun w M => lenA_rd2 h4) (by omega) (by omega)) ?_
              refine gd_load2 (.free rfl) rfl rfl rfl rfl Try.underlying22 rfl h4 (by omega) (by omega) ?_
              intro ra200 rc200 hr200
              refine gd_v (.free rfl) rfl rfl (qt_move rfl rfl) ?_
              refine gd_v (.free rfl) rfl rfl (qt_move rfl rfl) ?_
              refine gd_v (.free rfl) rfl rfl (qt_index rfl rfl rfl ulE1 szE1 (fun w M => lenA_own1 (n := 2) rfl M) (by omega) (by omega)) ?_
              refine gd_v (.free rfl) rfl rfl (qt_load1 rfl rfl Try.underlying2 rfl (fun w M => (mem_own1 (n := 2) M rfl).rd) (by omega) (by omega)) ?_
              refine gd_v (.free rfl) rfl rfl (qt_index rfl rfl rfl ulE1 szE1 (fun w M => lenA_rd hr200) (by omega) (by omega)) ?_
              refine gd_v (.free rfl) rfl rfl (qt_load1 rfl rfl Try.underlying2 rfl (fun w M => mem_rd M hr200) (by omega) (by omega)) ?_
              refine gd_v (.free rfl) rfl rfl (qt_assign rfl rfl) ?_
              refine gd_nil ?_
              refine gk_then (hK199 _ _ ?_)
              refine gc_seq fun K201 hK201 => ?_
              refine gc_seq fun K202 hK202 => ?_
              refine gc_region ?_
              refine g_v (.free rfl) rfl rfl (qt_move rfl rfl) ?_
              refine g_v (.free rfl) rfl rfl (qt_geq rfl rfl rfl) ?_
              refine g_nil ?_
              refine gk_then (hK202 _ _ ?_)
              refine gc_cond rfl (fun hc11 => ?_) (fun hc11 => ?_)
              · try simp only [decide_eq_true_eq, decide_eq_false_iff_not, Bool.not_eq_true', Bool.not_eq_false', Bool.not_eq_eq_eq_not, Bool.not_true, Bool.not_false, ne_eq, Decidable.not_not, Classical.not_not] at hc11
                have t1 := th_ltI hS (f := at0 (lsC p) (i : Int)) (g := at0 (lsC p) (j : Int)) (by omega) (by omega) (by omega) (by omega)
                refine gc_region ?_
                refine g_v (.free rfl) rfl rfl (qt_move rfl rfl) ?_
                refine g_v (.free rfl) rfl rfl (qt_move rfl rfl) ?_
                refine g_v (.free rfl) rfl rfl (qt_index rfl rfl rfl ulE1 szE1 (fun w M => lenA_rd hu) (by omega) (by omega)) ?_
                refine g_v (.free rfl) rfl rfl (qt_load1 rfl rfl Try.underlying2 rfl (fun w M => mem_rd M hu) (by omega) (by omega)) ?_
                refine g_v (.free rfl) rfl rfl (qt_assign rfl rfl) ?_
                refine g_nil ?_
                refine gk_then (hK201 _ _ ?_)
                refine gc_region ?_
                refine g_v (.free rfl) rfl rfl (qt_move rfl rfl) ?_
                refine g_v (.free rfl) rfl rfl (qt_move rfl rfl) ?_
                refine g_op (.free rfl) fun K204 hK204 => ?_
                refine go_slice1 rfl rfl rfl rfl Try.underlying22 ?_
                intro B203
                refine hK204 _ _ ?_
                refine g_op (.free rfl) fun K206 hK206 => ?_
                refine go_append (n := 10) (m := 11) rfl rfl rfl Try.underlying22 rfl rfl rfl rfl (by omega) ?_
                intro va205 vc205
                refine hK206 _ _ ?_
                refine g_v (.free rfl) rfl rfl (qt_assign rfl rfl) ?_
                refine g_nil ?_
                refine gk_block ?_
                refine gk_then (hK198 _ _ ?_)
                refine gc_region ?_
                refine g_v (.free rfl) rfl rfl (qt_move rfl rfl) ?_
                refine g_v (.free rfl) rfl rfl (qt_add rfl rfl rfl (by omega)) ?_
                refine g_v (.free rfl) rfl rfl (qt_assign rfl rfl) ?_
                refine g_nil ?_
                rw [qM_t (c := c) (p := p) (f := at0 (lsC p) (i : Int)) (g := at0 (lsC p) (j : Int)) (by assumption)]
                simp only [tabTo_succ]
                refine gk_then (gk_take 11 ?_)
                refine gk_sub ?hs_207 (hKL195 (j + 1, _, _) ?hi_207 ?hm_207)
                case hs_207 => exact (sub_cons rfl (sub_cons rfl (sub_cons rfl (sub_cons rfl (sub_cons rfl (sub_cons rfl (sub_cons rfl (sub_cons rfl (sub_cons rfl (sub_cons rfl (sub_cons rfl (sub_cons rfl (sub_cons rfl (sub_cons rfl sub_nil))))))))))))))
                case hi_207 => omega
                case hm_207 => omega
              · try simp only [decide_eq_true_eq, decide_eq_false_iff_not, Bool.not_eq_true', Bool.not_eq_false', Bool.not_eq_eq_eq_not, Bool.not_true, Bool.not_false, ne_eq, Decidable.not_not, Classical.not_not] at hc11
                refine gc_skip ?_
                refine gk_then (hK201 _ _ ?_)
                refine gc_region ?_
                refine g_v (.free rfl) rfl rfl (qt_move rfl rfl) ?_
                refine g_v (.free rfl) rfl rfl (qt_move rfl rfl) ?_
                refine g_op (.free rfl) fun K209 hK209 => ?_
                refine go_slice1 rfl rfl rfl rfl Try.underlying22 ?_
                intro B208
                refine hK209 _ _ ?_
                refine g_op (.free rfl) fun K211 hK211 => ?_
                refine go_append (n := 10) (m := 11) rfl rfl rfl Try.underlying22 rfl rfl rfl rfl (by omega) ?_
                intro va210 vc210
                refine hK211 _ _ ?_
                refine g_v (.free rfl) rfl rfl (qt_assign rfl rfl) ?_
                refine g_nil ?_
                refine gk_block ?_
                refine gk_then (hK198 _ _ ?_)
                refine gc_region ?_
                refine g_v (.free rfl) rfl rfl (qt_move rfl rfl) ?_
                refine g_v (.free rfl) rfl rfl (qt_add rfl rfl rfl (by omega)) ?_
                refine g_v (.free rfl) rfl rfl (qt_assign rfl rfl) ?_
                refine g_nil ?_
                rw [qM_f (c := c) (p := p) (f := at0 (lsC p) (i : Int)) (g := at0 (lsC p) (j : Int)) (by omega)]
                simp only [tabTo_succ]
                refine gk_then (gk_take 11 ?_)
                refine gk_sub ?hs_212 (hKL195 (j + 1, _, _) ?hi_212 ?hm_212)
                case hs_212 => exact (sub_cons rfl (sub_cons rfl (sub_cons rfl (sub_cons rfl (sub_cons rfl (sub_cons rfl (sub_cons rfl (sub_cons rfl (sub_cons rfl (sub_cons rfl (sub_cons rfl (sub_cons rfl (sub_cons rfl (sub_cons rfl sub_nil))))))))))))))
                case hi_212 => omega
                case hm_212 => omega
            · try simp only [decide_eq_true_eq, decide_eq_false_iff_not, Bool.not_eq_true', Bool.not_eq_false', Bool.not_eq_eq_eq_not, Bool.not_true, Bool.not_false, ne_eq, Decidable.not_not, Classical.not_not] at hc10
              refine gc_exit ?_
              refine gk_then_exit ?_
              refine gk_then_exit ?_
              refine gk_block_hit ?_
              refine gk_then (hK193 _ _ ?_)
              refine gc_region ?_
              refine g_v (.free rfl) rfl rfl (qt_field (z := 0) (off := 4) rfl rfl Try.underlying29 rfl (by kernel_rfl) rfl) ?_
              refine g_v (.free rfl) rfl rfl (qt_loadB (n := 7) rfl rfl Try.underlying23 rfl rfl rfl) ?_
              refine g_v (.free rfl) rfl rfl (qt_move rfl rfl) ?_
              refine g_op (.free rfl) fun K214 hK214 => ?_
              refine go_sliceR1 (m := 10) rfl rfl rfl rfl Try.underlying23 rfl ?_
              intro B213
              refine hK214 _ _ ?_
              refine g_op (.free rfl) fun K216 hK216 => ?_
              refine go_appendRow (n := 6) (m := 10) (m' := 9) rfl rfl rfl Try.underlying23 rfl rfl rfl rfl rfl (by omega) ?_
              intro va215 vc215
              refine hK216 _ _ ?_
              refine g_v (.free rfl) rfl rfl (qt_field (z := 0) (off := 4) rfl rfl Try.underlying29 rfl (by kernel_rfl) rfl) ?_
              refine g_op (.free rfl) fun K217 hK217 => ?_
              refine go_storeB (n := 7) rfl rfl rfl rfl (by kernel_rfl) rfl rfl rfl (by first | decide | simp) ?_
              refine hK217 _ _ ?_
              refine g_nil ?_
              refine gk_block ?_
              refine gk_then (hK60 _ _ ?_)
              refine gc_region ?_
              refine g_v (.free rfl) rfl rfl (qt_move rfl rfl) ?_
              refine g_v (.free rfl) rfl rfl (qt_add rfl rfl rfl (by omega)) ?_
              refine g_v (.free rfl) rfl rfl (qt_assign rfl rfl) ?_
              refine g_nil ?_
              obtain rfl : j = mC p := by omega
              rw [qR_def, qS_def, qT_def]
              simp only [tabTo_succ, rowsTo_succ]
              refine gk_then (gk_take 8 ?_)
              refine gk_sub ?hs_218 (hKL57 (i + 1, _, _, _, _, _, _, _) ?hi_218 ?hm_218)
              case hs_218 => exact (sub_cons rfl (sub_cons rfl (sub_cons rfl (sub_cons rfl (sub_cons rfl (sub_cons rfl (sub_cons rfl (sub_cons rfl (sub_cons rfl (sub_cons rfl (sub_cons rfl sub_nil)))))))))))
              case hi_218 => omega
              case hm_218 => omega
      · try simp only [decide_eq_true_eq, decide_eq_false_iff_not, Bool.not_eq_true', Bool.not_eq_false', Bool.not_eq_eq_eq_not, Bool.not_true, Bool.not_false, ne_eq, Decidable.not_not, Classical.not_not] at hc3
        refine gc_exit ?_
        refine gk_then_exit ?_
        refine gk_then_exit ?_
        refine gk_block_hit ?_
        refine gk_then (hK55 _ _ ?_)
        refine gc_seq fun K219 hK219 => ?_
        refine gc_region ?_
        refine g_v (.free rfl) rfl rfl (qt_loadS (n := 7) rfl rfl Try.underlying29 rfl (by kernel_rfl) rfl) ?_
        refine g_op (.free rfl) fun K220 hK220 => ?_
        refine go_storeS (n := 1) rfl rfl rfl rfl (by kernel_rfl) rfl rfl rfl ?_
        refine hK220 _ _ ?_
        refine g_nil ?_
        refine gk_then (hK219 _ _ ?_)
        refine gc_ret ?_
        refine ret_S (n := 1) rfl rfl Try.underlying29 rfl (by kernel_rfl) rfl (fun w M => ?_)
        obtain rfl : i = mC p := by omega
        exact ⟨_, rfl, ownC_star (c := quoM c p) (mem_pick (n := 6) (mem_pick (n := 6) (mem_pick (n := 6) (mem_pick (n := 6) (M) rfl) rfl) rfl) rfl).2, M.1⟩

set_option maxHeartbeats 1000000 in
set_option maxRecDepth 100000 in
theorem spec_QuotientCategory (w : World) (v : Value) (c : Cat) (u : Value) (p : List Int) (h : RdC w v c) (hu : Rd w u p) :
    Calls Try.prog 48 #[v, u] w (RetCI w (fQuotientCategory c p).1 (fQuotientCategory c p).2) := by
  have h0 := h
  obtain ⟨va, vb, vc, vd, ve, vf, vg, vh, rfl, h1, h2, h3, h4, _⟩ := h.lists
  obtain ⟨ua, uc, rfl⟩ := rd_form hu
  go_enter Try.func48, Try.ntmps48
  refine gc_enter (N := 19) rfl (look_cons (k := 0) rfl (look_cons (k := 1) rfl (look_nil _))) ?_
  refine gc_seq fun K1 hK1 => ?_
  refine gc_region ?_
  refine g_op (.free rfl) fun K3 hK3 => ?_
  refine go_box rfl rfl rfl rfl rfl ?_
  intro B2
  refine hK3 _ _ ?_
  refine g_op (.free rfl) fun K5 hK5 => ?_
  refine go_alloc (z := (.agg #[.int .i64 0, .slice none 0 0, .slice none 0 0, .slice none 0 0, .slice none 0 0])) (cs := [.int .i64 0, .slice none 0 0, .slice none 0 0, .slice none 0 0, .slice none 0 0]) rfl rfl rfl (fun w => by kernel_rfl) rfl ?_
  intro B4
  refine hK5 _ _ ?_
  refine g_v (.free rfl) rfl rfl (qt_assign rfl rfl) ?_
  refine g_nil ?_
  refine gk_then (hK1 _ _ ?_)
  refine gc_seq fun K6 hK6 => ?_
  refine gc_seq fun K7 hK7 => ?_
  refine gc_region ?_
  refine g_v (.free rfl) rfl rfl (qt_loadS (n := 0) rfl rfl Try.underlying29 rfl (by kernel_rfl) rfl) ?_
  refine g_q (.free rfl) rfl rfl (qt_call rfl Try.func104 rfl (by decide) rfl (fun w M => specIs_any w _ _ (mem_rdC M h0))) ?_
  refine g_v (.free rfl) rfl rfl (qt_not rfl rfl) ?_
  refine g_splitv (.free rfl) rfl rfl (qt_move rfl rfl) (fun hs1_3 => ?_) (fun hs1_3 => ?_)
  · try simp only [decide_eq_true_eq, decide_eq_false_iff_not, Bool.not_eq_true', Bool.not_eq_false', Bool.not_eq_eq_eq_not, Bool.not_true, Bool.not_false, ne_eq, Decidable.not_not, Classical.not_not] at hs1_3
    refine g_skip (.not _ _ _ _ rfl rfl rfl rfl) rfl rfl ?_
    refine g_skip (.not _ _ _ _ rfl rfl rfl rfl) rfl rfl ?_
    refine g_skip (.not _ _ _ _ rfl rfl rfl rfl) rfl rfl ?_
    refine g_skip (.not _ _ _ _ rfl rfl rfl rfl) rfl rfl ?_
    refine g_v (.free rfl) rfl rfl (qt_pick_t rfl rfl rfl) ?_
    refine g_nil ?_
    refine gk_then (hK7 _ _ ?_)
    refine gc_cond_t rfl ?_
    refine gc_seq fun K8 hK8 => ?_
    refine gc_region ?_
    refine g_v (.free rfl) rfl rfl (qt_build rfl rfl bt0_Category) ?_
    refine g_op (.free rfl) fun K9 hK9 => ?_
    refine go_storeS (n := 1) rfl rfl rfl rfl (by kernel_rfl) rfl rfl rfl ?_
    refine hK9 _ _ ?_
    refine g_v (.free rfl) rfl rfl (qt_assign rfl rfl) ?_
    refine g_nil ?_
    refine gk_then (hK8 _ _ ?_)
    refine gc_ret ?_
    refine gk_then_ret ?_
    refine ret_SI (n := 1) rfl rfl rfl Try.underlying29 rfl (by kernel_rfl) rfl (fun w M => ?_)
    rw [quo_f (fun hh => by rw [hs1_3] at hh; simp at hh)]; exact ⟨_, rfl, ownC_zero _ _, M.1⟩
  · try simp only [decide_eq_true_eq, decide_eq_false_iff_not, Bool.not_eq_true', Bool.not_eq_false', Bool.not_eq_eq_eq_not, Bool.not_true, Bool.not_false, ne_eq, Decidable.not_not, Classical.not_not] at hs1_3
    refine g_v (.held _ _ _ rfl rfl rfl) rfl rfl (qt_loadS (n := 0) rfl rfl Try.underlying29 rfl (by kernel_rfl) rfl) ?_
    refine g_v (.held _ _ _ rfl rfl rfl) rfl rfl (qt_move rfl rfl) ?_
    refine g_q (.held _ _ _ rfl rfl rfl) rfl rfl (qt_call rfl Try.func105 rfl (by decide) rfl (fun w M => specCong_any w _ _ (mem_rdC M h0) _ _ (mem_rd M hu) (isCat_of hs1_3))) ?_
    refine g_v (.held _ _ _ rfl rfl rfl) rfl rfl (qt_not rfl rfl) ?_
    refine g_v (.free rfl) rfl rfl (qt_pick_f rfl rfl rfl) ?_
    refine g_nil ?_
    refine gk_then (hK7 _ _ ?_)
    refine gc_cond rfl (fun hc0 => ?_) (fun hc0 => ?_)
    · try simp only [decide_eq_true_eq, decide_eq_false_iff_not, Bool.not_eq_true', Bool.not_eq_false', Bool.not_eq_eq_eq_not, Bool.not_true, Bool.not_false, ne_eq, Decidable.not_not, Classical.not_not] at hc0
      refine gc_seq fun K10 hK10 => ?_
      refine gc_region ?_
      refine g_v (.free rfl) rfl rfl (qt_build rfl rfl bt0_Category) ?_
      refine g_op (.free rfl) fun K11 hK11 => ?_
      refine go_storeS (n := 1) rfl rfl rfl rfl (by kernel_rfl) rfl rfl rfl ?_
      refine hK11 _ _ ?_
      refine g_v (.free rfl) rfl rfl (qt_assign rfl rfl) ?_
      refine g_nil ?_
      refine gk_then (hK10 _ _ ?_)
      refine gc_ret ?_
      refine gk_then_ret ?_
      refine ret_SI (n := 1) rfl rfl rfl Try.underlying29 rfl (by kernel_rfl) rfl (fun w M => ?_)
      rw [quo_f (fun hh => bP_f' hc0 hh.2)]; exact ⟨_, rfl, ownC_zero _ _, M.1⟩
    · try simp only [decide_eq_true_eq, decide_eq_false_iff_not, Bool.not_eq_true', Bool.not_eq_false', Bool.not_eq_eq_eq_not, Bool.not_true, Bool.not_false, ne_eq, Decidable.not_not, Classical.not_not] at hc0
      refine gc_skip ?_
      refine gk_then (hK6 _ _ ?_)
      refine gc_seq fun K12 hK12 => ?_
      have hM : congM c p := bP_t' hc0
      refine gc_region ?_
      refine g_v (.free rfl) rfl rfl (qt_loadS (n := 0) rfl rfl Try.underlying29 rfl (by kernel_rfl) rfl) ?_
      refine g_v (.free rfl) rfl rfl (qt_move rfl rfl) ?_
      refine g_op (.free rfl) fun K14 hK14 => ?_
      refine go_callC rfl rfl rfl Try.func106 rfl (by decide) rfl (fun w M => specQuo_any w _ _ (mem_rdC M h0) _ _ (mem_rd M hu) (isCat_of hs1_3).toShapeP (hM.1.1) (hM.1.2.2)) ?_
      intro ca13 cb13 cc13 cd13 ce13 cf13 cg13 ch13 cu13
      refine hK14 _ _ ?_
      refine g_op (.free rfl) fun K15 hK15 => ?_
      refine go_storeS (n := 1) rfl rfl rfl rfl (by kernel_rfl) rfl rfl rfl ?_
      refine hK15 _ _ ?_
      refine g_v (.free rfl) rfl rfl (qt_assign rfl rfl) ?_
      refine g_nil ?_
      refine gk_then (hK12 _ _ ?_)
      refine gc_ret ?_
      refine ret_SI (n := 1) rfl rfl rfl Try.underlying29 rfl (by kernel_rfl) rfl (fun w M => ?_)
      rw [quo_t hs1_3 hM]; exact ⟨_, rfl, ownC_star (c := quoM c p) (mem_pick (n := 5) (mem_pick (n := 5) (mem_pick (n := 5) (mem_pick (n := 5) (M) rfl) rfl) rfl) rfl).2, M.1⟩

set_option maxHeartbeats 1000000 in
set_option maxRecDepth 100000 in
theorem quoC1_any (w : World) (x : Int) (B D : Nat) (v : Value) (c : Cat) (h : RdC w v c) (u : Value) (p : List Int) (hu : Rd w u p) (hbB : BxV w B 22 (.agg #[u])) (hbD : BxV w D 29 v) (hS : ShapeP c) (hl : p.length = c.s.length) (hp : p = clsOf p) (x0 : 0 ≤ x) (x1 : x < c.ob) :
    Calls Try.prog 110 #[.int .i64 x, .pointer (some ⟨B, 0, none⟩), .pointer (some ⟨D, 0, none⟩)] w (RetV w (.int .i64 (at0 p (at0 c.e x)))) := by
  have h0 := h
  obtain ⟨va, vb, vc, vd, ve, vf, vg, vh, rfl, h1, h2, h3, h4, _⟩ := h.lists
  obtain ⟨ua, uc, rfl⟩ := rd_form hu
  have hn40 := hS.n40; have htl := hS.tl; have hel := hS.el; have hob0 := hS.ob0; have hob8 := hS.ob8; have hml := hS.ml
  have hm := mC_le p
  have hll := lsC_len p
  have i1 := hS.idn x0 x1
  have i2 := i1.1; have i3 := i1.2.1
  go_enter Try.func110, Try.ntmps110
  refine gc_enter (N := 13) rfl (look_cons (k := 0) rfl (look_cons (k := 1) rfl (look_cons (k := 2) rfl (look_nil _)))) ?_
  refine gc_seq fun K1 hK1 => ?_
  refine gc_region ?_
  refine g_v (.free rfl) rfl rfl (qt_assign rfl rfl) ?_
  refine g_nil ?_
  refine gk_then (hK1 _ _ ?_)
  refine gc_seq fun K2 hK2 => ?_
  refine gc_draw (by kernel_rfl) ?_
  refine gd_v (.free rfl) rfl rfl (qt_loadRB hbB rfl rfl Try.underlying22 rfl rfl) ?_
  refine gd_v (.free rfl) rfl rfl (qt_field (z := 0) (off := 3) rfl rfl Try.underlying29 rfl (by kernel_rfl) rfl) ?_
  refine gd_v (.free rfl) rfl rfl (qt_loadRB hbD rfl rfl Try.underlying22 rfl rfl) ?_
  refine gd_v (.free rfl) rfl rfl (qt_move rfl rfl) ?_
  refine gd_v (.free rfl) rfl rfl (qt_index rfl rfl rfl ulE1 szE1 (fun w M => lenA_rd h3) (by omega) (by omega)) ?_
  refine gd_v (.free rfl) rfl rfl (qt_load1 rfl rfl Try.underlying2 rfl (fun w M => mem_rd M h3) (by omega) (by omega)) ?_
  refine gd_v (.free rfl) rfl rfl (qt_index rfl rfl rfl ulE1 szE1 (fun w M => lenA_rd hu) (by omega) (by omega)) ?_
  refine gd_v (.free rfl) rfl rfl (qt_load1 rfl rfl Try.underlying2 rfl (fun w M => mem_rd M hu) (by omega) (by omega)) ?_
  refine gd_v (.free rfl) rfl rfl (qt_assign rfl rfl) ?_
  refine gd_nil ?_
  refine gk_then (hK2 _ _ ?_)
  refine gc_ret ?_
  refine ret_1 rfl rfl  (fun w M => ?_)
  exact ⟨rfl, M.1⟩

set_option maxHeartbeats 1000000 in
set_option maxRecDepth 100000 in
theorem quoC2_any (w : World) (f g : Int) (B D : Nat) (v : Value) (c : Cat) (h : RdC w v c) (u : Value) (p : List Int) (hu : Rd w u p) (hbB : BxV w B 22 (.agg #[u])) (hbD : BxV w D 29 v) (hS : ShapeP c) (hl : p.length = c.s.length) (hp : p = clsOf p) (E : Nat) (y : Value) (hy : Rd w y (lsC p)) (hbE : BxV w E 22 (.agg #[y])) (f0 : 0 ≤ f) (f1 : f < mC p) (g0 : 0 ≤ g) (g1 : g < mC p) (hco : at0 c.t (at0 (lsC p) f) = at0 c.s (at0 (lsC p) g)) :
    Calls Try.prog 111 #[.int .i64 f, .int .i64 g, .pointer (some ⟨B, 0, none⟩), .pointer (some ⟨D, 0, none⟩), .pointer (some ⟨E, 0, none⟩)] w (RetV w (.int .i64 (thQ c p f g))) := by
  have h0 := h
  obtain ⟨va, vb, vc, vd, ve, vf, vg, vh, rfl, h1, h2, h3, h4, _⟩ := h.lists
  obtain ⟨ua, uc, rfl⟩ := rd_form hu
  obtain ⟨ya, yc, rfl⟩ := rd_form hy
  have hn40 := hS.n40; have htl := hS.tl; have hel := hS.el; have hob0 := hS.ob0; have hob8 := hS.ob8; have hml := hS.ml
  have hm := mC_le p
  have hll := lsC_len p
  have l1 := ls_atI hp f0 f1
  have l2 := ls_atI hp g0 g1
  have l3 := l1.1; have l4 := l1.2.1; have l5 := l2.1; have l6 := l2.2.1
  have T := th_ends hS (f := at0 (lsC p) f) (g := at0 (lsC p) g) (by omega) (by omega) (by omega) (by omega) hco
  have t1 := T.1.1; have t2 := T.1.2
  have G := arrP hS (f := at0 (lsC p) f) (by omega) (by omega)
  have g2 := G.fm; have g3 := G.row
  go_enter Try.func111, Try.ntmps111
  refine gc_enter (N := 21) rfl (look_cons (k := 0) rfl (look_cons (k := 1) rfl (look_cons (k := 2) rfl (look_cons (k := 3) rfl (look_cons (k := 4) rfl (look_nil _)))))) ?_
  refine gc_seq fun K1 hK1 => ?_
  refine gc_region ?_
  refine g_v (.free rfl) rfl rfl (qt_assign rfl rfl) ?_
  refine g_nil ?_
  refine gk_then (hK1 _ _ ?_)
  refine gc_seq fun K2 hK2 => ?_
  refine gc_draw (by kernel_rfl) ?_
  refine gd_v (.free rfl) rfl rfl (qt_loadRB hbB rfl rfl Try.underlying22 rfl rfl) ?_
  refine gd_v (.free rfl) rfl rfl (qt_loadRS hbD rfl rfl Try.underlying29 rfl (by kernel_rfl)) ?_
  refine gd_v (.free rfl) rfl rfl (qt_loadRB hbE rfl rfl Try.underlying22 rfl rfl) ?_
  refine gd_v (.free rfl) rfl rfl (qt_move rfl rfl) ?_
  refine gd_v (.free rfl) rfl rfl (qt_index rfl rfl rfl ulE1 szE1 (fun w M => lenA_rd hy) (by omega) (by omega)) ?_
  refine gd_v (.free rfl) rfl rfl (qt_load1 rfl rfl Try.underlying2 rfl (fun w M => mem_rd M hy) (by omega) (by omega)) ?_
  refine gd_v (.free rfl) rfl rfl (qt_loadRB hbE rfl rfl Try.underlying22 rfl rfl) ?_
  refine gd_v (.free rfl) rfl rfl (qt_move rfl rfl) ?_
  refine gd_v (.free rfl) rfl rfl (qt_index rfl rfl rfl ulE1 szE1 (fun w M => lenA_rd hy) (by omega) (by omega)) ?_
  refine gd_v (.free rfl) rfl rfl (qt_load1 rfl rfl Try.underlying2 rfl (fun w M => mem_rd M hy) (by omega) (by omega)) ?_
  refine gd_q (.free rfl) rfl rfl (qt_call rfl Try.func97 rfl (by decide) rfl (fun w M => then_any w _ _ _ _ (mem_rdC M h0) (by first | assumption | omega) (by first | assumption | omega) (by first | assumption | omega) (by first | assumption | omega))) ?_
  refine gd_v (.free rfl) rfl rfl (qt_index rfl rfl rfl ulE1 szE1 (fun w M => lenA_rd hu) (by omega) (by omega)) ?_
  refine gd_v (.free rfl) rfl rfl (qt_load1 rfl rfl Try.underlying2 rfl (fun w M => mem_rd M hu) (by omega) (by omega)) ?_
  refine gd_v (.free rfl) rfl rfl (qt_assign rfl rfl) ?_
  refine gd_nil ?_
  refine gk_then (hK2 _ _ ?_)
  refine gc_ret ?_
  refine ret_1 rfl rfl  (fun w M => ?_)
  exact ⟨rfl, M.1⟩

set_option maxHeartbeats 1000000 in
set_option maxRecDepth 100000 in
theorem impl_QuotientCategory (w : World) (v : Value) (c : Cat) (u : Value) (p : List Int) (h : RdC w v c) (hu : Rd w u p) :
    Calls Try.prog 49 #[v, u] w (RetCI w (fQuotientCategory c p).1 (fQuotientCategory c p).2) := by
  have h0 := h
  obtain ⟨va, vb, vc, vd, ve, vf, vg, vh, rfl, h1, h2, h3, h4, _⟩ := h.lists
  obtain ⟨ua, uc, rfl⟩ := rd_form hu
  go_enter Try.func49, Try.ntmps49
  refine gc_enter (N := 50) rfl (look_cons (k := 0) rfl (look_cons (k := 1) rfl (look_nil _))) ?_
  refine gc_seq fun K1 hK1 => ?_
  refine gc_region ?_
  refine g_op (.free rfl) fun K3 hK3 => ?_
  refine go_box rfl rfl rfl rfl rfl ?_
  intro B2
  refine hK3 _ _ ?_
  refine g_op (.free rfl) fun K5 hK5 => ?_
  refine go_box rfl rfl rfl rfl rfl ?_
  intro B4
  refine hK5 _ _ ?_
  refine g_op (.free rfl) fun K7 hK7 => ?_
  refine go_alloc (z := (.agg #[.int .i64 0, .slice none 0 0, .slice none 0 0, .slice none 0 0, .slice none 0 0])) (cs := [.int .i64 0, .slice none 0 0, .slice none 0 0, .slice none 0 0, .slice none 0 0]) rfl rfl rfl (fun w => by kernel_rfl) rfl ?_
  intro B6
  refine hK7 _ _ ?_
  refine g_v (.free rfl) rfl rfl (qt_assign rfl rfl) ?_
  refine g_nil ?_
  refine gk_then (hK1 _ _ ?_)
  refine gc_seq fun K8 hK8 => ?_
  refine gc_region ?_
  refine g_v (.free rfl) rfl rfl (qt_loadS (n := 0) rfl rfl Try.underlying29 rfl (by kernel_rfl) rfl) ?_
  refine g_op (.free rfl) fun K10 hK10 => ?_
  refine go_callCI rfl rfl rfl Try.func107 rfl (by decide) rfl (fun w M => readCat_any w _ _ (mem_rdC M h0)) ?_
  intro ca9 cb9 cc9 cd9 ce9 cf9 cg9 ch9 cu9
  refine hK10 _ _ ?_
  refine g_v (.free rfl) rfl rfl (qt_move rfl rfl) ?_
  refine g_v (.free rfl) rfl rfl (qt_extract rfl rfl rfl) ?_
  refine g_v (.free rfl) rfl rfl (qt_extract rfl rfl rfl) ?_
  refine g_op (.free rfl) fun K12 hK12 => ?_
  refine go_alloc (z := (.agg #[.int .i64 0, .slice none 0 0, .slice none 0 0, .slice none 0 0, .slice none 0 0])) (cs := [.int .i64 0, .slice none 0 0, .slice none 0 0, .slice none 0 0, .slice none 0 0]) rfl rfl rfl (fun w => by kernel_rfl) rfl ?_
  intro B11
  refine hK12 _ _ ?_
  refine g_op (.free rfl) fun K13 hK13 => ?_
  refine go_storeS (n := 7) rfl rfl rfl rfl (by kernel_rfl) rfl rfl rfl ?_
  refine hK13 _ _ ?_
  refine g_v (.free rfl) rfl rfl (qt_assign rfl rfl) ?_
  refine g_nil ?_
  refine gk_then (hK8 _ _ ?_)
  refine gc_seq fun K14 hK14 => ?_
  refine gc_seq fun K15 hK15 => ?_
  refine gc_region ?_
  refine g_v (.free rfl) rfl rfl (qt_move rfl rfl) ?_
  refine g_v (.free rfl) rfl rfl (qt_neq rfl rfl rfl) ?_
  refine g_nil ?_
  refine gk_then (hK15 _ _ ?_)
  refine gc_cond rfl (fun hc0 => ?_) (fun hc0 => ?_)
  · try simp only [decide_eq_true_eq, decide_eq_false_iff_not, Bool.not_eq_true', Bool.not_eq_false', Bool.not_eq_eq_eq_not, Bool.not_true, Bool.not_false, ne_eq, Decidable.not_not, Classical.not_not] at hc0
    refine gc_seq fun K16 hK16 => ?_
    refine gc_region ?_
    refine g_v (.free rfl) rfl rfl (qt_build rfl rfl bt0_Category) ?_
    refine g_v (.free rfl) rfl rfl (qt_move rfl rfl) ?_
    refine g_op (.free rfl) fun K17 hK17 => ?_
    refine go_storeS (n := 2) rfl rfl rfl rfl (by kernel_rfl) rfl rfl rfl ?_
    refine hK17 _ _ ?_
    refine g_v (.free rfl) rfl rfl (qt_assign rfl rfl) ?_
    refine g_nil ?_
    refine gk_then (hK16 _ _ ?_)
    refine gc_ret ?_
    refine gk_then_ret ?_
    refine ret_SI (n := 2) rfl rfl rfl Try.underlying29 rfl (by kernel_rfl) rfl (fun w M => ?_)
    rw [(catErr_n hc0).2, quo_f (fun hh => by rw [(catErr_n hc0).1] at hh; simp at hh)]; exact ⟨_, rfl, ownC_zero _ _, M.1⟩
  · try simp only [decide_eq_true_eq, decide_eq_false_iff_not, Bool.not_eq_true', Bool.not_eq_false', Bool.not_eq_eq_eq_not, Bool.not_true, Bool.not_false, ne_eq, Decidable.not_not, Classical.not_not] at hc0
    refine gc_skip ?_
    refine gk_then (hK14 _ _ ?_)
    refine gc_seq fun K18 hK18 => ?_
    refine gc_seq fun K19 hK19 => ?_
    have hI := catErr_0 hc0
    simp only [catCat_t hc0]
    have hS := (isCat_of hI).toShapeP
    have hn40 := hS.n40; have htl := hS.tl; have hel := hS.el; have hob0 := hS.ob0; have hob8 := hS.ob8; have hml := hS.ml
    have hm := mC_le p
    have hll := lsC_len p
    refine gc_region ?_
    refine g_v (.free rfl) rfl rfl (qt_loadS (n := 7) rfl rfl Try.underlying29 rfl (by kernel_rfl) rfl) ?_
    refine g_v (.free rfl) rfl rfl (qt_loadB (n := 1) rfl rfl Try.underlying22 rfl rfl rfl) ?_
    refine g_q (.free rfl) rfl rfl (qt_call rfl Try.func108 rfl (by decide) rfl (fun w M => isCong_any w _ _ (rdC_mk ((mem_own1 (n := 3) M rfl).rd) ((mem_own1 (n := 4) M rfl).rd) ((mem_own1 (n := 5) M rfl).rd) (mem_rdU (n := 6) M rfl)) _ _ (mem_rd M hu) (isCat_of hI))) ?_
    refine g_v (.free rfl) rfl rfl (qt_not rfl rfl) ?_
    refine g_nil ?_
    refine gk_then (hK19 _ _ ?_)
    refine gc_cond rfl (fun hc1 => ?_) (fun hc1 => ?_)
    · try simp only [decide_eq_true_eq, decide_eq_false_iff_not, Bool.not_eq_true', Bool.not_eq_false', Bool.not_eq_eq_eq_not, Bool.not_true, Bool.not_false, ne_eq, Decidable.not_not, Classical.not_not] at hc1
      refine gc_seq fun K20 hK20 => ?_
      refine gc_region ?_
      refine g_v (.free rfl) rfl rfl (qt_build rfl rfl bt0_Category) ?_
      refine g_op (.free rfl) fun K21 hK21 => ?_
      refine go_storeS (n := 2) rfl rfl rfl rfl (by kernel_rfl) rfl rfl rfl ?_
      refine hK21 _ _ ?_
      refine g_v (.free rfl) rfl rfl (qt_assign rfl rfl) ?_
      refine g_nil ?_
      refine gk_then (hK20 _ _ ?_)
      refine gc_ret ?_
      refine gk_then_ret ?_
      refine ret_SI (n := 2) rfl rfl rfl Try.underlying29 rfl (by kernel_rfl) rfl (fun w M => ?_)
      rw [quo_f (fun hh => bP_f' hc1 ((cong_iff (isCat_of hI) p).1 hh.2))]; exact ⟨_, rfl, ownC_zero _ _, M.1⟩
    · try simp only [decide_eq_true_eq, decide_eq_false_iff_not, Bool.not_eq_true', Bool.not_eq_false', Bool.not_eq_eq_eq_not, Bool.not_true, Bool.not_false, ne_eq, Decidable.not_not, Classical.not_not] at hc1
      refine gc_skip ?_
      refine gk_then (hK18 _ _ ?_)
      refine gc_seq fun K22 hK22 => ?_
      have hM : congM c p := (cong_iff (isCat_of hI) p).2 (bP_t' hc1)
      have hl := hM.1.1
      have hp := hM.1.2.2
      refine gc_region ?_
      refine g_v (.free rfl) rfl rfl (qt_loadB (n := 1) rfl rfl Try.underlying22 rfl rfl rfl) ?_
      refine g_op (.free rfl) fun K24 hK24 => ?_
      refine go_callL rfl rfl rfl Try.func109 rfl (by decide) rfl (fun w M => leastsP_any w _ _ (mem_rd M hu) (hp)) ?_
      intro va23 vc23
      refine hK24 _ _ ?_
      refine g_op (.free rfl) fun K26 hK26 => ?_
      refine go_alloc (z := (.slice none 0 0)) (cs := [.slice none 0 0]) rfl rfl rfl (fun w => by kernel_rfl) rfl ?_
      intro B25
      refine hK26 _ _ ?_
      refine g_op (.free rfl) fun K27 hK27 => ?_
      refine go_storeB (n := 9) rfl rfl rfl rfl (by kernel_rfl) rfl rfl rfl (by first | decide | simp) ?_
      refine hK27 _ _ ?_
      refine g_nil ?_
      refine gk_then (hK22 _ _ ?_)
      refine gc_seq fun K28 hK28 => ?_
      simp only [show lstL p (nC p p.length) = lsC p from rfl]
      refine gc_region ?_
      refine g_v (.free rfl) rfl rfl (qt_field (z := 0) (off := 0) rfl rfl Try.underlying29 rfl (by kernel_rfl) rfl) ?_
      refine g_v (.free rfl) rfl rfl (qt_loadB (n := 7) rfl rfl Try.underlying2 rfl rfl rfl) ?_
      refine g_v (.free rfl) rfl rfl (qt_makeF rfl rfl) ?_
      refine g_v (.free rfl) rfl rfl (qt_makeF rfl rfl) ?_
      refine g_v (.free rfl) rfl rfl (qt_build rfl rfl bt023_plan_int64) ?_
      refine g_op (.free rfl) fun K30 hK30 => ?_
      refine go_alloc (z := (.agg #[.int .i64 0, .slice none 0 0, .nilFunc, .nilFunc])) (cs := [.int .i64 0, .slice none 0 0, .nilFunc, .nilFunc]) rfl rfl rfl (fun w => by kernel_rfl) rfl ?_
      intro B29
      refine hK30 _ _ ?_
      refine g_op (.free rfl) fun K31 hK31 => ?_
      refine go_storeS (n := 10) rfl rfl rfl rfl (by kernel_rfl) rfl rfl rfl ?_
      refine hK31 _ _ ?_
      refine g_nil ?_
      refine gk_then (hK28 _ _ ?_)
      refine gc_seq fun K32 hK32 => ?_
      refine gc_seq fun K33 hK33 => ?_
      refine gc_region ?_
      refine g_v (.free rfl) rfl rfl (qt_loadB (n := 9) rfl rfl Try.underlying22 rfl rfl rfl) ?_
      refine g_v (.free rfl) rfl rfl (qt_len rfl rfl ulE1 (fun w M => lenV_own1 (n := 8) rfl M)) ?_
      refine g_v (.free rfl) rfl rfl (qt_move rfl rfl) ?_
      refine g_nil ?_
      refine gk_then (hK33 _ _ ?_)
      refine gc_block ?_
      refine gc_nilE lab_int ?_
      try simp only [List.nil_append, List.cons_append, List.append_assoc, List.set_cons_succ, List.set_cons_zero]
      refine gc_loop ([(0, _), (1, _), (2, _), (3, _), (4, _), (5, _), (6, _), (7, _), (8, _), (9, _), (18, _), (24, _), (33, _), (34, _)] : Env) (fun s : Nat × (Option Addr) × Nat => (fun (k : Nat) (a : Option Addr) (q : Nat) => ([(35, .int .i64 (k : Int))] : Env)) s.1 s.2.1 s.2.2) (fun s : Nat × (Option Addr) × Nat => (fun (k : Nat) (a : Option Addr) (q : Nat) => ([(10, bxI B29 111 [.int .i64 c.ob, .slice a (entsTo (entQ c p) k).length q, .func (.func 110) #[] #[.pointer (some ⟨B4, 0, none⟩), .pointer (some ⟨B11, 0, none⟩)], .func (.func 111) #[] #[.pointer (some ⟨B4, 0, none⟩), .pointer (some ⟨B11, 0, none⟩), .pointer (some ⟨B25, 0, none⟩)]]), (11, ownEI lab_int (.slice a (entsTo (entQ c p) k).length q) (entsTo (entQ c p) k))] : List (Nat × Itm))) s.1 s.2.1 s.2.2) (fun s : Nat × (Option Addr) × Nat => (fun (k : Nat) (a : Option Addr) (q : Nat) => k ≤ mC p) s.1 s.2.1 s.2.2) (fun s : Nat × (Option Addr) × Nat => (fun (k : Nat) (a : Option Addr) (q : Nat) => mC p - k) s.1 s.2.1 s.2.2) (0, _, _) (sub_cons rfl (sub_cons rfl (sub_cons rfl (sub_cons rfl (sub_cons rfl (sub_cons rfl (sub_cons rfl (sub_cons rfl (sub_cons rfl (sub_cons rfl (sub_cons rfl (sub_cons rfl (sub_cons rfl (sub_cons rfl (sub_cons rfl sub_nil))))))))))))))) rfl (Nat.zero_le _) ?_
      rintro ⟨k, a, q⟩ hinv KL34 hKL34
      simp only [updL, List.foldl_cons, List.foldl_nil, List.set_cons_succ, List.set_cons_zero, List.cons_append, List.nil_append] at hinv hKL34 ⊢
      have hk := hinv
      have hle := entsTo_len (entQ c p) k
      refine gc_seq fun K35 hK35 => ?_
      refine gc_region ?_
      refine g_v (.free rfl) rfl rfl (qt_lss rfl rfl rfl) ?_
      refine g_nil ?_
      refine gk_then (hK35 _ _ ?_)
      refine gc_seq fun K36 hK36 => ?_
      refine gc_cond rfl (fun hc2 => ?_) (fun hc2 => ?_)
      · try simp only [decide_eq_true_eq, decide_eq_false_iff_not, Bool.not_eq_true', Bool.not_eq_false', Bool.not_eq_eq_eq_not, Bool.not_true, Bool.not_false, ne_eq, Decidable.not_not, Classical.not_not] at hc2
        refine gc_skip ?_
        refine gk_then (hK36 _ _ ?_)
        refine gc_seq fun K37 hK37 => ?_
        refine gc_block ?_
        refine gc_seq fun K38 hK38 => ?_
        have l1 := ls_atI hp (k := (k : Int)) (by omega) (by omega)
        have l2 := l1.1; have l3 := l1.2.1
        refine gc_region ?_
        refine g_v (.free rfl) rfl rfl (qt_move rfl rfl) ?_
        refine g_v (.free rfl) rfl rfl (qt_index rfl rfl rfl ulE1 szE1 (fun w M => lenA_own1 (n := 8) rfl M) (by omega) (by omega)) ?_
        refine g_v (.free rfl) rfl rfl (qt_load1 rfl rfl Try.underlying2 rfl (fun w M => (mem_own1 (n := 8) M rfl).rd) (by omega) (by omega)) ?_
        refine g_v (.free rfl) rfl rfl (qt_assign rfl rfl) ?_
        refine g_v (.free rfl) rfl rfl (qt_assign rfl rfl) ?_
        refine g_nil ?_
        refine gk_then (hK38 _ _ ?_)
        refine gc_region ?_
        refine g_v (.free rfl) rfl rfl (qt_loadS (n := 7) rfl rfl Try.underlying29 rfl (by kernel_rfl) rfl) ?_
        refine g_v (.free rfl) rfl rfl (qt_move rfl rfl) ?_
        refine g_q (.free rfl) rfl rfl (qt_call rfl Try.func113 rfl (by decide) rfl (fun w M => ends_any w _ _ _ (rdC_mk ((mem_own1 (n := 3) M rfl).rd) ((mem_own1 (n := 4) M rfl).rd) ((mem_own1 (n := 5) M rfl).rd) (mem_rdU (n := 6) M rfl)) (by first | assumption | omega) (by first | assumption | omega) (by first | assumption | omega))) ?_
        refine g_v (.free rfl) rfl rfl (qt_move rfl rfl) ?_
        refine g_op (.free rfl) fun K40 hK40 => ?_
        refine go_two (n := 10) (m := 11) (m' := 10) (σ := Option Addr × Nat) rfl rfl rfl Try.func112 rfl (by decide) rfl rfl rfl (fun z => rfl) (fun R w M => add_int _ w R _ _ _ _ _ _ _ _ _ _ (by omega) M) ?_
        intro ⟨sa39, sq39⟩
        refine hK40 _ _ ?_
        refine g_nil ?_
        refine gk_block ?_
        refine gk_then (hK37 _ _ ?_)
        refine gc_region ?_
        refine g_v (.free rfl) rfl rfl (qt_add rfl rfl rfl (by omega)) ?_
        refine g_v (.free rfl) rfl rfl (qt_move rfl rfl) ?_
        refine g_nil ?_
        simp only [qS_def, qT_def, entQ_def, entsTo_succ]
        refine gk_then (gk_take 12 ?_)
        refine gk_sub ?hs_41 (hKL34 (k + 1, _, _) ?hi_41 ?hm_41)
        case hs_41 => exact (sub_cons rfl (sub_cons rfl (sub_cons rfl (sub_cons rfl (sub_cons rfl (sub_cons rfl (sub_cons rfl (sub_cons rfl (sub_cons rfl (sub_cons rfl (sub_cons rfl (sub_cons rfl (sub_cons rfl (sub_cons rfl (sub_cons rfl sub_nil)))))))))))))))
        case hi_41 => omega
        case hm_41 => omega
      · try simp only [decide_eq_true_eq, decide_eq_false_iff_not, Bool.not_eq_true', Bool.not_eq_false', Bool.not_eq_eq_eq_not, Bool.not_true, Bool.not_false, ne_eq, Decidable.not_not, Classical.not_not] at hc2
        refine gc_exit ?_
        refine gk_then_exit ?_
        refine gk_then_exit ?_
        refine gk_block_hit ?_
        refine gk_then (hK32 _ _ ?_)
        refine gc_seq fun K42 hK42 => ?_
        obtain rfl : k = mC p := by omega
        refine gc_region ?_
        refine g_v (.free rfl) rfl rfl (qt_loadS (n := 10) rfl rfl Try.underlying111 rfl (by kernel_rfl) rfl) ?_
        refine g_op (.free rfl) fun K44 hK44 => ?_
        refine go_callCI rfl rfl rfl Try.func114 rfl (by decide) rfl (fun w M => build_int w _ _ (entsTo (entQ c p) (mC p)) (mem_ownE (n := 11) M rfl) (entsTo_nodup fun i j _ _ h => entQ_inj c p i j h) (by omega) _ _ (uQ c p) (⟨_, Try.func110, rfl, by decide⟩) (fun w' hb x hx => quoC1_any w' (x : Int) _ _ _ c (rdC_below hb (rdC_mk ((mem_own1 (n := 3) M rfl).rd) ((mem_own1 (n := 4) M rfl).rd) ((mem_own1 (n := 5) M rfl).rd) (mem_rdU (n := 6) M rfl))) _ p (rd_below hb (mem_rd M hu)) (bxV_below hb (bxV_of (n := 1) M rfl)) (bxV_below hb (bxV_of (n := 7) M rfl)) hS hl hp (by omega) hx) _ _ (thQ c p) (⟨_, Try.func111, rfl, by decide⟩) (fun w' hb f hf g hg hfg => by obtain ⟨i, hi, rfl⟩ := entsTo_mem.1 hf; obtain ⟨j, hj, rfl⟩ := entsTo_mem.1 hg; exact quoC2_any w' (i : Int) (j : Int) _ _ _ c (rdC_below hb (rdC_mk ((mem_own1 (n := 3) M rfl).rd) ((mem_own1 (n := 4) M rfl).rd) ((mem_own1 (n := 5) M rfl).rd) (mem_rdU (n := 6) M rfl))) _ p (rd_below hb (mem_rd M hu)) (bxV_below hb (bxV_of (n := 1) M rfl)) (bxV_below hb (bxV_of (n := 7) M rfl)) hS hl hp _ _ (rd_below hb (mem_own1 (n := 8) M rfl).rd) (bxV_below hb (bxV_of (n := 9) M rfl)) (by omega) (by omega) (by omega) (by omega) hfg)) ?_
        intro ca43 cb43 cc43 cd43 ce43 cf43 cg43 ch43 cu43
        refine hK44 _ _ ?_
        refine g_v (.free rfl) rfl rfl (qt_extract rfl rfl rfl) ?_
        refine g_v (.free rfl) rfl rfl (qt_extract rfl rfl rfl) ?_
        refine g_op (.free rfl) fun K45 hK45 => ?_
        refine go_storeS (n := 2) rfl rfl rfl rfl (by kernel_rfl) rfl rfl rfl ?_
        refine hK45 _ _ ?_
        refine g_v (.free rfl) rfl rfl (qt_assign rfl rfl) ?_
        refine g_nil ?_
        refine gk_then (hK42 _ _ ?_)
        refine gc_ret ?_
        refine ret_SI (n := 2) rfl rfl rfl Try.underlying29 rfl (by kernel_rfl) rfl (fun w M => ?_)
        have hmd := quo_made hI hM
        exact retCI_eq hmd.1 hmd.2 ⟨_, rfl, ownC_star (mem_pick (n := 15) (mem_pick (n := 15) (mem_pick (n := 15) (mem_pick (n := 15) (M) rfl) rfl) rfl) rfl).2, M.1⟩

end Go.Proofs.Ytpfcfhjpgngneab
