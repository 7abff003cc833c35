
/- Renumbering a category: both sides. -/
import Derived.Test.YtgkfampgofjkfaaBij
import Derived.Test.YtgkfampgofjkfaaEnts
import Derived.Test.YtgkfampgofjkfaaOppS
import Derived.Test.YtgkfampgofjkfaaStoU
import Derived.Test.YtgkfampgofjkfaaZer
set_option linter.unusedSimpArgs false
set_option linter.unusedVariables false
set_option linter.unusedSectionVars false
namespace Go.Proofs.Ytgkfampgofjkfaa
open Go.RowKit


def putL (xs : List Int) (φ : Int → Int) (old : List Int) (k : Nat) : List Int := tabTo (fun j => if at0 (bkL xs xs.length) (j : Int) < k then φ (at0 (bkL xs xs.length) (j : Int)) else at0 old (j : Int)) old.length
theorem putL_len (xs : List Int) (φ : Int → Int) (old : List Int) (k : Nat) : (putL xs φ old k).length = old.length := tabTo_len _ _
theorem putL_zero {xs old : List Int} (φ : Int → Int) (B : BijL old.length xs) : old = putL xs φ old 0 :=
  tabTo_ext rfl fun j hj => by
    have h := (B.at hj).1
    rw [if_neg (by omega)]
theorem putL_end {xs old : List Int} (φ : Int → Int) {n : Nat} (B : BijL n xs) (hn : old.length = n) : putL xs φ old n = tabTo (fun j => φ (at0 (bkL xs xs.length) (j : Int))) n := by
  subst hn
  exact tabTo_congr fun j hj => by
    have h := (B.at hj).2.1
    rw [if_pos h]
theorem putL_set {xs old : List Int} {φ : Int → Int} {n k : Nat} (B : BijL n xs) (hn : old.length = n) (hk : k < n) : (putL xs φ old k).set (at0 xs (k : Int)).toNat (φ (k : Int)) = putL xs φ old (k + 1) := by
  subst hn
  have hr := B.rng hk
  refine tabTo_ext (by rw [List.length_set, putL_len]) fun j hj => ?_
  show ((putL xs φ old k).set _ _).getD (j : Int).toNat 0 = _
  rw [getD_set _ _ _ _ (by rw [putL_len]; omega), Int.toNat_natCast]
  by_cases e : j = (at0 xs (k : Int)).toNat
  · have h := (B.eq hj hk).2 e
    rw [if_pos e, h, if_pos (by omega)]
  · have h : ¬ at0 (bkL xs xs.length) (j : Int) = (k : Int) := fun h => e ((B.eq hj hk).1 h)
    rw [if_neg e, ← at0_nat]
    unfold putL
    rw [tabTo_at _ hj]
    by_cases h1 : at0 (bkL xs xs.length) (j : Int) < k
    · rw [if_pos h1, if_pos (by omega)]
    · rw [if_neg h1, if_neg (by omega)]
noncomputable def rnV (c : Cat) (ys : List Int) (f g : Int) : Int := if c.th f g = -1 then -1 else at0 ys (c.th f g)
noncomputable def rnC (c : Cat) (xs ys : List Int) : Cat :=
  ⟨c.ob, tabTo (fun j => at0 xs (at0 c.s (at0 (bkL ys ys.length) (j : Int)))) c.s.length, tabTo (fun j => at0 xs (at0 c.t (at0 (bkL ys ys.length) (j : Int)))) c.s.length, tabTo (fun j => at0 ys (at0 c.e (at0 (bkL xs xs.length) (j : Int)))) c.e.length,
   rowsTo (fun j => tabTo (fun i => rnV c ys (at0 (bkL ys ys.length) (j : Int)) (at0 (bkL ys ys.length) (i : Int))) c.s.length) c.s.length⟩
def ltP (a b : Int) (f g : Nat) : Prop := a < f ∨ a = f ∧ b < g
instance (a b : Int) (f g : Nat) : Decidable (ltP a b f g) := inferInstanceAs (Decidable (_ ∨ _))
noncomputable def putR (c : Cat) (ys : List Int) (f g : Nat) : List (List Int) :=
  rowsTo (fun j => tabTo (fun i => if ltP (at0 (bkL ys ys.length) (j : Int)) (at0 (bkL ys ys.length) (i : Int)) f g then rnV c ys (at0 (bkL ys ys.length) (j : Int)) (at0 (bkL ys ys.length) (i : Int)) else c.th (j : Int) (i : Int)) c.s.length) c.s.length
theorem putR_len (c : Cat) (ys : List Int) (f g : Nat) : (putR c ys f g).length = c.s.length := rowsTo_len _ _
theorem putR_row {c : Cat} {ys : List Int} {f g : Nat} {i : Int} (h0 : 0 ≤ i) (h1 : i < c.s.length) : (row2 (putR c ys f g) i).length = c.s.length := by
  obtain ⟨j, rfl⟩ := Int.eq_ofNat_of_zero_le h0
  unfold putR
  rw [rowsTo_at _ (by omega), tabTo_len]
theorem putR_at {c : Cat} {ys : List Int} {f g j : Nat} (hj : j < c.s.length) : row2 (putR c ys f g) (j : Int) = tabTo (fun i => if ltP (at0 (bkL ys ys.length) (j : Int)) (at0 (bkL ys ys.length) (i : Int)) f g then rnV c ys (at0 (bkL ys ys.length) (j : Int)) (at0 (bkL ys ys.length) (i : Int)) else c.th (j : Int) (i : Int)) c.s.length := rowsTo_at _ hj
theorem e_rngI {c : Cat} (hS : ShapeP c) {z : Int} (z0 : 0 ≤ z) (z1 : z < c.e.length) : 0 ≤ at0 c.e z ∧ at0 c.e z < c.s.length := by
  obtain ⟨a, rfl⟩ := Int.eq_ofNat_of_zero_le z0
  exact (hS.id a (by omega)).1
theorem putR_zero {c : Cat} {ys : List Int} (hS : ShapeP c) (B : BijL c.s.length ys) : c.m = putR c ys 0 0 :=
  rowsTo_ext hS.ml fun j hj => tabTo_ext ((arrP hS (f := (j : Int)) (by omega) (by omega)).row) fun i hi => by
    have h := (B.at hj).1; have h2 := (B.at hi).1
    rw [if_neg (by unfold ltP; omega)]; rfl
theorem putR_next {c : Cat} {ys : List Int} (B : BijL c.s.length ys) {f : Nat} : putR c ys f c.s.length = putR c ys (f + 1) 0 :=
  rowsTo_congr fun j hj => tabTo_congr fun i hi => by
    have h := (B.at hi)
    have e : ltP (at0 (bkL ys ys.length) (j : Int)) (at0 (bkL ys ys.length) (i : Int)) f c.s.length ↔ ltP (at0 (bkL ys ys.length) (j : Int)) (at0 (bkL ys ys.length) (i : Int)) (f + 1) 0 := by unfold ltP; omega
    by_cases hp : ltP (at0 (bkL ys ys.length) (j : Int)) (at0 (bkL ys ys.length) (i : Int)) f c.s.length
    · rw [if_pos hp, if_pos (e.1 hp)]
    · rw [if_neg hp, if_neg fun h => hp (e.2 h)]
theorem putR_end {c : Cat} {xs ys : List Int} (B : BijL c.s.length ys) : putR c ys c.s.length 0 = (rnC c xs ys).m :=
  rowsTo_congr fun j hj => tabTo_congr fun i hi => by
    have h := (B.at hj)
    rw [if_pos (by unfold ltP; omega)]
theorem putR_set {c : Cat} {ys : List Int} (B : BijL c.s.length ys) {f g : Nat} (hf : f < c.s.length) (hg : g < c.s.length) :
    (putR c ys f g).set (at0 ys (f : Int)).toNat ((row2 (putR c ys f g) (at0 ys (f : Int))).set (at0 ys (g : Int)).toNat (rnV c ys (f : Int) (g : Int))) = putR c ys f (g + 1) := by
  have hr := B.rng hf; have hq := B.rng hg
  refine rowsTo_ext (by rw [List.length_set, putR_len]) fun j hj => ?_
  have e1 : row2 ((putR c ys f g).set (at0 ys (f : Int)).toNat ((row2 (putR c ys f g) (at0 ys (f : Int))).set (at0 ys (g : Int)).toNat (rnV c ys (f : Int) (g : Int)))) (j : Int) = if j = (at0 ys (f : Int)).toNat then ((row2 (putR c ys f g) (at0 ys (f : Int))).set (at0 ys (g : Int)).toNat (rnV c ys (f : Int) (g : Int))) else row2 (putR c ys f g) (j : Int) := by
    unfold row2; rw [getD_set2 _ _ _ _ _ (by rw [putR_len]; omega), Int.toNat_natCast]
  rw [e1]
  have e2 := putR_at (c := c) (ys := ys) (f := f) (g := g) hj
  by_cases e : j = (at0 ys (f : Int)).toNat
  · have hbj := (B.eq hj hf).2 e
    have hjj : at0 ys (f : Int) = (j : Int) := by omega
    rw [if_pos e, hjj, e2]
    refine tabTo_ext (by rw [List.length_set, tabTo_len]) fun i hi => ?_
    show ((tabTo _ _).set _ _).getD (i : Int).toNat 0 = _
    rw [getD_set _ _ _ _ (by rw [tabTo_len]; omega), Int.toNat_natCast]
    by_cases e3 : i = (at0 ys (g : Int)).toNat
    · have hbi := (B.eq hi hg).2 e3
      rw [if_pos e3, hbj, hbi, if_pos (by unfold ltP; omega)]
    · have hbi : ¬ at0 (bkL ys ys.length) (i : Int) = (g : Int) := fun h => e3 ((B.eq hi hg).1 h)
      rw [if_neg e3, ← at0_nat, tabTo_at _ hi]
      have e4 : ltP (at0 (bkL ys ys.length) (j : Int)) (at0 (bkL ys ys.length) (i : Int)) f g ↔ ltP (at0 (bkL ys ys.length) (j : Int)) (at0 (bkL ys ys.length) (i : Int)) f (g + 1) := by unfold ltP; omega
      by_cases hp : ltP (at0 (bkL ys ys.length) (j : Int)) (at0 (bkL ys ys.length) (i : Int)) f g
      · rw [if_pos hp, if_pos (e4.1 hp)]
      · rw [if_neg hp, if_neg fun h => hp (e4.2 h)]
  · have hbj : ¬ at0 (bkL ys ys.length) (j : Int) = (f : Int) := fun h => e ((B.eq hj hf).1 h)
    rw [if_neg e, e2]
    refine tabTo_congr fun i hi => ?_
    have e4 : ltP (at0 (bkL ys ys.length) (j : Int)) (at0 (bkL ys ys.length) (i : Int)) f g ↔ ltP (at0 (bkL ys ys.length) (j : Int)) (at0 (bkL ys ys.length) (i : Int)) f (g + 1) := by unfold ltP; omega
    by_cases hp : ltP (at0 (bkL ys ys.length) (j : Int)) (at0 (bkL ys ys.length) (i : Int)) f g
    · rw [if_pos hp, if_pos (e4.1 hp)]
    · rw [if_neg hp, if_neg fun h => hp (e4.2 h)]
theorem th_rngI {c : Cat} (hS : ShapeP c) {f g : Int} (f0 : 0 ≤ f) (f1 : f < c.s.length) (g0 : 0 ≤ g) (g1 : g < c.s.length) : c.th f g < c.s.length ∧ (c.th f g ≠ -1 → 0 ≤ c.th f g) := by
  obtain ⟨a, rfl⟩ := Int.eq_ofNat_of_zero_le f0
  obtain ⟨b, rfl⟩ := Int.eq_ofNat_of_zero_le g0
  exact th_rng hS (by omega) (by omega)
theorem rnV_n {c : Cat} {ys : List Int} {f g : Int} (h : c.th f g = -1) : -1 = rnV c ys f g := by unfold rnV; rw [if_pos h]
theorem rnV_t {c : Cat} {ys : List Int} {f g : Int} (h : ¬ c.th f g = -1) : at0 ys (at0 (row2 c.m f) g) = rnV c ys f g := by unfold rnV; rw [if_neg h]; rfl
theorem rnV_n' {c : Cat} {ys : List Int} {f g : Int} (h : c.th f g = -1) : at0 (row2 c.m f) g = rnV c ys f g := by unfold rnV; rw [if_pos h]; exact h
def rnOk (c : Cat) (xs ys : List Int) : Prop := BijL c.e.length xs ∧ BijL c.s.length ys
noncomputable def fRenumberCategory (c : Cat) (xs ys : List Int) : Cat × Int := if fIsCategory c = true then (if bP (rnOk c xs ys) = true then (rnC c xs ys, 0) else (cat0, 2)) else (cat0, 1)
theorem rn_f {c : Cat} {xs ys : List Int} (h : fIsCategory c = false) : fRenumberCategory c xs ys = (cat0, 1) := if_neg (by rw [h]; decide)
theorem rn_n {c : Cat} {xs ys : List Int} (h : fIsCategory c = true) (h' : ¬ rnOk c xs ys) : fRenumberCategory c xs ys = (cat0, 2) := by unfold fRenumberCategory; rw [if_pos h, if_neg (by rw [bP_f h']; decide)]
theorem rn_t {c : Cat} {xs ys : List Int} (h : fIsCategory c = true) (h' : rnOk c xs ys) : fRenumberCategory c xs ys = (rnC c xs ys, 0) := by unfold fRenumberCategory; rw [if_pos h, if_pos (bP_t h')]
theorem bound_RenumberCategory (c : Cat) (xs ys : List Int) : mzC (fRenumberCategory c xs ys).1 ≤ 1152921504606846 := by
  cases hI : fIsCategory c with
  | false => rw [rn_f hI]; decide
  | true =>
    by_cases h' : rnOk c xs ys
    · have hS := (isCat_of hI).toShapeP
      have htl := hS.tl; have hel := hS.el; have hob8 := hS.ob8; have hn40 := hS.n40
      rw [rn_t hI h']
      exact mz_small (show (tabTo _ _).length ≤ 40 by rw [tabTo_len]; omega) (show (tabTo _ _).length ≤ 40 by rw [tabTo_len]; omega) (show (tabTo _ _).length ≤ 40 by rw [tabTo_len]; omega) (show (rowsTo _ _).length ≤ 40 by rw [rowsTo_len]; omega) fun i hi => by
        have hi : i < c.s.length := by rw [show (rnC c xs ys).m.length = c.s.length from rowsTo_len _ _] at hi; exact hi
        rw [show row2 (rnC c xs ys).m (i : Int) = tabTo _ _ from rowsTo_at _ hi, tabTo_len]; exact hn40
    · rw [rn_n hI h']; decide

set_option maxHeartbeats 1000000 in
set_option maxRecDepth 100000 in
theorem renumbered_any (w : World) (v : Value) (c : Cat) (h : RdC w v c) (vo : Value) (xs : List Int) (ho : Rd w vo xs) (vn : Value) (ys : List Int) (ha : Rd w vn ys) (hS : ShapeP c) (Bo : BijL c.e.length xs) (Ba : BijL c.s.length ys) :
    Calls Try.prog 43 #[v, vo, vn] w (RetC w (rnC c xs ys)) := by
  have h0 := h
  obtain ⟨va, vb, vc, vd, ve, vf, vg, vh, rfl, h1, h2, h3, h4, _⟩ := h.lists
  obtain ⟨voa, voc, rfl⟩ := rd_form ho
  obtain ⟨vna, vnc, rfl⟩ := rd_form ha
  have hn40 := hS.n40; have htl := hS.tl; have hel := hS.el; have hob0 := hS.ob0; have hob8 := hS.ob8; have hml := hS.ml
  have xl := Bo.len; have yl := Ba.len
  go_enter Try.func43, Try.ntmps43
  refine gc_enter (N := 98) rfl (look_cons (k := 0) rfl (look_cons (k := 1) rfl (look_cons (k := 2) rfl (look_nil _)))) ?_
  refine gc_seq fun K1 hK1 => ?_
  refine gc_region ?_
  refine g_op (.free rfl) fun K3 hK3 => ?_
  refine go_box rfl rfl rfl rfl rfl ?_
  intro B2
  refine hK3 _ _ ?_
  refine g_op (.free rfl) fun K5 hK5 => ?_
  refine go_alloc (z := (.agg #[.int .i64 0, .slice none 0 0, .slice none 0 0, .slice none 0 0, .slice none 0 0])) (cs := [.int .i64 0, .slice none 0 0, .slice none 0 0, .slice none 0 0, .slice none 0 0]) rfl rfl rfl (fun w => by kernel_rfl) rfl ?_
  intro B4
  refine hK5 _ _ ?_
  refine g_nil ?_
  refine gk_then (hK1 _ _ ?_)
  refine gc_seq fun K6 hK6 => ?_
  refine gc_region ?_
  refine g_v (.free rfl) rfl rfl (qt_loadS (n := 0) rfl rfl Try.underlying27 rfl (by kernel_rfl) rfl) ?_
  refine g_op (.free rfl) fun K8 hK8 => ?_
  refine go_callC rfl rfl rfl Try.func72 rfl (by decide) rfl (fun w M => copied_any w _ _ (mem_rdC M h0)) ?_
  intro ca7 cb7 cc7 cd7 ce7 cf7 cg7 ch7 cu7
  refine hK8 _ _ ?_
  refine g_op (.free rfl) fun K10 hK10 => ?_
  refine go_alloc (z := (.agg #[.int .i64 0, .slice none 0 0, .slice none 0 0, .slice none 0 0, .slice none 0 0])) (cs := [.int .i64 0, .slice none 0 0, .slice none 0 0, .slice none 0 0, .slice none 0 0]) rfl rfl rfl (fun w => by kernel_rfl) rfl ?_
  intro B9
  refine hK10 _ _ ?_
  refine g_op (.free rfl) fun K11 hK11 => ?_
  refine go_storeS (n := 6) rfl rfl rfl rfl (by kernel_rfl) rfl rfl rfl ?_
  refine hK11 _ _ ?_
  refine g_nil ?_
  refine gk_then (hK6 _ _ ?_)
  refine gc_seq fun K12 hK12 => ?_
  refine gc_seq fun K13 hK13 => ?_
  refine gc_region ?_
  refine g_v (.free rfl) rfl rfl (qt_field (z := 0) (off := 3) rfl rfl Try.underlying27 rfl (by kernel_rfl) rfl) ?_
  refine g_v (.free rfl) rfl rfl (qt_loadB (n := 0) rfl rfl Try.underlying22 rfl rfl rfl) ?_
  refine g_v (.free rfl) rfl rfl (qt_len rfl rfl ulE1 (fun w M => lenV_rd h3)) ?_
  refine g_v (.free rfl) rfl rfl (qt_move rfl rfl) ?_
  refine g_nil ?_
  refine gk_then (hK13 _ _ ?_)
  refine gc_block ?_
  rw [show own1I (.slice ce7 c.e.length cf7) c.e = own1I (.slice ce7 c.e.length cf7) (putL xs (fun z => at0 ys (at0 c.e z)) c.e 0) from by rw [← putL_zero (fun z => at0 ys (at0 c.e z)) Bo]]
  try simp only [List.nil_append, List.cons_append, List.append_assoc, List.set_cons_succ, List.set_cons_zero]
  refine gc_loop ([(0, _), (1, _), (2, _), (3, _), (6, _), (7, _), (17, _), (18, _)] : Env) (fun s : Nat => (fun (k : Nat) => ([(19, .int .i64 (k : Int))] : Env)) s) (fun s : Nat => (fun (k : Nat) => ([(4, own1I (.slice ce7 c.e.length cf7) (putL xs (fun z => at0 ys (at0 c.e z)) c.e k))] : List (Nat × Itm))) s) (fun s : Nat => (fun (k : Nat) => k ≤ c.e.length) s) (fun s : Nat => (fun (k : Nat) => c.e.length - k) s) (0) (sub_cons rfl (sub_cons rfl (sub_cons rfl (sub_cons rfl (sub_cons rfl (sub_cons rfl (sub_cons rfl (sub_cons rfl (sub_cons rfl sub_nil))))))))) rfl (Nat.zero_le _) ?_
  rintro k hinv KL14 hKL14
  simp only [updL, List.foldl_cons, List.foldl_nil, List.set_cons_succ, List.set_cons_zero, List.cons_append, List.nil_append] at hinv hKL14 ⊢
  have hk := hinv
  have hpl := putL_len xs (fun z => at0 ys (at0 c.e z)) c.e k
  refine gc_seq fun K15 hK15 => ?_
  refine gc_region ?_
  refine g_v (.free rfl) rfl rfl (qt_lss rfl rfl rfl) ?_
  refine g_nil ?_
  refine gk_then (hK15 _ _ ?_)
  refine gc_seq fun K16 hK16 => ?_
  refine gc_cond rfl (fun hc0 => ?_) (fun hc0 => ?_)
  · try simp only [decide_eq_true_eq, decide_eq_false_iff_not, Bool.not_eq_true', Bool.not_eq_false', Bool.not_eq_eq_eq_not, Bool.not_true, Bool.not_false, ne_eq, Decidable.not_not, Classical.not_not] at hc0
    refine gc_skip ?_
    refine gk_then (hK16 _ _ ?_)
    refine gc_seq fun K17 hK17 => ?_
    refine gc_block ?_
    refine gc_seq fun K18 hK18 => ?_
    have hb := Bo.rng (k := k) (by omega)
    have he := (hS.id k (by omega)).1
    have he1 := he.1; have he2 := he.2
    refine gc_region ?_
    refine g_v (.free rfl) rfl rfl (qt_move rfl rfl) ?_
    refine g_v (.free rfl) rfl rfl (qt_index rfl rfl rfl ulE1 szE1 (fun w M => lenA_rd h3) (by omega) (by omega)) ?_
    refine g_v (.free rfl) rfl rfl (qt_load1 rfl rfl Try.underlying2 rfl (fun w M => mem_rd M h3) (by omega) (by omega)) ?_
    refine g_v (.free rfl) rfl rfl (qt_assign rfl rfl) ?_
    refine g_v (.free rfl) rfl rfl (qt_assign rfl rfl) ?_
    refine g_nil ?_
    refine gk_then (hK18 _ _ ?_)
    try simp only [List.nil_append, List.cons_append, List.append_assoc, List.set_cons_succ, List.set_cons_zero]
    refine ga_start _ (fun w M => mem_erase 4 (M)) ?_
    refine ga_v 0 rfl (by kernel_rfl) (by kernel_rfl) (by kernel_rfl) (.free rfl) rfl rfl (qt_field (z := 0) (off := 3) rfl rfl Try.underlying27 rfl (by kernel_rfl) rfl) (fun _ _ _ h => h) ?_
    refine ga_v 1 rfl (by kernel_rfl) (by kernel_rfl) (by kernel_rfl) (.free rfl) rfl rfl (qt_loadB (n := 5) rfl rfl Try.underlying22 rfl rfl rfl) (fun _ _ _ h => h) ?_
    refine ga_v 2 rfl (by kernel_rfl) (by kernel_rfl) (by kernel_rfl) (.free rfl) rfl rfl (qt_move rfl rfl) (fun _ _ _ h => h) ?_
    refine ga_v 3 rfl (by kernel_rfl) (by kernel_rfl) (by kernel_rfl) (.free rfl) rfl rfl (qt_move rfl rfl) (fun _ _ _ h => h) ?_
    refine ga_v 4 rfl (by kernel_rfl) (by kernel_rfl) (by kernel_rfl) (.free rfl) rfl rfl (qt_index rfl rfl rfl ulE1 szE1 (fun w M => lenA_rd ho) (by omega) (by omega)) (fun _ _ _ h => h) ?_
    refine ga_v 5 rfl (by kernel_rfl) (by kernel_rfl) (by kernel_rfl) (.free rfl) rfl rfl (qt_load1 rfl rfl Try.underlying2 rfl (fun w M => mem_rd M ho) (by omega) (by omega)) (fun _ _ _ h => h) ?_
    refine ga_v 6 rfl (by kernel_rfl) (by kernel_rfl) (by kernel_rfl) (.free rfl) rfl rfl (qt_move rfl rfl) (fun _ _ _ h => h) ?_
    refine ga_v 7 rfl (by kernel_rfl) (by kernel_rfl) (by kernel_rfl) (.free rfl) rfl rfl (qt_move rfl rfl) (fun _ _ _ h => h) ?_
    refine ga_v 8 rfl (by kernel_rfl) (by kernel_rfl) (by kernel_rfl) (.free rfl) rfl rfl (qt_index rfl rfl rfl ulE1 szE1 (fun w M => lenA_rd ha) (by omega) (by omega)) (fun _ _ _ h => h) ?_
    refine ga_v 9 rfl (by kernel_rfl) (by kernel_rfl) (by kernel_rfl) (.free rfl) rfl rfl (qt_load1 rfl rfl Try.underlying2 rfl (fun w M => mem_rd M ha) (by omega) (by omega)) (fun _ _ _ h => h) ?_
    refine ga_op 10 (by kernel_rfl) rfl (.free rfl) fun K19 hK19 => ?_
    refine go_v rfl rfl (qt_index rfl rfl rfl ulE1 szE1 (fun w M => lenA_own1 (n := 4) rfl M) (by omega) (by omega)) ?_
    refine hK19 _ _ (fun w M => (mem_erase 4 (mem_take 7 M) :)) ?_
    refine ga_op 11 (by kernel_rfl) rfl (.free rfl) fun K20 hK20 => ?_
    refine go_store1 (n := 4) rfl rfl rfl rfl (by kernel_rfl) rfl (by omega) (by omega) ?_
    refine hK20 _ _ (fun w M => (mem_erase 4 (mem_take 7 M) :)) ?_
    refine ga_done (by kernel_rfl) ?_
    refine gk_block ?_
    refine gk_then (hK17 _ _ ?_)
    refine gc_region ?_
    refine g_v (.free rfl) rfl rfl (qt_add rfl rfl rfl (by omega)) ?_
    refine g_v (.free rfl) rfl rfl (qt_move rfl rfl) ?_
    refine g_nil ?_
    rw [putL_set (φ := (fun z => at0 ys (at0 c.e z))) Bo rfl (by omega)]
    refine gk_then (gk_take 7 ?_)
    refine gk_sub ?hs_21 (hKL14 (k + 1) ?hi_21 ?hm_21)
    case hs_21 => exact (sub_cons rfl (sub_cons rfl (sub_cons rfl (sub_cons rfl (sub_cons rfl (sub_cons rfl (sub_cons rfl (sub_cons rfl (sub_cons rfl sub_nil)))))))))
    case hi_21 => omega
    case hm_21 => omega
  · try simp only [decide_eq_true_eq, decide_eq_false_iff_not, Bool.not_eq_true', Bool.not_eq_false', Bool.not_eq_eq_eq_not, Bool.not_true, Bool.not_false, ne_eq, Decidable.not_not, Classical.not_not] at hc0
    refine gc_exit ?_
    refine gk_then_exit ?_
    refine gk_then_exit ?_
    refine gk_block_hit ?_
    refine gk_then (hK12 _ _ ?_)
    refine gc_seq fun K22 hK22 => ?_
    refine gc_seq fun K23 hK23 => ?_
    obtain rfl : k = c.e.length := by omega
    refine gc_region ?_
    refine g_v (.free rfl) rfl rfl (qt_move rfl rfl) ?_
    refine g_v (.free rfl) rfl rfl (qt_len rfl rfl ulE1 (fun w M => lenV_rd ha)) ?_
    refine g_v (.free rfl) rfl rfl (qt_move rfl rfl) ?_
    refine g_nil ?_
    refine gk_then (hK23 _ _ ?_)
    refine gc_block ?_
    rw [show own1I (.slice ca7 c.s.length cb7) c.s = own1I (.slice ca7 c.s.length cb7) (putL ys (fun z => at0 xs (at0 c.s z)) c.s 0) from by rw [← putL_zero (fun z => at0 xs (at0 c.s z)) Ba], show own1I (.slice cc7 c.t.length cd7) c.t = own1I (.slice cc7 c.t.length cd7) (putL ys (fun z => at0 xs (at0 c.t z)) c.t 0) from by rw [← putL_zero (fun z => at0 xs (at0 c.t z)) (by rw [htl]; exact Ba)], show own2U (.slice cg7 c.m.length ch7) cu7 c.m = own2U (.slice cg7 c.m.length ch7) cu7 (putR c ys 0 0) from by rw [← putR_zero hS Ba]]
    try simp only [List.nil_append, List.cons_append, List.append_assoc, List.set_cons_succ, List.set_cons_zero]
    refine gc_loop ([(0, _), (1, _), (2, _), (3, _), (6, _), (7, _), (17, _), (18, _), (19, _), (20, _), (36, _), (37, _)] : Env) (fun s : Nat => (fun (k : Nat) => ([(38, .int .i64 (k : Int))] : Env)) s) (fun s : Nat => (fun (k : Nat) => ([(2, own1I (.slice ca7 c.s.length cb7) (putL ys (fun z => at0 xs (at0 c.s z)) c.s k)), (3, own1I (.slice cc7 c.t.length cd7) (putL ys (fun z => at0 xs (at0 c.t z)) c.t k)), (5, own2U (.slice cg7 c.m.length ch7) cu7 (putR c ys k 0))] : List (Nat × Itm))) s) (fun s : Nat => (fun (k : Nat) => k ≤ c.s.length) s) (fun s : Nat => (fun (k : Nat) => c.s.length - k) s) (0) (sub_cons rfl (sub_cons rfl (sub_cons rfl (sub_cons rfl (sub_cons rfl (sub_cons rfl (sub_cons rfl (sub_cons rfl (sub_cons rfl (sub_cons rfl (sub_cons rfl (sub_cons rfl (sub_cons rfl sub_nil))))))))))))) rfl (Nat.zero_le _) ?_
    rintro k hinv KL24 hKL24
    simp only [updL, List.foldl_cons, List.foldl_nil, List.set_cons_succ, List.set_cons_zero, List.cons_append, List.nil_append] at hinv hKL24 ⊢
    have hk := hinv
    have hpl := putL_len ys (fun z => at0 xs (at0 c.s z)) c.s k
    have hpt := putL_len ys (fun z => at0 xs (at0 c.t z)) c.t k
    have hpr := putR_len c ys k 0
    refine gc_seq fun K25 hK25 => ?_
    refine gc_region ?_
    refine g_v (.free rfl) rfl rfl (qt_lss rfl rfl rfl) ?_
    refine g_nil ?_
    refine gk_then (hK25 _ _ ?_)
    refine gc_seq fun K26 hK26 => ?_
    refine gc_cond rfl (fun hc1 => ?_) (fun hc1 => ?_)
    · try simp only [decide_eq_true_eq, decide_eq_false_iff_not, Bool.not_eq_true', Bool.not_eq_false', Bool.not_eq_eq_eq_not, Bool.not_true, Bool.not_false, ne_eq, Decidable.not_not, Classical.not_not] at hc1
      refine gc_skip ?_
      refine gk_then (hK26 _ _ ?_)
      refine gc_seq fun K27 hK27 => ?_
      refine gc_block ?_
      refine gc_seq fun K28 hK28 => ?_
      have hb := Ba.rng (k := k) (by omega)
      have hA := arrP hS (f := (k : Int)) (by omega) (by omega)
      have a0 := hA.fs; have a1 := hA.ft; have a2 := hA.fm; have a3 := hA.s0; have a4 := hA.s1; have a5 := hA.t0; have a6 := hA.t1; have a7 := hA.row
      refine gc_region ?_
      refine g_v (.free rfl) rfl rfl (qt_move rfl rfl) ?_
      refine g_v (.free rfl) rfl rfl (qt_index rfl rfl rfl ulE1 szE1 (fun w M => lenA_rd ha) (by omega) (by omega)) ?_
      refine g_v (.free rfl) rfl rfl (qt_load1 rfl rfl Try.underlying2 rfl (fun w M => mem_rd M ha) (by omega) (by omega)) ?_
      refine g_v (.free rfl) rfl rfl (qt_assign rfl rfl) ?_
      refine g_v (.free rfl) rfl rfl (qt_assign rfl rfl) ?_
      refine g_nil ?_
      refine gk_then (hK28 _ _ ?_)
      refine gc_seq fun K29 hK29 => ?_
      try simp only [List.nil_append, List.cons_append, List.append_assoc, List.set_cons_succ, List.set_cons_zero]
      refine ga_start _ (fun w M => mem_erase 2 (M)) ?_
      refine ga_v 0 rfl (by kernel_rfl) (by kernel_rfl) (by kernel_rfl) (.free rfl) rfl rfl (qt_field (z := 0) (off := 1) rfl rfl Try.underlying27 rfl (by kernel_rfl) rfl) (fun _ _ _ h => h) ?_
      refine ga_v 1 rfl (by kernel_rfl) (by kernel_rfl) (by kernel_rfl) (.free rfl) rfl rfl (qt_loadB (n := 5) rfl rfl Try.underlying22 rfl rfl rfl) (fun _ _ _ h => h) ?_
      refine ga_v 2 rfl (by kernel_rfl) (by kernel_rfl) (by kernel_rfl) (.free rfl) rfl rfl (qt_move rfl rfl) (fun _ _ _ h => h) ?_
      refine ga_v 3 rfl (by kernel_rfl) (by kernel_rfl) (by kernel_rfl) (.free rfl) rfl rfl (qt_move rfl rfl) (fun _ _ _ h => h) ?_
      refine ga_v 4 rfl (by kernel_rfl) (by kernel_rfl) (by kernel_rfl) (.free rfl) rfl rfl (qt_field (z := 0) (off := 1) rfl rfl Try.underlying27 rfl (by kernel_rfl) rfl) (fun _ _ _ h => h) ?_
      refine ga_v 5 rfl (by kernel_rfl) (by kernel_rfl) (by kernel_rfl) (.free rfl) rfl rfl (qt_loadB (n := 0) rfl rfl Try.underlying22 rfl rfl rfl) (fun _ _ _ h => h) ?_
      refine ga_v 6 rfl (by kernel_rfl) (by kernel_rfl) (by kernel_rfl) (.free rfl) rfl rfl (qt_move rfl rfl) (fun _ _ _ h => h) ?_
      refine ga_v 7 rfl (by kernel_rfl) (by kernel_rfl) (by kernel_rfl) (.free rfl) rfl rfl (qt_index rfl rfl rfl ulE1 szE1 (fun w M => lenA_rd h1) (by omega) (by omega)) (fun _ _ _ h => h) ?_
      refine ga_v 8 rfl (by kernel_rfl) (by kernel_rfl) (by kernel_rfl) (.free rfl) rfl rfl (qt_load1 rfl rfl Try.underlying2 rfl (fun w M => mem_rd M h1) (by omega) (by omega)) (fun _ _ _ h => h) ?_
      refine ga_v 9 rfl (by kernel_rfl) (by kernel_rfl) (by kernel_rfl) (.free rfl) rfl rfl (qt_index rfl rfl rfl ulE1 szE1 (fun w M => lenA_rd ho) (by omega) (by omega)) (fun _ _ _ h => h) ?_
      refine ga_v 10 rfl (by kernel_rfl) (by kernel_rfl) (by kernel_rfl) (.free rfl) rfl rfl (qt_load1 rfl rfl Try.underlying2 rfl (fun w M => mem_rd M ho) (by omega) (by omega)) (fun _ _ _ h => h) ?_
      refine ga_op 11 (by kernel_rfl) rfl (.free rfl) fun K30 hK30 => ?_
      refine go_v rfl rfl (qt_index rfl rfl rfl ulE1 szE1 (fun w M => lenA_own1 (n := 2) rfl M) (by omega) (by omega)) ?_
      refine hK30 _ _ (fun w M => (mem_erase 2 (mem_take 7 M) :)) ?_
      refine ga_op 12 (by kernel_rfl) rfl (.free rfl) fun K31 hK31 => ?_
      refine go_store1 (n := 2) rfl rfl rfl rfl (by kernel_rfl) rfl (by omega) (by omega) ?_
      refine hK31 _ _ (fun w M => (mem_erase 2 (mem_take 7 M) :)) ?_
      refine ga_done (by kernel_rfl) ?_
      refine gk_then (hK29 _ _ ?_)
      refine gc_seq fun K32 hK32 => ?_
      try simp only [List.nil_append, List.cons_append, List.append_assoc, List.set_cons_succ, List.set_cons_zero]
      refine ga_start _ (fun w M => mem_erase 3 (M)) ?_
      refine ga_v 0 rfl (by kernel_rfl) (by kernel_rfl) (by kernel_rfl) (.free rfl) rfl rfl (qt_field (z := 0) (off := 2) rfl rfl Try.underlying27 rfl (by kernel_rfl) rfl) (fun _ _ _ h => h) ?_
      refine ga_v 1 rfl (by kernel_rfl) (by kernel_rfl) (by kernel_rfl) (.free rfl) rfl rfl (qt_loadB (n := 5) rfl rfl Try.underlying22 rfl rfl rfl) (fun _ _ _ h => h) ?_
      refine ga_v 2 rfl (by kernel_rfl) (by kernel_rfl) (by kernel_rfl) (.free rfl) rfl rfl (qt_move rfl rfl) (fun _ _ _ h => h) ?_
      refine ga_v 3 rfl (by kernel_rfl) (by kernel_rfl) (by kernel_rfl) (.free rfl) rfl rfl (qt_move rfl rfl) (fun _ _ _ h => h) ?_
      refine ga_v 4 rfl (by kernel_rfl) (by kernel_rfl) (by kernel_rfl) (.free rfl) rfl rfl (qt_field (z := 0) (off := 2) rfl rfl Try.underlying27 rfl (by kernel_rfl) rfl) (fun _ _ _ h => h) ?_
      refine ga_v 5 rfl (by kernel_rfl) (by kernel_rfl) (by kernel_rfl) (.free rfl) rfl rfl (qt_loadB (n := 0) rfl rfl Try.underlying22 rfl rfl rfl) (fun _ _ _ h => h) ?_
      refine ga_v 6 rfl (by kernel_rfl) (by kernel_rfl) (by kernel_rfl) (.free rfl) rfl rfl (qt_move rfl rfl) (fun _ _ _ h => h) ?_
      refine ga_v 7 rfl (by kernel_rfl) (by kernel_rfl) (by kernel_rfl) (.free rfl) rfl rfl (qt_index rfl rfl rfl ulE1 szE1 (fun w M => lenA_rd h2) (by omega) (by omega)) (fun _ _ _ h => h) ?_
      refine ga_v 8 rfl (by kernel_rfl) (by kernel_rfl) (by kernel_rfl) (.free rfl) rfl rfl (qt_load1 rfl rfl Try.underlying2 rfl (fun w M => mem_rd M h2) (by omega) (by omega)) (fun _ _ _ h => h) ?_
      refine ga_v 9 rfl (by kernel_rfl) (by kernel_rfl) (by kernel_rfl) (.free rfl) rfl rfl (qt_index rfl rfl rfl ulE1 szE1 (fun w M => lenA_rd ho) (by omega) (by omega)) (fun _ _ _ h => h) ?_
      refine ga_v 10 rfl (by kernel_rfl) (by kernel_rfl) (by kernel_rfl) (.free rfl) rfl rfl (qt_load1 rfl rfl Try.underlying2 rfl (fun w M => mem_rd M ho) (by omega) (by omega)) (fun _ _ _ h => h) ?_
      refine ga_op 11 (by kernel_rfl) rfl (.free rfl) fun K33 hK33 => ?_
      refine go_v rfl rfl (qt_index rfl rfl rfl ulE1 szE1 (fun w M => lenA_own1 (n := 3) rfl M) (by omega) (by omega)) ?_
      refine hK33 _ _ (fun w M => (mem_erase 3 (mem_take 7 M) :)) ?_
      refine ga_op 12 (by kernel_rfl) rfl (.free rfl) fun K34 hK34 => ?_
      refine go_store1 (n := 3) rfl rfl rfl rfl (by kernel_rfl) rfl (by omega) (by omega) ?_
      refine hK34 _ _ (fun w M => (mem_erase 3 (mem_take 7 M) :)) ?_
      refine ga_done (by kernel_rfl) ?_
      refine gk_then (hK32 _ _ ?_)
      refine gc_seq fun K35 hK35 => ?_
      refine gc_region ?_
      refine g_v (.free rfl) rfl rfl (qt_field (z := 0) (off := 4) rfl rfl Try.underlying27 rfl (by kernel_rfl) rfl) ?_
      refine g_v (.free rfl) rfl rfl (qt_loadB (n := 0) rfl rfl Try.underlying23 rfl rfl rfl) ?_
      refine g_v (.free rfl) rfl rfl (qt_move rfl rfl) ?_
      refine g_v (.free rfl) rfl rfl (qt_index rfl rfl rfl ulE2 szE2 (fun w M => lenA_rd2 h4) (by omega) (by omega)) ?_
      refine g_load2 (.free rfl) rfl rfl rfl rfl Try.underlying22 rfl h4 (by omega) (by omega) ?_
      intro ra36 rc36 hr36
      refine g_v (.free rfl) rfl rfl (qt_len rfl rfl ulE1 (fun w M => lenV_rd hr36)) ?_
      refine g_v (.free rfl) rfl rfl (qt_move rfl rfl) ?_
      refine g_nil ?_
      refine gk_then (hK35 _ _ ?_)
      refine gc_block ?_
      try simp only [List.nil_append, List.cons_append, List.append_assoc, List.set_cons_succ, List.set_cons_zero]
      refine gc_loop ([(0, _), (1, _), (2, _), (3, _), (6, _), (7, _), (10, _), (11, _), (17, _), (18, _), (19, _), (20, _), (36, _), (37, _), (38, _), (39, _), (71, _), (72, _)] : Env) (fun s : Nat => (fun (l : Nat) => ([(73, .int .i64 (l : Int))] : Env)) s) (fun s : Nat => (fun (l : Nat) => ([(5, own2U (.slice cg7 c.m.length ch7) cu7 (putR c ys k l))] : List (Nat × Itm))) s) (fun s : Nat => (fun (l : Nat) => l ≤ c.s.length) s) (fun s : Nat => (fun (l : Nat) => c.s.length - l) s) (0) (sub_cons rfl (sub_cons rfl (sub_cons rfl (sub_cons rfl (sub_cons rfl (sub_cons rfl (sub_cons rfl (sub_cons rfl (sub_cons rfl (sub_cons rfl (sub_cons rfl (sub_cons rfl (sub_cons rfl (sub_cons rfl (sub_cons rfl (sub_cons rfl (sub_cons rfl (sub_cons rfl (sub_cons rfl sub_nil))))))))))))))))))) rfl (Nat.zero_le _) ?_
      rintro l hinv KL37 hKL37
      simp only [updL, List.foldl_cons, List.foldl_nil, List.set_cons_succ, List.set_cons_zero, List.cons_append, List.nil_append] at hinv hKL37 ⊢
      have hl := hinv
      have hpr := putR_len c ys k l
      refine gc_seq fun K38 hK38 => ?_
      refine gc_region ?_
      refine g_v (.free rfl) rfl rfl (qt_lss rfl rfl rfl) ?_
      refine g_nil ?_
      refine gk_then (hK38 _ _ ?_)
      refine gc_seq fun K39 hK39 => ?_
      refine gc_cond rfl (fun hc2 => ?_) (fun hc2 => ?_)
      · try simp only [decide_eq_true_eq, decide_eq_false_iff_not, Bool.not_eq_true', Bool.not_eq_false', Bool.not_eq_eq_eq_not, Bool.not_true, Bool.not_false, ne_eq, Decidable.not_not, Classical.not_not] at hc2
        refine gc_skip ?_
        refine gk_then (hK39 _ _ ?_)
        refine gc_seq fun K40 hK40 => ?_
        refine gc_block ?_
        refine gc_seq fun K41 hK41 => ?_
        have hg := Ba.rng (k := l) (by omega)
        have hth := th_rngI hS (f := (k : Int)) (g := (l : Int)) (by omega) (by omega) (by omega) (by omega)
        have ht1 := hth.1; have ht2 := hth.2
        simp only [Cat.th] at ht1 ht2
        have hrl := putR_row (c := c) (ys := ys) (f := k) (g := l) (i := at0 ys (k : Int)) (by omega) (by omega)
        refine gc_region ?_
        refine g_v (.free rfl) rfl rfl (qt_move rfl rfl) ?_
        refine g_v (.free rfl) rfl rfl (qt_index rfl rfl rfl ulE1 szE1 (fun w M => lenA_rd hr36) (by omega) (by omega)) ?_
        refine g_v (.free rfl) rfl rfl (qt_load1 rfl rfl Try.underlying2 rfl (fun w M => mem_rd M hr36) (by omega) (by omega)) ?_
        refine g_v (.free rfl) rfl rfl (qt_assign rfl rfl) ?_
        refine g_v (.free rfl) rfl rfl (qt_assign rfl rfl) ?_
        refine g_nil ?_
        refine gk_then (hK41 _ _ ?_)
        refine gc_seq fun K42 hK42 => ?_
        refine gc_seq fun K43 hK43 => ?_
        refine gc_region ?_
        refine g_v (.free rfl) rfl rfl (qt_move rfl rfl) ?_
        refine g_v (.free rfl) rfl rfl (qt_neq rfl rfl rfl) ?_
        refine g_nil ?_
        refine gk_then (hK43 _ _ ?_)
        refine gc_cond rfl (fun hc3 => ?_) (fun hc3 => ?_)
        · try simp only [decide_eq_true_eq, decide_eq_false_iff_not, Bool.not_eq_true', Bool.not_eq_false', Bool.not_eq_eq_eq_not, Bool.not_true, Bool.not_false, ne_eq, Decidable.not_not, Classical.not_not] at hc3
          refine gc_region ?_
          refine g_v (.free rfl) rfl rfl (qt_move rfl rfl) ?_
          refine g_v (.free rfl) rfl rfl (qt_move rfl rfl) ?_
          refine g_v (.free rfl) rfl rfl (qt_index rfl rfl rfl ulE1 szE1 (fun w M => lenA_rd ha) (by omega) (by omega)) ?_
          refine g_v (.free rfl) rfl rfl (qt_load1 rfl rfl Try.underlying2 rfl (fun w M => mem_rd M ha) (by omega) (by omega)) ?_
          refine g_v (.free rfl) rfl rfl (qt_assign rfl rfl) ?_
          refine g_nil ?_
          refine gk_then (hK42 _ _ ?_)
          try simp only [List.nil_append, List.cons_append, List.append_assoc, List.set_cons_succ, List.set_cons_zero]
          refine ga_start _ (fun w M => mem_erase 5 (M)) ?_
          refine ga_v 0 rfl (by kernel_rfl) (by kernel_rfl) (by kernel_rfl) (.free rfl) rfl rfl (qt_field (z := 0) (off := 4) rfl rfl Try.underlying27 rfl (by kernel_rfl) rfl) (fun _ _ _ h => h) ?_
          refine ga_v 1 rfl (by kernel_rfl) (by kernel_rfl) (by kernel_rfl) (.free rfl) rfl rfl (qt_loadB (n := 5) rfl rfl Try.underlying23 rfl rfl rfl) (fun _ _ _ h => h) ?_
          refine ga_v 2 rfl (by kernel_rfl) (by kernel_rfl) (by kernel_rfl) (.free rfl) rfl rfl (qt_move rfl rfl) (fun _ _ _ h => h) ?_
          refine ga_v 5 rfl (by kernel_rfl) (by kernel_rfl) (by kernel_rfl) (.free rfl) rfl rfl (qt_move rfl rfl) (fun _ _ _ h => h) ?_
          refine ga_v 6 rfl (by kernel_rfl) (by kernel_rfl) (by kernel_rfl) (.free rfl) rfl rfl (qt_move rfl rfl) (fun _ _ _ h => h) ?_
          refine ga_v 7 rfl (by kernel_rfl) (by kernel_rfl) (by kernel_rfl) (.free rfl) rfl rfl (qt_index rfl rfl rfl ulE1 szE1 (fun w M => lenA_rd ha) (by omega) (by omega)) (fun _ _ _ h => h) ?_
          refine ga_v 8 rfl (by kernel_rfl) (by kernel_rfl) (by kernel_rfl) (.free rfl) rfl rfl (qt_load1 rfl rfl Try.underlying2 rfl (fun w M => mem_rd M ha) (by omega) (by omega)) (fun _ _ _ h => h) ?_
          refine ga_v 9 rfl (by kernel_rfl) (by kernel_rfl) (by kernel_rfl) (.free rfl) rfl rfl (qt_move rfl rfl) (fun _ _ _ h => h) ?_
          refine ga_op 3 (by kernel_rfl) rfl (.free rfl) fun K44 hK44 => ?_
          refine go_v rfl rfl (qt_index rfl rfl rfl ulE2 szE2 (fun w M => lenA_U (n := 5) rfl M) (by omega) (by omega)) ?_
          refine hK44 _ _ (fun w M => (mem_erase 5 (mem_take 7 M) :)) ?_
          refine ga_op 4 (by kernel_rfl) rfl (.free rfl) fun K45 hK45 => ?_
          refine go_v rfl rfl (qt_loadU (n := 5) rfl rfl Try.underlying22 rfl rfl (by omega) (by omega)) ?_
          refine hK45 _ _ (fun w M => (mem_erase 5 (mem_take 7 M) :)) ?_
          refine ga_op 10 (by kernel_rfl) rfl (.free rfl) fun K46 hK46 => ?_
          refine go_v rfl rfl (qt_index rfl rfl rfl ulE1 szE1 (fun w M => lenA_row (n := 5) rfl (by omega) (by omega) M) (by omega) (by omega)) ?_
          refine hK46 _ _ (fun w M => (mem_erase 5 (mem_take 7 M) :)) ?_
          refine ga_op 11 (by kernel_rfl) rfl (.free rfl) fun K47 hK47 => ?_
          refine go_storeU (n := 5) rfl rfl rfl rfl (by kernel_rfl) rfl (by omega) (by omega) (by omega) (by omega) ?_
          refine hK47 _ _ (fun w M => (mem_erase 5 (mem_take 7 M) :)) ?_
          refine ga_done (by kernel_rfl) ?_
          refine gk_block ?_
          refine gk_then (hK40 _ _ ?_)
          refine gc_region ?_
          refine g_v (.free rfl) rfl rfl (qt_add rfl rfl rfl (by omega)) ?_
          refine g_v (.free rfl) rfl rfl (qt_move rfl rfl) ?_
          refine g_nil ?_
          rw [rnV_t (c := c) (ys := ys) (f := (k : Int)) (g := (l : Int)) hc3, putR_set Ba (by omega) (by omega)]
          refine gk_then (gk_take 7 ?_)
          refine gk_sub ?hs_48 (hKL37 (l + 1) ?hi_48 ?hm_48)
          case hs_48 => exact (sub_cons rfl (sub_cons rfl (sub_cons rfl (sub_cons rfl (sub_cons rfl (sub_cons rfl (sub_cons rfl (sub_cons rfl (sub_cons rfl (sub_cons rfl (sub_cons rfl (sub_cons rfl (sub_cons rfl (sub_cons rfl (sub_cons rfl (sub_cons rfl (sub_cons rfl (sub_cons rfl (sub_cons rfl sub_nil)))))))))))))))))))
          case hi_48 => omega
          case hm_48 => omega
        · try simp only [decide_eq_true_eq, decide_eq_false_iff_not, Bool.not_eq_true', Bool.not_eq_false', Bool.not_eq_eq_eq_not, Bool.not_true, Bool.not_false, ne_eq, Decidable.not_not, Classical.not_not] at hc3
          refine gc_skip ?_
          refine gk_then (hK42 _ _ ?_)
          try simp only [List.nil_append, List.cons_append, List.append_assoc, List.set_cons_succ, List.set_cons_zero]
          refine ga_start _ (fun w M => mem_erase 5 (M)) ?_
          refine ga_v 0 rfl (by kernel_rfl) (by kernel_rfl) (by kernel_rfl) (.free rfl) rfl rfl (qt_field (z := 0) (off := 4) rfl rfl Try.underlying27 rfl (by kernel_rfl) rfl) (fun _ _ _ h => h) ?_
          refine ga_v 1 rfl (by kernel_rfl) (by kernel_rfl) (by kernel_rfl) (.free rfl) rfl rfl (qt_loadB (n := 5) rfl rfl Try.underlying23 rfl rfl rfl) (fun _ _ _ h => h) ?_
          refine ga_v 2 rfl (by kernel_rfl) (by kernel_rfl) (by kernel_rfl) (.free rfl) rfl rfl (qt_move rfl rfl) (fun _ _ _ h => h) ?_
          refine ga_v 5 rfl (by kernel_rfl) (by kernel_rfl) (by kernel_rfl) (.free rfl) rfl rfl (qt_move rfl rfl) (fun _ _ _ h => h) ?_
          refine ga_v 6 rfl (by kernel_rfl) (by kernel_rfl) (by kernel_rfl) (.free rfl) rfl rfl (qt_move rfl rfl) (fun _ _ _ h => h) ?_
          refine ga_v 7 rfl (by kernel_rfl) (by kernel_rfl) (by kernel_rfl) (.free rfl) rfl rfl (qt_index rfl rfl rfl ulE1 szE1 (fun w M => lenA_rd ha) (by omega) (by omega)) (fun _ _ _ h => h) ?_
          refine ga_v 8 rfl (by kernel_rfl) (by kernel_rfl) (by kernel_rfl) (.free rfl) rfl rfl (qt_load1 rfl rfl Try.underlying2 rfl (fun w M => mem_rd M ha) (by omega) (by omega)) (fun _ _ _ h => h) ?_
          refine ga_v 9 rfl (by kernel_rfl) (by kernel_rfl) (by kernel_rfl) (.free rfl) rfl rfl (qt_move rfl rfl) (fun _ _ _ h => h) ?_
          refine ga_op 3 (by kernel_rfl) rfl (.free rfl) fun K49 hK49 => ?_
          refine go_v rfl rfl (qt_index rfl rfl rfl ulE2 szE2 (fun w M => lenA_U (n := 5) rfl M) (by omega) (by omega)) ?_
          refine hK49 _ _ (fun w M => (mem_erase 5 (mem_take 7 M) :)) ?_
          refine ga_op 4 (by kernel_rfl) rfl (.free rfl) fun K50 hK50 => ?_
          refine go_v rfl rfl (qt_loadU (n := 5) rfl rfl Try.underlying22 rfl rfl (by omega) (by omega)) ?_
          refine hK50 _ _ (fun w M => (mem_erase 5 (mem_take 7 M) :)) ?_
          refine ga_op 10 (by kernel_rfl) rfl (.free rfl) fun K51 hK51 => ?_
          refine go_v rfl rfl (qt_index rfl rfl rfl ulE1 szE1 (fun w M => lenA_row (n := 5) rfl (by omega) (by omega) M) (by omega) (by omega)) ?_
          refine hK51 _ _ (fun w M => (mem_erase 5 (mem_take 7 M) :)) ?_
          refine ga_op 11 (by kernel_rfl) rfl (.free rfl) fun K52 hK52 => ?_
          refine go_storeU (n := 5) rfl rfl rfl rfl (by kernel_rfl) rfl (by omega) (by omega) (by omega) (by omega) ?_
          refine hK52 _ _ (fun w M => (mem_erase 5 (mem_take 7 M) :)) ?_
          refine ga_done (by kernel_rfl) ?_
          refine gk_block ?_
          refine gk_then (hK40 _ _ ?_)
          refine gc_region ?_
          refine g_v (.free rfl) rfl rfl (qt_add rfl rfl rfl (by omega)) ?_
          refine g_v (.free rfl) rfl rfl (qt_move rfl rfl) ?_
          refine g_nil ?_
          rw [rnV_n' (c := c) (ys := ys) (f := (k : Int)) (g := (l : Int)) hc3, putR_set Ba (by omega) (by omega)]
          refine gk_then (gk_take 7 ?_)
          refine gk_sub ?hs_53 (hKL37 (l + 1) ?hi_53 ?hm_53)
          case hs_53 => exact (sub_cons rfl (sub_cons rfl (sub_cons rfl (sub_cons rfl (sub_cons rfl (sub_cons rfl (sub_cons rfl (sub_cons rfl (sub_cons rfl (sub_cons rfl (sub_cons rfl (sub_cons rfl (sub_cons rfl (sub_cons rfl (sub_cons rfl (sub_cons rfl (sub_cons rfl (sub_cons rfl (sub_cons rfl sub_nil)))))))))))))))))))
          case hi_53 => omega
          case hm_53 => omega
      · try simp only [decide_eq_true_eq, decide_eq_false_iff_not, Bool.not_eq_true', Bool.not_eq_false', Bool.not_eq_eq_eq_not, Bool.not_true, Bool.not_false, ne_eq, Decidable.not_not, Classical.not_not] at hc2
        refine gc_exit ?_
        refine gk_then_exit ?_
        refine gk_then_exit ?_
        refine gk_block_hit ?_
        refine gk_block ?_
        refine gk_then (hK27 _ _ ?_)
        refine gc_region ?_
        refine g_v (.free rfl) rfl rfl (qt_add rfl rfl rfl (by omega)) ?_
        refine g_v (.free rfl) rfl rfl (qt_move rfl rfl) ?_
        refine g_nil ?_
        obtain rfl : l = c.s.length := by omega
        rw [putL_set (φ := (fun z => at0 xs (at0 c.s z))) Ba rfl (by omega), putL_set (φ := (fun z => at0 xs (at0 c.t z))) Ba htl (by omega), putR_next Ba]
        refine gk_then (gk_take 7 ?_)
        refine gk_sub ?hs_54 (hKL24 (k + 1) ?hi_54 ?hm_54)
        case hs_54 => exact (sub_cons rfl (sub_cons rfl (sub_cons rfl (sub_cons rfl (sub_cons rfl (sub_cons rfl (sub_cons rfl (sub_cons rfl (sub_cons rfl (sub_cons rfl (sub_cons rfl (sub_cons rfl (sub_cons rfl sub_nil)))))))))))))
        case hi_54 => omega
        case hm_54 => omega
    · try simp only [decide_eq_true_eq, decide_eq_false_iff_not, Bool.not_eq_true', Bool.not_eq_false', Bool.not_eq_eq_eq_not, Bool.not_true, Bool.not_false, ne_eq, Decidable.not_not, Classical.not_not] at hc1
      refine gc_exit ?_
      refine gk_then_exit ?_
      refine gk_then_exit ?_
      refine gk_block_hit ?_
      refine gk_then (hK22 _ _ ?_)
      refine gc_seq fun K55 hK55 => ?_
      refine gc_region ?_
      refine g_v (.free rfl) rfl rfl (qt_loadS (n := 6) rfl rfl Try.underlying27 rfl (by kernel_rfl) rfl) ?_
      refine g_op (.free rfl) fun K56 hK56 => ?_
      refine go_storeS (n := 1) rfl rfl rfl rfl (by kernel_rfl) rfl rfl rfl ?_
      refine hK56 _ _ ?_
      refine g_nil ?_
      refine gk_then (hK55 _ _ ?_)
      refine gc_ret ?_
      refine ret_S (n := 1) rfl rfl Try.underlying27 rfl (by kernel_rfl) rfl (fun w M => ?_)
      obtain rfl : k = c.s.length := by omega
      rw [putL_end _ Ba rfl, putL_end _ Ba htl, putL_end _ Bo rfl, putR_end (xs := xs) Ba] at M
      exact ⟨_, rfl, ownC_star (c := rnC c xs ys) (mem_pick (n := 5) (mem_pick (n := 5) (mem_pick (n := 5) (mem_pick (n := 5) (M) rfl) rfl) rfl) rfl).2, M.1⟩

set_option maxHeartbeats 1000000 in
set_option maxRecDepth 100000 in
theorem specRen_any (w : World) (v : Value) (c : Cat) (h : RdC w v c) (vo : Value) (xs : List Int) (ho : Rd w vo xs) (vn : Value) (ys : List Int) (ha : Rd w vn ys) (hS : ShapeP c) (Bo : BijL c.e.length xs) (Ba : BijL c.s.length ys) :
    Calls Try.prog 36 #[v, vo, vn] w (RetC w (rnC c xs ys)) := by
  have h0 := h
  obtain ⟨va, vb, vc, vd, ve, vf, vg, vh, rfl, h1, h2, h3, h4, _⟩ := h.lists
  obtain ⟨voa, voc, rfl⟩ := rd_form ho
  obtain ⟨vna, vnc, rfl⟩ := rd_form ha
  have hn40 := hS.n40; have htl := hS.tl; have hel := hS.el; have hob0 := hS.ob0; have hob8 := hS.ob8; have hml := hS.ml
  have xl := Bo.len; have yl := Ba.len
  have pl := bkL_len xs xs.length; have ql := bkL_len ys ys.length
  go_enter Try.func36, Try.ntmps36
  refine gc_enter (N := 120) rfl (look_cons (k := 0) rfl (look_cons (k := 1) rfl (look_cons (k := 2) rfl (look_nil _)))) ?_
  refine gc_seq fun K1 hK1 => ?_
  refine gc_region ?_
  refine g_op (.free rfl) fun K3 hK3 => ?_
  refine go_box rfl rfl rfl rfl rfl ?_
  intro B2
  refine hK3 _ _ ?_
  refine g_op (.free rfl) fun K5 hK5 => ?_
  refine go_alloc (z := (.agg #[.int .i64 0, .slice none 0 0, .slice none 0 0, .slice none 0 0, .slice none 0 0])) (cs := [.int .i64 0, .slice none 0 0, .slice none 0 0, .slice none 0 0, .slice none 0 0]) rfl rfl rfl (fun w => by kernel_rfl) rfl ?_
  intro B4
  refine hK5 _ _ ?_
  refine g_nil ?_
  refine gk_then (hK1 _ _ ?_)
  refine gc_seq fun K6 hK6 => ?_
  refine gc_region ?_
  refine g_v (.free rfl) rfl rfl (qt_move rfl rfl) ?_
  refine g_op (.free rfl) fun K8 hK8 => ?_
  refine go_callL rfl rfl rfl Try.func70 rfl (by decide) rfl (fun w M => specBackB_any w _ _ (mem_rd M ho) (by first | exact Bo.all2 | exact Ba.all2)) ?_
  intro va7 vc7
  refine hK8 _ _ ?_
  refine g_v (.free rfl) rfl rfl (qt_move rfl rfl) ?_
  refine g_op (.free rfl) fun K10 hK10 => ?_
  refine go_callL rfl rfl rfl Try.func70 rfl (by decide) rfl (fun w M => specBackB_any w _ _ (mem_rd M ha) (by first | exact Bo.all2 | exact Ba.all2)) ?_
  intro va9 vc9
  refine hK10 _ _ ?_
  refine g_v (.free rfl) rfl rfl (qt_assign rfl rfl) ?_
  refine g_v (.free rfl) rfl rfl (qt_assign rfl rfl) ?_
  refine g_nil ?_
  refine gk_then (hK6 _ _ ?_)
  refine gc_seq fun K11 hK11 => ?_
  refine gc_region ?_
  refine g_v (.free rfl) rfl rfl (qt_field (z := 0) (off := 0) rfl rfl Try.underlying27 rfl (by kernel_rfl) rfl) ?_
  refine g_v (.free rfl) rfl rfl (qt_loadB (n := 0) rfl rfl Try.underlying2 rfl rfl rfl) ?_
  refine g_v (.free rfl) rfl rfl (qt_build rfl rfl btp0_Category) ?_
  refine g_op (.free rfl) fun K13 hK13 => ?_
  refine go_alloc (z := (.agg #[.int .i64 0, .slice none 0 0, .slice none 0 0, .slice none 0 0, .slice none 0 0])) (cs := [.int .i64 0, .slice none 0 0, .slice none 0 0, .slice none 0 0, .slice none 0 0]) rfl rfl rfl (fun w => by kernel_rfl) rfl ?_
  intro B12
  refine hK13 _ _ ?_
  refine g_op (.free rfl) fun K14 hK14 => ?_
  refine go_storeS (n := 4) rfl rfl rfl rfl (by kernel_rfl) rfl rfl rfl ?_
  refine hK14 _ _ ?_
  refine g_nil ?_
  refine gk_then (hK11 _ _ ?_)
  refine gc_seq fun K15 hK15 => ?_
  refine gc_seq fun K16 hK16 => ?_
  refine gc_region ?_
  refine g_v (.free rfl) rfl rfl (qt_assign rfl rfl) ?_
  refine g_nil ?_
  refine gk_then (hK16 _ _ ?_)
  refine gc_block ?_
  refine gc_nilS ?_
  try simp only [List.nil_append, List.cons_append, List.append_assoc, List.set_cons_succ, List.set_cons_zero]
  refine gc_loop ([(0, _), (1, _), (2, _), (3, _), (6, _), (7, _), (8, _), (9, _)] : Env) (fun s : Nat × (Option Addr) × Nat => (fun (k : Nat) (a : Option Addr) (q : Nat) => ([(10, .int .i64 (k : Int))] : Env)) s.1 s.2.1 s.2.2) (fun s : Nat × (Option Addr) × Nat => (fun (k : Nat) (a : Option Addr) (q : Nat) => ([(4, bxI B12 27 [.int .i64 c.ob, .slice none 0 0, .slice none 0 0, .slice a (tabTo (fun j => at0 ys (at0 c.e (at0 (bkL xs xs.length) (j : Int)))) k).length q, .slice none 0 0]), (5, own1I (.slice a (tabTo (fun j => at0 ys (at0 c.e (at0 (bkL xs xs.length) (j : Int)))) k).length q) (tabTo (fun j => at0 ys (at0 c.e (at0 (bkL xs xs.length) (j : Int)))) k))] : List (Nat × Itm))) s.1 s.2.1 s.2.2) (fun s : Nat × (Option Addr) × Nat => (fun (k : Nat) (a : Option Addr) (q : Nat) => k ≤ c.e.length) s.1 s.2.1 s.2.2) (fun s : Nat × (Option Addr) × Nat => (fun (k : Nat) (a : Option Addr) (q : Nat) => c.e.length - k) s.1 s.2.1 s.2.2) (0, _, _) (sub_cons rfl (sub_cons rfl (sub_cons rfl (sub_cons rfl (sub_cons rfl (sub_cons rfl (sub_cons rfl (sub_cons rfl (sub_cons rfl sub_nil))))))))) rfl (Nat.zero_le _) ?_
  rintro ⟨k, a, q⟩ hinv KL17 hKL17
  simp only [updL, List.foldl_cons, List.foldl_nil, List.set_cons_succ, List.set_cons_zero, List.cons_append, List.nil_append] at hinv hKL17 ⊢
  have hk := hinv
  have hl := tabTo_len (fun j => at0 ys (at0 c.e (at0 (bkL xs xs.length) (j : Int)))) k
  refine gc_seq fun K18 hK18 => ?_
  refine gc_seq fun K19 hK19 => ?_
  refine gc_region ?_
  refine g_v (.free rfl) rfl rfl (qt_move rfl rfl) ?_
  refine g_v (.free rfl) rfl rfl (qt_move rfl rfl) ?_
  refine g_v (.free rfl) rfl rfl (qt_len rfl rfl ulE1 (fun w M => lenV_own1 (n := 2) rfl M)) ?_
  refine g_v (.free rfl) rfl rfl (qt_lss rfl rfl rfl) ?_
  refine g_nil ?_
  refine gk_then (hK19 _ _ ?_)
  refine gc_cond rfl (fun hc0 => ?_) (fun hc0 => ?_)
  · try simp only [decide_eq_true_eq, decide_eq_false_iff_not, Bool.not_eq_true', Bool.not_eq_false', Bool.not_eq_eq_eq_not, Bool.not_true, Bool.not_false, ne_eq, Decidable.not_not, Classical.not_not] at hc0
    refine gc_skip ?_
    refine gk_then (hK18 _ _ ?_)
    refine gc_seq fun K20 hK20 => ?_
    refine gc_block ?_
    have hb := Bo.at (j := k) (by omega)
    have hb1 := hb.1; have hb2 := hb.2.1
    have he := e_rngI hS hb1 (by omega)
    have he1 := he.1; have he2 := he.2
    try simp only [List.nil_append, List.cons_append, List.append_assoc, List.set_cons_succ, List.set_cons_zero]
    refine ga_start _ (fun w M => mem_erase 4 (mem_erase 5 (M))) ?_
    refine ga_v 0 rfl (by kernel_rfl) (by kernel_rfl) (by kernel_rfl) (.free rfl) rfl rfl (qt_field (z := 0) (off := 3) rfl rfl Try.underlying27 rfl (by kernel_rfl) rfl) (fun _ _ _ h => h) ?_
    refine ga_v 2 rfl (by kernel_rfl) (by kernel_rfl) (by kernel_rfl) (.free rfl) rfl rfl (qt_move rfl rfl) (fun _ _ _ h => h) ?_
    refine ga_v 3 rfl (by kernel_rfl) (by kernel_rfl) (by kernel_rfl) (.free rfl) rfl rfl (qt_field (z := 0) (off := 3) rfl rfl Try.underlying27 rfl (by kernel_rfl) rfl) (fun _ _ _ h => h) ?_
    refine ga_v 4 rfl (by kernel_rfl) (by kernel_rfl) (by kernel_rfl) (.free rfl) rfl rfl (qt_loadB (n := 0) rfl rfl Try.underlying22 rfl rfl rfl) (fun _ _ _ h => h) ?_
    refine ga_v 5 rfl (by kernel_rfl) (by kernel_rfl) (by kernel_rfl) (.free rfl) rfl rfl (qt_move rfl rfl) (fun _ _ _ h => h) ?_
    refine ga_v 6 rfl (by kernel_rfl) (by kernel_rfl) (by kernel_rfl) (.free rfl) rfl rfl (qt_move rfl rfl) (fun _ _ _ h => h) ?_
    refine ga_v 7 rfl (by kernel_rfl) (by kernel_rfl) (by kernel_rfl) (.free rfl) rfl rfl (qt_index rfl rfl rfl ulE1 szE1 (fun w M => lenA_own1 (n := 2) rfl M) (by omega) (by omega)) (fun _ _ _ h => h) ?_
    refine ga_v 8 rfl (by kernel_rfl) (by kernel_rfl) (by kernel_rfl) (.free rfl) rfl rfl (qt_load1 rfl rfl Try.underlying2 rfl (fun w M => (mem_own1 (n := 2) M rfl).rd) (by omega) (by omega)) (fun _ _ _ h => h) ?_
    refine ga_v 9 rfl (by kernel_rfl) (by kernel_rfl) (by kernel_rfl) (.free rfl) rfl rfl (qt_index rfl rfl rfl ulE1 szE1 (fun w M => lenA_rd h3) (by omega) (by omega)) (fun _ _ _ h => h) ?_
    refine ga_v 10 rfl (by kernel_rfl) (by kernel_rfl) (by kernel_rfl) (.free rfl) rfl rfl (qt_load1 rfl rfl Try.underlying2 rfl (fun w M => mem_rd M h3) (by omega) (by omega)) (fun _ _ _ h => h) ?_
    refine ga_v 11 rfl (by kernel_rfl) (by kernel_rfl) (by kernel_rfl) (.free rfl) rfl rfl (qt_index rfl rfl rfl ulE1 szE1 (fun w M => lenA_rd ha) (by omega) (by omega)) (fun _ _ _ h => h) ?_
    refine ga_v 12 rfl (by kernel_rfl) (by kernel_rfl) (by kernel_rfl) (.free rfl) rfl rfl (qt_load1 rfl rfl Try.underlying2 rfl (fun w M => mem_rd M ha) (by omega) (by omega)) (fun _ _ _ h => h) ?_
    refine ga_two 1 13 (by kernel_rfl) rfl rfl (.free rfl) (.free rfl) (fun K21 hK21 => ?_) (fun K21 hK21 => ?_)
    · refine go_v rfl rfl (qt_loadB (n := 4) rfl rfl Try.underlying22 rfl rfl rfl) ?_
      refine hK21 _ _ (fun w M => (mem_erase 4 (mem_erase 5 (mem_take 6 M)) :)) ?_
      refine ga_op 13 (by kernel_rfl) rfl (.free rfl) fun K24 hK24 => ?_
      refine go_slice1 rfl rfl rfl rfl Try.underlying22 ?_
      intro B23
      refine hK24 _ _ (fun w M => (mem_erase 4 (mem_erase 5 (mem_take 6 M)) :)) ?_
      refine ga_op 14 (by kernel_rfl) rfl (.free rfl) fun K26 hK26 => ?_
      refine go_append (n := 5) (m := 6) rfl rfl rfl Try.underlying22 rfl rfl rfl rfl (by omega) ?_
      intro va25 vc25
      refine hK26 _ _ (fun w M => (mem_erase 4 (mem_erase 5 (mem_take 6 M)) :)) ?_
      refine ga_v 15 rfl (by kernel_rfl) (by kernel_rfl) (by kernel_rfl) (.free rfl) rfl rfl (qt_field (z := 0) (off := 3) rfl rfl Try.underlying27 rfl (by kernel_rfl) rfl) (fun _ _ _ h => h) ?_
      refine ga_op 16 (by kernel_rfl) rfl (.free rfl) fun K27 hK27 => ?_
      refine go_storeB (n := 4) rfl rfl rfl rfl (by kernel_rfl) rfl rfl rfl (by first | decide | simp) ?_
      refine hK27 _ _ (fun w M => (mem_erase 4 (mem_erase 5 (mem_take 6 M)) :)) ?_
      refine ga_done (by kernel_rfl) ?_
      refine gk_block ?_
      refine gk_then (hK20 _ _ ?_)
      refine gc_region ?_
      refine g_v (.free rfl) rfl rfl (qt_move rfl rfl) ?_
      refine g_v (.free rfl) rfl rfl (qt_add rfl rfl rfl (by omega)) ?_
      refine g_v (.free rfl) rfl rfl (qt_assign rfl rfl) ?_
      refine g_nil ?_
      rw [tabTo_succ (fun j => at0 ys (at0 c.e (at0 (bkL xs xs.length) (j : Int)))) k]
      refine gk_then (gk_take 6 ?_)
      refine gk_sub ?hs_28 (hKL17 (k + 1, _, _) ?hi_28 ?hm_28)
      case hs_28 => exact (sub_cons rfl (sub_cons rfl (sub_cons rfl (sub_cons rfl (sub_cons rfl (sub_cons rfl (sub_cons rfl (sub_cons rfl (sub_cons rfl sub_nil)))))))))
      case hi_28 => omega
      case hm_28 => omega
    · refine go_slice1 rfl rfl rfl rfl Try.underlying22 ?_
      intro B29
      refine hK21 _ _ (fun w M => (mem_erase 4 (mem_erase 5 (mem_take 6 M)) :)) ?_
      refine ga_op 1 (by kernel_rfl) rfl (.free rfl) fun K31 hK31 => ?_
      refine go_v rfl rfl (qt_loadB (n := 4) rfl rfl Try.underlying22 rfl rfl rfl) ?_
      refine hK31 _ _ (fun w M => (mem_erase 4 (mem_erase 5 (mem_take 6 M)) :)) ?_
      refine ga_op 14 (by kernel_rfl) rfl (.free rfl) fun K33 hK33 => ?_
      refine go_append (n := 5) (m := 6) rfl rfl rfl Try.underlying22 rfl rfl rfl rfl (by omega) ?_
      intro va32 vc32
      refine hK33 _ _ (fun w M => (mem_erase 4 (mem_erase 5 (mem_take 6 M)) :)) ?_
      refine ga_v 15 rfl (by kernel_rfl) (by kernel_rfl) (by kernel_rfl) (.free rfl) rfl rfl (qt_field (z := 0) (off := 3) rfl rfl Try.underlying27 rfl (by kernel_rfl) rfl) (fun _ _ _ h => h) ?_
      refine ga_op 16 (by kernel_rfl) rfl (.free rfl) fun K34 hK34 => ?_
      refine go_storeB (n := 4) rfl rfl rfl rfl (by kernel_rfl) rfl rfl rfl (by first | decide | simp) ?_
      refine hK34 _ _ (fun w M => (mem_erase 4 (mem_erase 5 (mem_take 6 M)) :)) ?_
      refine ga_done (by kernel_rfl) ?_
      refine gk_block ?_
      refine gk_then (hK20 _ _ ?_)
      refine gc_region ?_
      refine g_v (.free rfl) rfl rfl (qt_move rfl rfl) ?_
      refine g_v (.free rfl) rfl rfl (qt_add rfl rfl rfl (by omega)) ?_
      refine g_v (.free rfl) rfl rfl (qt_assign rfl rfl) ?_
      refine g_nil ?_
      rw [tabTo_succ (fun j => at0 ys (at0 c.e (at0 (bkL xs xs.length) (j : Int)))) k]
      refine gk_then (gk_take 6 ?_)
      refine gk_sub ?hs_35 (hKL17 (k + 1, _, _) ?hi_35 ?hm_35)
      case hs_35 => exact (sub_cons rfl (sub_cons rfl (sub_cons rfl (sub_cons rfl (sub_cons rfl (sub_cons rfl (sub_cons rfl (sub_cons rfl (sub_cons rfl sub_nil)))))))))
      case hi_35 => omega
      case hm_35 => omega
  · try simp only [decide_eq_true_eq, decide_eq_false_iff_not, Bool.not_eq_true', Bool.not_eq_false', Bool.not_eq_eq_eq_not, Bool.not_true, Bool.not_false, ne_eq, Decidable.not_not, Classical.not_not] at hc0
    refine gc_exit ?_
    refine gk_then_exit ?_
    refine gk_then_exit ?_
    refine gk_block_hit ?_
    refine gk_then (hK15 _ _ ?_)
    refine gc_seq fun K36 hK36 => ?_
    refine gc_seq fun K37 hK37 => ?_
    obtain rfl : k = c.e.length := by omega
    refine gc_region ?_
    refine g_v (.free rfl) rfl rfl (qt_assign rfl rfl) ?_
    refine g_nil ?_
    refine gk_then (hK37 _ _ ?_)
    refine gc_block ?_
    refine gc_nilS ?_
    refine gc_nilS ?_
    refine gc_nilU ?_
    try simp only [List.nil_append, List.cons_append, List.append_assoc, List.set_cons_succ, List.set_cons_zero]
    refine gc_loop ([(0, _), (1, _), (2, _), (3, _), (6, _), (7, _), (8, _), (9, _), (10, _), (25, _)] : Env) (fun s : Nat × (Option Addr) × Nat × (Option Addr) × Nat × (Option Addr) × Nat × (List Value) => (fun (k : Nat) (a1 : Option Addr) (q1 : Nat) (a2 : Option Addr) (q2 : Nat) (a4 : Option Addr) (q4 : Nat) (us : List Value) => ([(11, .int .i64 (k : Int))] : Env)) s.1 s.2.1 s.2.2.1 s.2.2.2.1 s.2.2.2.2.1 s.2.2.2.2.2.1 s.2.2.2.2.2.2.1 s.2.2.2.2.2.2.2) (fun s : Nat × (Option Addr) × Nat × (Option Addr) × Nat × (Option Addr) × Nat × (List Value) => (fun (k : Nat) (a1 : Option Addr) (q1 : Nat) (a2 : Option Addr) (q2 : Nat) (a4 : Option Addr) (q4 : Nat) (us : List Value) => ([(4, bxI B12 27 [.int .i64 c.ob, .slice a1 (tabTo (fun j => at0 xs (at0 c.s (at0 (bkL ys ys.length) (j : Int)))) k).length q1, .slice a2 (tabTo (fun j => at0 xs (at0 c.t (at0 (bkL ys ys.length) (j : Int)))) k).length q2, .slice a (tabTo (fun j => at0 ys (at0 c.e (at0 (bkL xs xs.length) (j : Int)))) c.e.length).length q, .slice a4 (rowsTo (fun j => tabTo (fun i => rnV c ys (at0 (bkL ys ys.length) (j : Int)) (at0 (bkL ys ys.length) (i : Int))) c.s.length) k).length q4]), (6, own1I (.slice a1 (tabTo (fun j => at0 xs (at0 c.s (at0 (bkL ys ys.length) (j : Int)))) k).length q1) (tabTo (fun j => at0 xs (at0 c.s (at0 (bkL ys ys.length) (j : Int)))) k)), (7, own1I (.slice a2 (tabTo (fun j => at0 xs (at0 c.t (at0 (bkL ys ys.length) (j : Int)))) k).length q2) (tabTo (fun j => at0 xs (at0 c.t (at0 (bkL ys ys.length) (j : Int)))) k)), (8, own2U (.slice a4 (rowsTo (fun j => tabTo (fun i => rnV c ys (at0 (bkL ys ys.length) (j : Int)) (at0 (bkL ys ys.length) (i : Int))) c.s.length) k).length q4) us (rowsTo (fun j => tabTo (fun i => rnV c ys (at0 (bkL ys ys.length) (j : Int)) (at0 (bkL ys ys.length) (i : Int))) c.s.length) k))] : List (Nat × Itm))) s.1 s.2.1 s.2.2.1 s.2.2.2.1 s.2.2.2.2.1 s.2.2.2.2.2.1 s.2.2.2.2.2.2.1 s.2.2.2.2.2.2.2) (fun s : Nat × (Option Addr) × Nat × (Option Addr) × Nat × (Option Addr) × Nat × (List Value) => (fun (k : Nat) (a1 : Option Addr) (q1 : Nat) (a2 : Option Addr) (q2 : Nat) (a4 : Option Addr) (q4 : Nat) (us : List Value) => k ≤ c.s.length) s.1 s.2.1 s.2.2.1 s.2.2.2.1 s.2.2.2.2.1 s.2.2.2.2.2.1 s.2.2.2.2.2.2.1 s.2.2.2.2.2.2.2) (fun s : Nat × (Option Addr) × Nat × (Option Addr) × Nat × (Option Addr) × Nat × (List Value) => (fun (k : Nat) (a1 : Option Addr) (q1 : Nat) (a2 : Option Addr) (q2 : Nat) (a4 : Option Addr) (q4 : Nat) (us : List Value) => c.s.length - k) s.1 s.2.1 s.2.2.1 s.2.2.2.1 s.2.2.2.2.1 s.2.2.2.2.2.1 s.2.2.2.2.2.2.1 s.2.2.2.2.2.2.2) (0, _, _, _, _, _, _, _) (sub_cons rfl (sub_cons rfl (sub_cons rfl (sub_cons rfl (sub_cons rfl (sub_cons rfl (sub_cons rfl (sub_cons rfl (sub_cons rfl (sub_cons rfl (sub_cons rfl sub_nil))))))))))) rfl (Nat.zero_le _) ?_
    rintro ⟨k, a1, q1, a2, q2, a4, q4, us⟩ hinv KL38 hKL38
    simp only [updL, List.foldl_cons, List.foldl_nil, List.set_cons_succ, List.set_cons_zero, List.cons_append, List.nil_append] at hinv hKL38 ⊢
    have hk := hinv
    have hl1 := tabTo_len (fun j => at0 xs (at0 c.s (at0 (bkL ys ys.length) (j : Int)))) k
    have hl2 := tabTo_len (fun j => at0 xs (at0 c.t (at0 (bkL ys ys.length) (j : Int)))) k
    have hl4 := rowsTo_len (fun j => tabTo (fun i => rnV c ys (at0 (bkL ys ys.length) (j : Int)) (at0 (bkL ys ys.length) (i : Int))) c.s.length) k
    refine gc_seq fun K39 hK39 => ?_
    refine gc_seq fun K40 hK40 => ?_
    refine gc_region ?_
    refine g_v (.free rfl) rfl rfl (qt_move rfl rfl) ?_
    refine g_v (.free rfl) rfl rfl (qt_move rfl rfl) ?_
    refine g_v (.free rfl) rfl rfl (qt_len rfl rfl ulE1 (fun w M => lenV_own1 (n := 3) rfl M)) ?_
    refine g_v (.free rfl) rfl rfl (qt_lss rfl rfl rfl) ?_
    refine g_nil ?_
    refine gk_then (hK40 _ _ ?_)
    refine gc_cond rfl (fun hc1 => ?_) (fun hc1 => ?_)
    · try simp only [decide_eq_true_eq, decide_eq_false_iff_not, Bool.not_eq_true', Bool.not_eq_false', Bool.not_eq_eq_eq_not, Bool.not_true, Bool.not_false, ne_eq, Decidable.not_not, Classical.not_not] at hc1
      refine gc_skip ?_
      refine gk_then (hK39 _ _ ?_)
      refine gc_seq fun K41 hK41 => ?_
      refine gc_block ?_
      refine gc_seq fun K42 hK42 => ?_
      have hb := Ba.at (j := k) (by omega)
      have hb1 := hb.1; have hb2 := hb.2.1
      have hA := arrP hS hb1 (by omega)
      have a0 := hA.fs; have a1 := hA.ft; have a2 := hA.fm; have a3 := hA.s0; have a4 := hA.s1; have a5 := hA.t0; have a6 := hA.t1; have a7 := hA.row
      try simp only [List.nil_append, List.cons_append, List.append_assoc, List.set_cons_succ, List.set_cons_zero]
      refine ga_start _ (fun w M => mem_erase 4 (mem_erase 6 (M))) ?_
      refine ga_v 0 rfl (by kernel_rfl) (by kernel_rfl) (by kernel_rfl) (.free rfl) rfl rfl (qt_field (z := 0) (off := 1) rfl rfl Try.underlying27 rfl (by kernel_rfl) rfl) (fun _ _ _ h => h) ?_
      refine ga_v 2 rfl (by kernel_rfl) (by kernel_rfl) (by kernel_rfl) (.free rfl) rfl rfl (qt_move rfl rfl) (fun _ _ _ h => h) ?_
      refine ga_v 3 rfl (by kernel_rfl) (by kernel_rfl) (by kernel_rfl) (.free rfl) rfl rfl (qt_field (z := 0) (off := 1) rfl rfl Try.underlying27 rfl (by kernel_rfl) rfl) (fun _ _ _ h => h) ?_
      refine ga_v 4 rfl (by kernel_rfl) (by kernel_rfl) (by kernel_rfl) (.free rfl) rfl rfl (qt_loadB (n := 0) rfl rfl Try.underlying22 rfl rfl rfl) (fun _ _ _ h => h) ?_
      refine ga_v 5 rfl (by kernel_rfl) (by kernel_rfl) (by kernel_rfl) (.free rfl) rfl rfl (qt_move rfl rfl) (fun _ _ _ h => h) ?_
      refine ga_v 6 rfl (by kernel_rfl) (by kernel_rfl) (by kernel_rfl) (.free rfl) rfl rfl (qt_move rfl rfl) (fun _ _ _ h => h) ?_
      refine ga_v 7 rfl (by kernel_rfl) (by kernel_rfl) (by kernel_rfl) (.free rfl) rfl rfl (qt_index rfl rfl rfl ulE1 szE1 (fun w M => lenA_own1 (n := 3) rfl M) (by omega) (by omega)) (fun _ _ _ h => h) ?_
      refine ga_v 8 rfl (by kernel_rfl) (by kernel_rfl) (by kernel_rfl) (.free rfl) rfl rfl (qt_load1 rfl rfl Try.underlying2 rfl (fun w M => (mem_own1 (n := 3) M rfl).rd) (by omega) (by omega)) (fun _ _ _ h => h) ?_
      refine ga_v 9 rfl (by kernel_rfl) (by kernel_rfl) (by kernel_rfl) (.free rfl) rfl rfl (qt_index rfl rfl rfl ulE1 szE1 (fun w M => lenA_rd h1) (by omega) (by omega)) (fun _ _ _ h => h) ?_
      refine ga_v 10 rfl (by kernel_rfl) (by kernel_rfl) (by kernel_rfl) (.free rfl) rfl rfl (qt_load1 rfl rfl Try.underlying2 rfl (fun w M => mem_rd M h1) (by omega) (by omega)) (fun _ _ _ h => h) ?_
      refine ga_v 11 rfl (by kernel_rfl) (by kernel_rfl) (by kernel_rfl) (.free rfl) rfl rfl (qt_index rfl rfl rfl ulE1 szE1 (fun w M => lenA_rd ho) (by omega) (by omega)) (fun _ _ _ h => h) ?_
      refine ga_v 12 rfl (by kernel_rfl) (by kernel_rfl) (by kernel_rfl) (.free rfl) rfl rfl (qt_load1 rfl rfl Try.underlying2 rfl (fun w M => mem_rd M ho) (by omega) (by omega)) (fun _ _ _ h => h) ?_
      refine ga_two 1 13 (by kernel_rfl) rfl rfl (.free rfl) (.free rfl) (fun K43 hK43 => ?_) (fun K43 hK43 => ?_)
      · refine go_v rfl rfl (qt_loadB (n := 4) rfl rfl Try.underlying22 rfl rfl rfl) ?_
        refine hK43 _ _ (fun w M => (mem_erase 4 (mem_erase 6 (mem_take 9 M)) :)) ?_
        refine ga_op 13 (by kernel_rfl) rfl (.free rfl) fun K46 hK46 => ?_
        refine go_slice1 rfl rfl rfl rfl Try.underlying22 ?_
        intro B45
        refine hK46 _ _ (fun w M => (mem_erase 4 (mem_erase 6 (mem_take 9 M)) :)) ?_
        refine ga_op 14 (by kernel_rfl) rfl (.free rfl) fun K48 hK48 => ?_
        refine go_append (n := 6) (m := 9) rfl rfl rfl Try.underlying22 rfl rfl rfl rfl (by omega) ?_
        intro va47 vc47
        refine hK48 _ _ (fun w M => (mem_erase 4 (mem_erase 6 (mem_take 9 M)) :)) ?_
        refine ga_v 15 rfl (by kernel_rfl) (by kernel_rfl) (by kernel_rfl) (.free rfl) rfl rfl (qt_field (z := 0) (off := 1) rfl rfl Try.underlying27 rfl (by kernel_rfl) rfl) (fun _ _ _ h => h) ?_
        refine ga_op 16 (by kernel_rfl) rfl (.free rfl) fun K49 hK49 => ?_
        refine go_storeB (n := 4) rfl rfl rfl rfl (by kernel_rfl) rfl rfl rfl (by first | decide | simp) ?_
        refine hK49 _ _ (fun w M => (mem_erase 4 (mem_erase 6 (mem_take 9 M)) :)) ?_
        refine ga_done (by kernel_rfl) ?_
        refine gk_then (hK42 _ _ ?_)
        refine gc_seq fun K50 hK50 => ?_
        try simp only [List.nil_append, List.cons_append, List.append_assoc, List.set_cons_succ, List.set_cons_zero]
        refine ga_start _ (fun w M => mem_erase 4 (mem_erase 7 (M))) ?_
        refine ga_v 0 rfl (by kernel_rfl) (by kernel_rfl) (by kernel_rfl) (.free rfl) rfl rfl (qt_field (z := 0) (off := 2) rfl rfl Try.underlying27 rfl (by kernel_rfl) rfl) (fun _ _ _ h => h) ?_
        refine ga_v 2 rfl (by kernel_rfl) (by kernel_rfl) (by kernel_rfl) (.free rfl) rfl rfl (qt_move rfl rfl) (fun _ _ _ h => h) ?_
        refine ga_v 3 rfl (by kernel_rfl) (by kernel_rfl) (by kernel_rfl) (.free rfl) rfl rfl (qt_field (z := 0) (off := 2) rfl rfl Try.underlying27 rfl (by kernel_rfl) rfl) (fun _ _ _ h => h) ?_
        refine ga_v 4 rfl (by kernel_rfl) (by kernel_rfl) (by kernel_rfl) (.free rfl) rfl rfl (qt_loadB (n := 0) rfl rfl Try.underlying22 rfl rfl rfl) (fun _ _ _ h => h) ?_
        refine ga_v 5 rfl (by kernel_rfl) (by kernel_rfl) (by kernel_rfl) (.free rfl) rfl rfl (qt_move rfl rfl) (fun _ _ _ h => h) ?_
        refine ga_v 6 rfl (by kernel_rfl) (by kernel_rfl) (by kernel_rfl) (.free rfl) rfl rfl (qt_move rfl rfl) (fun _ _ _ h => h) ?_
        refine ga_v 7 rfl (by kernel_rfl) (by kernel_rfl) (by kernel_rfl) (.free rfl) rfl rfl (qt_index rfl rfl rfl ulE1 szE1 (fun w M => lenA_own1 (n := 3) rfl M) (by omega) (by omega)) (fun _ _ _ h => h) ?_
        refine ga_v 8 rfl (by kernel_rfl) (by kernel_rfl) (by kernel_rfl) (.free rfl) rfl rfl (qt_load1 rfl rfl Try.underlying2 rfl (fun w M => (mem_own1 (n := 3) M rfl).rd) (by omega) (by omega)) (fun _ _ _ h => h) ?_
        refine ga_v 9 rfl (by kernel_rfl) (by kernel_rfl) (by kernel_rfl) (.free rfl) rfl rfl (qt_index rfl rfl rfl ulE1 szE1 (fun w M => lenA_rd h2) (by omega) (by omega)) (fun _ _ _ h => h) ?_
        refine ga_v 10 rfl (by kernel_rfl) (by kernel_rfl) (by kernel_rfl) (.free rfl) rfl rfl (qt_load1 rfl rfl Try.underlying2 rfl (fun w M => mem_rd M h2) (by omega) (by omega)) (fun _ _ _ h => h) ?_
        refine ga_v 11 rfl (by kernel_rfl) (by kernel_rfl) (by kernel_rfl) (.free rfl) rfl rfl (qt_index rfl rfl rfl ulE1 szE1 (fun w M => lenA_rd ho) (by omega) (by omega)) (fun _ _ _ h => h) ?_
        refine ga_v 12 rfl (by kernel_rfl) (by kernel_rfl) (by kernel_rfl) (.free rfl) rfl rfl (qt_load1 rfl rfl Try.underlying2 rfl (fun w M => mem_rd M ho) (by omega) (by omega)) (fun _ _ _ h => h) ?_
        refine ga_two 1 13 (by kernel_rfl) rfl rfl (.free rfl) (.free rfl) (fun K51 hK51 => ?_) (fun K51 hK51 => ?_)
        · refine go_v rfl rfl (qt_loadB (n := 4) rfl rfl Try.underlying22 rfl rfl rfl) ?_
          refine hK51 _ _ (fun w M => (mem_erase 4 (mem_erase 7 (mem_take 10 M)) :)) ?_
          refine ga_op 13 (by kernel_rfl) rfl (.free rfl) fun K54 hK54 => ?_
          refine go_slice1 rfl rfl rfl rfl Try.underlying22 ?_
          intro B53
          refine hK54 _ _ (fun w M => (mem_erase 4 (mem_erase 7 (mem_take 10 M)) :)) ?_
          refine ga_op 14 (by kernel_rfl) rfl (.free rfl) fun K56 hK56 => ?_
          refine go_append (n := 7) (m := 10) rfl rfl rfl Try.underlying22 rfl rfl rfl rfl (by omega) ?_
          intro va55 vc55
          refine hK56 _ _ (fun w M => (mem_erase 4 (mem_erase 7 (mem_take 10 M)) :)) ?_
          refine ga_v 15 rfl (by kernel_rfl) (by kernel_rfl) (by kernel_rfl) (.free rfl) rfl rfl (qt_field (z := 0) (off := 2) rfl rfl Try.underlying27 rfl (by kernel_rfl) rfl) (fun _ _ _ h => h) ?_
          refine ga_op 16 (by kernel_rfl) rfl (.free rfl) fun K57 hK57 => ?_
          refine go_storeB (n := 4) rfl rfl rfl rfl (by kernel_rfl) rfl rfl rfl (by first | decide | simp) ?_
          refine hK57 _ _ (fun w M => (mem_erase 4 (mem_erase 7 (mem_take 10 M)) :)) ?_
          refine ga_done (by kernel_rfl) ?_
          refine gk_then (hK50 _ _ ?_)
          refine gc_seq fun K58 hK58 => ?_
          refine gc_region ?_
          refine g_op (.free rfl) fun K60 hK60 => ?_
          refine go_slice0 rfl rfl rfl Try.underlying22 ?_
          intro B59
          refine hK60 _ _ ?_
          refine g_v (.free rfl) rfl rfl (qt_assign rfl rfl) ?_
          refine g_nil ?_
          refine gk_then (hK58 _ _ ?_)
          refine gc_seq fun K61 hK61 => ?_
          refine gc_seq fun K62 hK62 => ?_
          refine gc_region ?_
          refine g_v (.free rfl) rfl rfl (qt_assign rfl rfl) ?_
          refine g_nil ?_
          refine gk_then (hK62 _ _ ?_)
          refine gc_block ?_
          try simp only [List.nil_append, List.cons_append, List.append_assoc, List.set_cons_succ, List.set_cons_zero]
          refine gc_loop ([(0, _), (1, _), (2, _), (3, _), (6, _), (7, _), (8, _), (9, _), (10, _), (11, _), (25, _), (47, _)] : Env) (fun s : Nat × (Option Addr) × Nat => (fun (l : Nat) (b : Option Addr) (r : Nat) => ([(12, .slice b (tabTo (fun i => rnV c ys (at0 (bkL ys ys.length) (k : Int)) (at0 (bkL ys ys.length) (i : Int))) l).length r), (13, .int .i64 (l : Int))] : Env)) s.1 s.2.1 s.2.2) (fun s : Nat × (Option Addr) × Nat => (fun (l : Nat) (b : Option Addr) (r : Nat) => ([(11, own1I (.slice b (tabTo (fun i => rnV c ys (at0 (bkL ys ys.length) (k : Int)) (at0 (bkL ys ys.length) (i : Int))) l).length r) (tabTo (fun i => rnV c ys (at0 (bkL ys ys.length) (k : Int)) (at0 (bkL ys ys.length) (i : Int))) l))] : List (Nat × Itm))) s.1 s.2.1 s.2.2) (fun s : Nat × (Option Addr) × Nat => (fun (l : Nat) (b : Option Addr) (r : Nat) => l ≤ c.s.length) s.1 s.2.1 s.2.2) (fun s : Nat × (Option Addr) × Nat => (fun (l : Nat) (b : Option Addr) (r : Nat) => c.s.length - l) s.1 s.2.1 s.2.2) (0, _, _) (sub_cons rfl (sub_cons rfl (sub_cons rfl (sub_cons rfl (sub_cons rfl (sub_cons rfl (sub_cons rfl (sub_cons rfl (sub_cons rfl (sub_cons rfl (sub_cons rfl (sub_cons rfl (sub_cons rfl (sub_cons rfl sub_nil)))))))))))))) rfl (Nat.zero_le _) ?_
          rintro ⟨l, b, r⟩ hinv KL63 hKL63
          simp only [updL, List.foldl_cons, List.foldl_nil, List.set_cons_succ, List.set_cons_zero, List.cons_append, List.nil_append] at hinv hKL63 ⊢
          have hl := hinv
          have hlw := tabTo_len (fun i => rnV c ys (at0 (bkL ys ys.length) (k : Int)) (at0 (bkL ys ys.length) (i : Int))) l
          refine gc_seq fun K64 hK64 => ?_
          refine gc_seq fun K65 hK65 => ?_
          refine gc_region ?_
          refine g_v (.free rfl) rfl rfl (qt_move rfl rfl) ?_
          refine g_v (.free rfl) rfl rfl (qt_move rfl rfl) ?_
          refine g_v (.free rfl) rfl rfl (qt_len rfl rfl ulE1 (fun w M => lenV_own1 (n := 3) rfl M)) ?_
          refine g_v (.free rfl) rfl rfl (qt_lss rfl rfl rfl) ?_
          refine g_nil ?_
          refine gk_then (hK65 _ _ ?_)
          refine gc_cond rfl (fun hc2 => ?_) (fun hc2 => ?_)
          · try simp only [decide_eq_true_eq, decide_eq_false_iff_not, Bool.not_eq_true', Bool.not_eq_false', Bool.not_eq_eq_eq_not, Bool.not_true, Bool.not_false, ne_eq, Decidable.not_not, Classical.not_not] at hc2
            refine gc_skip ?_
            refine gk_then (hK64 _ _ ?_)
            refine gc_seq fun K66 hK66 => ?_
            refine gc_block ?_
            refine gc_seq fun K67 hK67 => ?_
            have hg := Ba.at (j := l) (by omega)
            have hg1 := hg.1; have hg2 := hg.2.1
            have hth := th_rngI hS hb1 (by omega) hg1 (by omega)
            have ht1 := hth.1; have ht2 := hth.2
            simp only [Cat.th] at ht1 ht2
            refine gc_draw (by kernel_rfl) ?_
            refine gd_v (.free rfl) rfl rfl (qt_field (z := 0) (off := 4) rfl rfl Try.underlying27 rfl (by kernel_rfl) rfl) ?_
            refine gd_v (.free rfl) rfl rfl (qt_loadB (n := 0) rfl rfl Try.underlying23 rfl rfl rfl) ?_
            refine gd_v (.free rfl) rfl rfl (qt_move rfl rfl) ?_
            refine gd_v (.free rfl) rfl rfl (qt_move rfl rfl) ?_
            refine gd_v (.free rfl) rfl rfl (qt_index rfl rfl rfl ulE1 szE1 (fun w M => lenA_own1 (n := 3) rfl M) (by omega) (by omega)) ?_
            refine gd_v (.free rfl) rfl rfl (qt_load1 rfl rfl Try.underlying2 rfl (fun w M => (mem_own1 (n := 3) M rfl).rd) (by omega) (by omega)) ?_
            refine gd_v (.free rfl) rfl rfl (qt_index rfl rfl rfl ulE2 szE2 (fun w M => lenA_rd2 h4) (by omega) (by omega)) ?_
            refine gd_load2 (.free rfl) rfl rfl rfl rfl Try.underlying22 rfl h4 (by omega) (by omega) ?_
            intro ra68 rc68 hr68
            refine gd_v (.free rfl) rfl rfl (qt_move rfl rfl) ?_
            refine gd_v (.free rfl) rfl rfl (qt_move rfl rfl) ?_
            refine gd_v (.free rfl) rfl rfl (qt_index rfl rfl rfl ulE1 szE1 (fun w M => lenA_own1 (n := 3) rfl M) (by omega) (by omega)) ?_
            refine gd_v (.free rfl) rfl rfl (qt_load1 rfl rfl Try.underlying2 rfl (fun w M => (mem_own1 (n := 3) M rfl).rd) (by omega) (by omega)) ?_
            refine gd_v (.free rfl) rfl rfl (qt_index rfl rfl rfl ulE1 szE1 (fun w M => lenA_rd hr68) (by omega) (by omega)) ?_
            refine gd_v (.free rfl) rfl rfl (qt_load1 rfl rfl Try.underlying2 rfl (fun w M => mem_rd M hr68) (by omega) (by omega)) ?_
            refine gd_v (.free rfl) rfl rfl (qt_assign rfl rfl) ?_
            refine gd_nil ?_
            refine gk_then (hK67 _ _ ?_)
            refine gc_seq fun K69 hK69 => ?_
            refine gc_seq fun K70 hK70 => ?_
            refine gc_region ?_
            refine g_v (.free rfl) rfl rfl (qt_move rfl rfl) ?_
            refine g_v (.free rfl) rfl rfl (qt_geq rfl rfl rfl) ?_
            refine g_nil ?_
            refine gk_then (hK70 _ _ ?_)
            refine gc_cond rfl (fun hc3 => ?_) (fun hc3 => ?_)
            · try simp only [decide_eq_true_eq, decide_eq_false_iff_not, Bool.not_eq_true', Bool.not_eq_false', Bool.not_eq_eq_eq_not, Bool.not_true, Bool.not_false, ne_eq, Decidable.not_not, Classical.not_not] at hc3
              refine gc_region ?_
              refine g_v (.free rfl) rfl rfl (qt_move rfl rfl) ?_
              refine g_v (.free rfl) rfl rfl (qt_move rfl rfl) ?_
              refine g_v (.free rfl) rfl rfl (qt_index rfl rfl rfl ulE1 szE1 (fun w M => lenA_rd ha) (by omega) (by omega)) ?_
              refine g_v (.free rfl) rfl rfl (qt_load1 rfl rfl Try.underlying2 rfl (fun w M => mem_rd M ha) (by omega) (by omega)) ?_
              refine g_v (.free rfl) rfl rfl (qt_assign rfl rfl) ?_
              refine g_nil ?_
              refine gk_then (hK69 _ _ ?_)
              refine gc_region ?_
              refine g_v (.free rfl) rfl rfl (qt_move rfl rfl) ?_
              refine g_v (.free rfl) rfl rfl (qt_move rfl rfl) ?_
              refine g_op (.free rfl) fun K72 hK72 => ?_
              refine go_slice1 rfl rfl rfl rfl Try.underlying22 ?_
              intro B71
              refine hK72 _ _ ?_
              refine g_op (.free rfl) fun K74 hK74 => ?_
              refine go_append (n := 11) (m := 12) rfl rfl rfl Try.underlying22 rfl rfl rfl rfl (by omega) ?_
              intro va73 vc73
              refine hK74 _ _ ?_
              refine g_v (.free rfl) rfl rfl (qt_assign rfl rfl) ?_
              refine g_nil ?_
              refine gk_block ?_
              refine gk_then (hK66 _ _ ?_)
              refine gc_region ?_
              refine g_v (.free rfl) rfl rfl (qt_move rfl rfl) ?_
              refine g_v (.free rfl) rfl rfl (qt_add rfl rfl rfl (by omega)) ?_
              refine g_v (.free rfl) rfl rfl (qt_assign rfl rfl) ?_
              refine g_nil ?_
              rw [rnV_t (c := c) (ys := ys) (f := at0 (bkL ys ys.length) (k : Int)) (g := at0 (bkL ys ys.length) (l : Int)) (fun e => by simp only [Cat.th] at e; omega), tabTo_succ (fun i => rnV c ys (at0 (bkL ys ys.length) (k : Int)) (at0 (bkL ys ys.length) (i : Int))) l]
              refine gk_then (gk_take 12 ?_)
              refine gk_sub ?hs_75 (hKL63 (l + 1, _, _) ?hi_75 ?hm_75)
              case hs_75 => exact (sub_cons rfl (sub_cons rfl (sub_cons rfl (sub_cons rfl (sub_cons rfl (sub_cons rfl (sub_cons rfl (sub_cons rfl (sub_cons rfl (sub_cons rfl (sub_cons rfl (sub_cons rfl (sub_cons rfl (sub_cons rfl sub_nil))))))))))))))
              case hi_75 => omega
              case hm_75 => omega
            · try simp only [decide_eq_true_eq, decide_eq_false_iff_not, Bool.not_eq_true', Bool.not_eq_false', Bool.not_eq_eq_eq_not, Bool.not_true, Bool.not_false, ne_eq, Decidable.not_not, Classical.not_not] at hc3
              refine gc_skip ?_
              refine gk_then (hK69 _ _ ?_)
              refine gc_region ?_
              refine g_v (.free rfl) rfl rfl (qt_move rfl rfl) ?_
              refine g_v (.free rfl) rfl rfl (qt_move rfl rfl) ?_
              refine g_op (.free rfl) fun K77 hK77 => ?_
              refine go_slice1 rfl rfl rfl rfl Try.underlying22 ?_
              intro B76
              refine hK77 _ _ ?_
              refine g_op (.free rfl) fun K79 hK79 => ?_
              refine go_append (n := 11) (m := 12) rfl rfl rfl Try.underlying22 rfl rfl rfl rfl (by omega) ?_
              intro va78 vc78
              refine hK79 _ _ ?_
              refine g_v (.free rfl) rfl rfl (qt_assign rfl rfl) ?_
              refine g_nil ?_
              refine gk_block ?_
              refine gk_then (hK66 _ _ ?_)
              refine gc_region ?_
              refine g_v (.free rfl) rfl rfl (qt_move rfl rfl) ?_
              refine g_v (.free rfl) rfl rfl (qt_add rfl rfl rfl (by omega)) ?_
              refine g_v (.free rfl) rfl rfl (qt_assign rfl rfl) ?_
              refine g_nil ?_
              rw [rnV_n' (c := c) (ys := ys) (f := at0 (bkL ys ys.length) (k : Int)) (g := at0 (bkL ys ys.length) (l : Int)) (by simp only [Cat.th]; omega), tabTo_succ (fun i => rnV c ys (at0 (bkL ys ys.length) (k : Int)) (at0 (bkL ys ys.length) (i : Int))) l]
              refine gk_then (gk_take 12 ?_)
              refine gk_sub ?hs_80 (hKL63 (l + 1, _, _) ?hi_80 ?hm_80)
              case hs_80 => exact (sub_cons rfl (sub_cons rfl (sub_cons rfl (sub_cons rfl (sub_cons rfl (sub_cons rfl (sub_cons rfl (sub_cons rfl (sub_cons rfl (sub_cons rfl (sub_cons rfl (sub_cons rfl (sub_cons rfl (sub_cons rfl sub_nil))))))))))))))
              case hi_80 => omega
              case hm_80 => omega
          · try simp only [decide_eq_true_eq, decide_eq_false_iff_not, Bool.not_eq_true', Bool.not_eq_false', Bool.not_eq_eq_eq_not, Bool.not_true, Bool.not_false, ne_eq, Decidable.not_not, Classical.not_not] at hc2
            refine gc_exit ?_
            refine gk_then_exit ?_
            refine gk_then_exit ?_
            refine gk_block_hit ?_
            refine gk_then (hK61 _ _ ?_)
            refine gc_region ?_
            refine g_v (.free rfl) rfl rfl (qt_field (z := 0) (off := 4) rfl rfl Try.underlying27 rfl (by kernel_rfl) rfl) ?_
            refine g_v (.free rfl) rfl rfl (qt_loadB (n := 4) rfl rfl Try.underlying23 rfl rfl rfl) ?_
            refine g_v (.free rfl) rfl rfl (qt_move rfl rfl) ?_
            refine g_op (.free rfl) fun K82 hK82 => ?_
            refine go_sliceR1 (m := 11) rfl rfl rfl rfl Try.underlying23 rfl ?_
            intro B81
            refine hK82 _ _ ?_
            refine g_op (.free rfl) fun K84 hK84 => ?_
            refine go_appendRow (n := 8) (m := 11) (m' := 10) rfl rfl rfl Try.underlying23 rfl rfl rfl rfl rfl (by omega) ?_
            intro va83 vc83
            refine hK84 _ _ ?_
            refine g_v (.free rfl) rfl rfl (qt_field (z := 0) (off := 4) rfl rfl Try.underlying27 rfl (by kernel_rfl) rfl) ?_
            refine g_op (.free rfl) fun K85 hK85 => ?_
            refine go_storeB (n := 4) rfl rfl rfl rfl (by kernel_rfl) rfl rfl rfl (by first | decide | simp) ?_
            refine hK85 _ _ ?_
            refine g_nil ?_
            refine gk_block ?_
            refine gk_then (hK41 _ _ ?_)
            refine gc_region ?_
            refine g_v (.free rfl) rfl rfl (qt_move rfl rfl) ?_
            refine g_v (.free rfl) rfl rfl (qt_add rfl rfl rfl (by omega)) ?_
            refine g_v (.free rfl) rfl rfl (qt_assign rfl rfl) ?_
            refine g_nil ?_
            obtain rfl : l = c.s.length := by omega
            rw [tabTo_succ (fun j => at0 xs (at0 c.s (at0 (bkL ys ys.length) (j : Int)))) k, tabTo_succ (fun j => at0 xs (at0 c.t (at0 (bkL ys ys.length) (j : Int)))) k, rowsTo_succ (fun j => tabTo (fun i => rnV c ys (at0 (bkL ys ys.length) (j : Int)) (at0 (bkL ys ys.length) (i : Int))) c.s.length) k]
            refine gk_then (gk_take 9 ?_)
            refine gk_sub ?hs_86 (hKL38 (k + 1, _, _, _, _, _, _, _) ?hi_86 ?hm_86)
            case hs_86 => exact (sub_cons rfl (sub_cons rfl (sub_cons rfl (sub_cons rfl (sub_cons rfl (sub_cons rfl (sub_cons rfl (sub_cons rfl (sub_cons rfl (sub_cons rfl (sub_cons rfl sub_nil)))))))))))
            case hi_86 => omega
            case hm_86 => omega
        · refine go_slice1 rfl rfl rfl rfl Try.underlying22 ?_
          intro B87
          refine hK51 _ _ (fun w M => (mem_erase 4 (mem_erase 7 (mem_take 10 M)) :)) ?_
          refine ga_op 1 (by kernel_rfl) rfl (.free rfl) fun K89 hK89 => ?_
          refine go_v rfl rfl (qt_loadB (n := 4) rfl rfl Try.underlying22 rfl rfl rfl) ?_
          refine hK89 _ _ (fun w M => (mem_erase 4 (mem_erase 7 (mem_take 10 M)) :)) ?_
          refine ga_op 14 (by kernel_rfl) rfl (.free rfl) fun K91 hK91 => ?_
          refine go_append (n := 7) (m := 10) rfl rfl rfl Try.underlying22 rfl rfl rfl rfl (by omega) ?_
          intro va90 vc90
          refine hK91 _ _ (fun w M => (mem_erase 4 (mem_erase 7 (mem_take 10 M)) :)) ?_
          refine ga_v 15 rfl (by kernel_rfl) (by kernel_rfl) (by kernel_rfl) (.free rfl) rfl rfl (qt_field (z := 0) (off := 2) rfl rfl Try.underlying27 rfl (by kernel_rfl) rfl) (fun _ _ _ h => h) ?_
          refine ga_op 16 (by kernel_rfl) rfl (.free rfl) fun K92 hK92 => ?_
          refine go_storeB (n := 4) rfl rfl rfl rfl (by kernel_rfl) rfl rfl rfl (by first | decide | simp) ?_
          refine hK92 _ _ (fun w M => (mem_erase 4 (mem_erase 7 (mem_take 10 M)) :)) ?_
          refine ga_done (by kernel_rfl) ?_
          refine gk_then (hK50 _ _ ?_)
          refine gc_seq fun K93 hK93 => ?_
          refine gc_region ?_
          refine g_op (.free rfl) fun K95 hK95 => ?_
          refine go_slice0 rfl rfl rfl Try.underlying22 ?_
          intro B94
          refine hK95 _ _ ?_
          refine g_v (.free rfl) rfl rfl (qt_assign rfl rfl) ?_
          refine g_nil ?_
          refine gk_then (hK93 _ _ ?_)
          refine gc_seq fun K96 hK96 => ?_
          refine gc_seq fun K97 hK97 => ?_
          refine gc_region ?_
          refine g_v (.free rfl) rfl rfl (qt_assign rfl rfl) ?_
          refine g_nil ?_
          refine gk_then (hK97 _ _ ?_)
          refine gc_block ?_
          try simp only [List.nil_append, List.cons_append, List.append_assoc, List.set_cons_succ, List.set_cons_zero]
          refine gc_loop ([(0, _), (1, _), (2, _), (3, _), (6, _), (7, _), (8, _), (9, _), (10, _), (11, _), (25, _), (47, _)] : Env) (fun s : Nat × (Option Addr) × Nat => (fun (l : Nat) (b : Option Addr) (r : Nat) => ([(12, .slice b (tabTo (fun i => rnV c ys (at0 (bkL ys ys.length) (k : Int)) (at0 (bkL ys ys.length) (i : Int))) l).length r), (13, .int .i64 (l : Int))] : Env)) s.1 s.2.1 s.2.2) (fun s : Nat × (Option Addr) × Nat => (fun (l : Nat) (b : Option Addr) (r : Nat) => ([(11, own1I (.slice b (tabTo (fun i => rnV c ys (at0 (bkL ys ys.length) (k : Int)) (at0 (bkL ys ys.length) (i : Int))) l).length r) (tabTo (fun i => rnV c ys (at0 (bkL ys ys.length) (k : Int)) (at0 (bkL ys ys.length) (i : Int))) l))] : List (Nat × Itm))) s.1 s.2.1 s.2.2) (fun s : Nat × (Option Addr) × Nat => (fun (l : Nat) (b : Option Addr) (r : Nat) => l ≤ c.s.length) s.1 s.2.1 s.2.2) (fun s : Nat × (Option Addr) × Nat => (fun (l : Nat) (b : Option Addr) (r : Nat) => c.s.length - l) s.1 s.2.1 s.2.2) (0, _, _) (sub_cons rfl (sub_cons rfl (sub_cons rfl (sub_cons rfl (sub_cons rfl (sub_cons rfl (sub_cons rfl (sub_cons rfl (sub_cons rfl (sub_cons rfl (sub_cons rfl (sub_cons rfl (sub_cons rfl (sub_cons rfl sub_nil)))))))))))))) rfl (Nat.zero_le _) ?_
          rintro ⟨l, b, r⟩ hinv KL98 hKL98
          simp only [updL, List.foldl_cons, List.foldl_nil, List.set_cons_succ, List.set_cons_zero, List.cons_append, List.nil_append] at hinv hKL98 ⊢
          have hl := hinv
          have hlw := tabTo_len (fun i => rnV c ys (at0 (bkL ys ys.length) (k : Int)) (at0 (bkL ys ys.length) (i : Int))) l
          refine gc_seq fun K99 hK99 => ?_
          refine gc_seq fun K100 hK100 => ?_
          refine gc_region ?_
          refine g_v (.free rfl) rfl rfl (qt_move rfl rfl) ?_
          refine g_v (.free rfl) rfl rfl (qt_move rfl rfl) ?_
          refine g_v (.free rfl) rfl rfl (qt_len rfl rfl ulE1 (fun w M => lenV_own1 (n := 3) rfl M)) ?_
          refine g_v (.free rfl) rfl rfl (qt_lss rfl rfl rfl) ?_
          refine g_nil ?_
          refine gk_then (hK100 _ _ ?_)
          refine gc_cond rfl (fun hc4 => ?_) (fun hc4 => ?_)
          · try simp only [decide_eq_true_eq, decide_eq_false_iff_not, Bool.not_eq_true', Bool.not_eq_false', Bool.not_eq_eq_eq_not, Bool.not_true, Bool.not_false, ne_eq, Decidable.not_not, Classical.not_not] at hc4
            refine gc_skip ?_
            refine gk_then (hK99 _ _ ?_)
            refine gc_seq fun K101 hK101 => ?_
            refine gc_block ?_
            refine gc_seq fun K102 hK102 => ?_
            have hg := Ba.at (j := l) (by omega)
            have hg1 := hg.1; have hg2 := hg.2.1
            have hth := th_rngI hS hb1 (by omega) hg1 (by omega)
            have ht1 := hth.1; have ht2 := hth.2
            simp only [Cat.th] at ht1 ht2
            refine gc_draw (by kernel_rfl) ?_
            refine gd_v (.free rfl) rfl rfl (qt_field (z := 0) (off := 4) rfl rfl Try.underlying27 rfl (by kernel_rfl) rfl) ?_
            refine gd_v (.free rfl) rfl rfl (qt_loadB (n := 0) rfl rfl Try.underlying23 rfl rfl rfl) ?_
            refine gd_v (.free rfl) rfl rfl (qt_move rfl rfl) ?_
            refine gd_v (.free rfl) rfl rfl (qt_move rfl rfl) ?_
            refine gd_v (.free rfl) rfl rfl (qt_index rfl rfl rfl ulE1 szE1 (fun w M => lenA_own1 (n := 3) rfl M) (by omega) (by omega)) ?_
            refine gd_v (.free rfl) rfl rfl (qt_load1 rfl rfl Try.underlying2 rfl (fun w M => (mem_own1 (n := 3) M rfl).rd) (by omega) (by omega)) ?_
            refine gd_v (.free rfl) rfl rfl (qt_index rfl rfl rfl ulE2 szE2 (fun w M => lenA_rd2 h4) (by omega) (by omega)) ?_
            refine gd_load2 (.free rfl) rfl rfl rfl rfl Try.underlying22 rfl h4 (by omega) (by omega) ?_
            intro ra103 rc103 hr103
            refine gd_v (.free rfl) rfl rfl (qt_move rfl rfl) ?_
            refine gd_v (.free rfl) rfl rfl (qt_move rfl rfl) ?_
            refine gd_v (.free rfl) rfl rfl (qt_index rfl rfl rfl ulE1 szE1 (fun w M => lenA_own1 (n := 3) rfl M) (by omega) (by omega)) ?_
            refine gd_v (.free rfl) rfl rfl (qt_load1 rfl rfl Try.underlying2 rfl (fun w M => (mem_own1 (n := 3) M rfl).rd) (by omega) (by omega)) ?_
            refine gd_v (.free rfl) rfl rfl (qt_index rfl rfl rfl ulE1 szE1 (fun w M => lenA_rd hr103) (by omega) (by omega)) ?_
            refine gd_v (.free rfl) rfl rfl (qt_load1 rfl rfl Try.underlying2 rfl (fun w M => mem_rd M hr103) (by omega) (by omega)) ?_
            refine gd_v (.free rfl) rfl rfl (qt_assign rfl rfl) ?_
            refine gd_nil ?_
            refine gk_then (hK102 _ _ ?_)
            refine gc_seq fun K104 hK104 => ?_
            refine gc_seq fun K105 hK105 => ?_
            refine gc_region ?_
            refine g_v (.free rfl) rfl rfl (qt_move rfl rfl) ?_
            refine g_v (.free rfl) rfl rfl (qt_geq rfl rfl rfl) ?_
            refine g_nil ?_
            refine gk_then (hK105 _ _ ?_)
            refine gc_cond rfl (fun hc5 => ?_) (fun hc5 => ?_)
            · try simp only [decide_eq_true_eq, decide_eq_false_iff_not, Bool.not_eq_true', Bool.not_eq_false', Bool.not_eq_eq_eq_not, Bool.not_true, Bool.not_false, ne_eq, Decidable.not_not, Classical.not_not] at hc5
              refine gc_region ?_
              refine g_v (.free rfl) rfl rfl (qt_move rfl rfl) ?_
              refine g_v (.free rfl) rfl rfl (qt_move rfl rfl) ?_
              refine g_v (.free rfl) rfl rfl (qt_index rfl rfl rfl ulE1 szE1 (fun w M => lenA_rd ha) (by omega) (by omega)) ?_
              refine g_v (.free rfl) rfl rfl (qt_load1 rfl rfl Try.underlying2 rfl (fun w M => mem_rd M ha) (by omega) (by omega)) ?_
              refine g_v (.free rfl) rfl rfl (qt_assign rfl rfl) ?_
              refine g_nil ?_
              refine gk_then (hK104 _ _ ?_)
              refine gc_region ?_
              refine g_v (.free rfl) rfl rfl (qt_move rfl rfl) ?_
              refine g_v (.free rfl) rfl rfl (qt_move rfl rfl) ?_
              refine g_op (.free rfl) fun K107 hK107 => ?_
              refine go_slice1 rfl rfl rfl rfl Try.underlying22 ?_
              intro B106
              refine hK107 _ _ ?_
              refine g_op (.free rfl) fun K109 hK109 => ?_
              refine go_append (n := 11) (m := 12) rfl rfl rfl Try.underlying22 rfl rfl rfl rfl (by omega) ?_
              intro va108 vc108
              refine hK109 _ _ ?_
              refine g_v (.free rfl) rfl rfl (qt_assign rfl rfl) ?_
              refine g_nil ?_
              refine gk_block ?_
              refine gk_then (hK101 _ _ ?_)
              refine gc_region ?_
              refine g_v (.free rfl) rfl rfl (qt_move rfl rfl) ?_
              refine g_v (.free rfl) rfl rfl (qt_add rfl rfl rfl (by omega)) ?_
              refine g_v (.free rfl) rfl rfl (qt_assign rfl rfl) ?_
              refine g_nil ?_
              rw [rnV_t (c := c) (ys := ys) (f := at0 (bkL ys ys.length) (k : Int)) (g := at0 (bkL ys ys.length) (l : Int)) (fun e => by simp only [Cat.th] at e; omega), tabTo_succ (fun i => rnV c ys (at0 (bkL ys ys.length) (k : Int)) (at0 (bkL ys ys.length) (i : Int))) l]
              refine gk_then (gk_take 12 ?_)
              refine gk_sub ?hs_110 (hKL98 (l + 1, _, _) ?hi_110 ?hm_110)
              case hs_110 => exact (sub_cons rfl (sub_cons rfl (sub_cons rfl (sub_cons rfl (sub_cons rfl (sub_cons rfl (sub_cons rfl (sub_cons rfl (sub_cons rfl (sub_cons rfl (sub_cons rfl (sub_cons rfl (sub_cons rfl (sub_cons rfl sub_nil))))))))))))))
              case hi_110 => omega
              case hm_110 => omega
            · try simp only [decide_eq_true_eq, decide_eq_false_iff_not, Bool.not_eq_true', Bool.not_eq_false', Bool.not_eq_eq_eq_not, Bool.not_true, Bool.not_false, ne_eq, Decidable.not_not, Classical.not_not] at hc5
              refine gc_skip ?_
              refine gk_then (hK104 _ _ ?_)
              refine gc_region ?_
              refine g_v (.free rfl) rfl rfl (qt_move rfl rfl) ?_
              refine g_v (.free rfl) rfl rfl (qt_move rfl rfl) ?_
              refine g_op (.free rfl) fun K112 hK112 => ?_
              refine go_slice1 rfl rfl rfl rfl Try.underlying22 ?_
              intro B111
              refine hK112 _ _ ?_
              refine g_op (.free rfl) fun K114 hK114 => ?_
              refine go_append (n := 11) (m := 12) rfl rfl rfl Try.underlying22 rfl rfl rfl rfl (by omega) ?_
              intro va113 vc113
              refine hK114 _ _ ?_
              refine g_v (.free rfl) rfl rfl (qt_assign rfl rfl) ?_
              refine g_nil ?_
              refine gk_block ?_
              refine gk_then (hK101 _ _ ?_)
              refine gc_region ?_
              refine g_v (.free rfl) rfl rfl (qt_move rfl rfl) ?_
              refine g_v (.free rfl) rfl rfl (qt_add rfl rfl rfl (by omega)) ?_
              refine g_v (.free rfl) rfl rfl (qt_assign rfl rfl) ?_
              refine g_nil ?_
              rw [rnV_n' (c := c) (ys := ys) (f := at0 (bkL ys ys.length) (k : Int)) (g := at0 (bkL ys ys.length) (l : Int)) (by simp only [Cat.th]; omega), tabTo_succ (fun i => rnV c ys (at0 (bkL ys ys.length) (k : Int)) (at0 (bkL ys ys.length) (i : Int))) l]
              refine gk_then (gk_take 12 ?_)
              refine gk_sub ?hs_115 (hKL98 (l + 1, _, _) ?hi_115 ?hm_115)
              case hs_115 => exact (sub_cons rfl (sub_cons rfl (sub_cons rfl (sub_cons rfl (sub_cons rfl (sub_cons rfl (sub_cons rfl (sub_cons rfl (sub_cons rfl (sub_cons rfl (sub_cons rfl (sub_cons rfl (sub_cons rfl (sub_cons rfl sub_nil))))))))))))))
              case hi_115 => omega
              case hm_115 => omega
          · try simp only [decide_eq_true_eq, decide_eq_false_iff_not, Bool.not_eq_true', Bool.not_eq_false', Bool.not_eq_eq_eq_not, Bool.not_true, Bool.not_false, ne_eq, Decidable.not_not, Classical.not_not] at hc4
            refine gc_exit ?_
            refine gk_then_exit ?_
            refine gk_then_exit ?_
            refine gk_block_hit ?_
            refine gk_then (hK96 _ _ ?_)
            refine gc_region ?_
            refine g_v (.free rfl) rfl rfl (qt_field (z := 0) (off := 4) rfl rfl Try.underlying27 rfl (by kernel_rfl) rfl) ?_
            refine g_v (.free rfl) rfl rfl (qt_loadB (n := 4) rfl rfl Try.underlying23 rfl rfl rfl) ?_
            refine g_v (.free rfl) rfl rfl (qt_move rfl rfl) ?_
            refine g_op (.free rfl) fun K117 hK117 => ?_
            refine go_sliceR1 (m := 11) rfl rfl rfl rfl Try.underlying23 rfl ?_
            intro B116
            refine hK117 _ _ ?_
            refine g_op (.free rfl) fun K119 hK119 => ?_
            refine go_appendRow (n := 8) (m := 11) (m' := 10) rfl rfl rfl Try.underlying23 rfl rfl rfl rfl rfl (by omega) ?_
            intro va118 vc118
            refine hK119 _ _ ?_
            refine g_v (.free rfl) rfl rfl (qt_field (z := 0) (off := 4) rfl rfl Try.underlying27 rfl (by kernel_rfl) rfl) ?_
            refine g_op (.free rfl) fun K120 hK120 => ?_
            refine go_storeB (n := 4) rfl rfl rfl rfl (by kernel_rfl) rfl rfl rfl (by first | decide | simp) ?_
            refine hK120 _ _ ?_
            refine g_nil ?_
            refine gk_block ?_
            refine gk_then (hK41 _ _ ?_)
            refine gc_region ?_
            refine g_v (.free rfl) rfl rfl (qt_move rfl rfl) ?_
            refine g_v (.free rfl) rfl rfl (qt_add rfl rfl rfl (by omega)) ?_
            refine g_v (.free rfl) rfl rfl (qt_assign rfl rfl) ?_
            refine g_nil ?_
            obtain rfl : l = c.s.length := by omega
            rw [tabTo_succ (fun j => at0 xs (at0 c.s (at0 (bkL ys ys.length) (j : Int)))) k, tabTo_succ (fun j => at0 xs (at0 c.t (at0 (bkL ys ys.length) (j : Int)))) k, rowsTo_succ (fun j => tabTo (fun i => rnV c ys (at0 (bkL ys ys.length) (j : Int)) (at0 (bkL ys ys.length) (i : Int))) c.s.length) k]
            refine gk_then (gk_take 9 ?_)
            refine gk_sub ?hs_121 (hKL38 (k + 1, _, _, _, _, _, _, _) ?hi_121 ?hm_121)
            case hs_121 => exact (sub_cons rfl (sub_cons rfl (sub_cons rfl (sub_cons rfl (sub_cons rfl (sub_cons rfl (sub_cons rfl (sub_cons rfl (sub_cons rfl (sub_cons rfl (sub_cons rfl sub_nil)))))))))))
            case hi_121 => omega
            case hm_121 => omega
      · refine go_slice1 rfl rfl rfl rfl Try.underlying22 ?_
        intro B122
        refine hK43 _ _ (fun w M => (mem_erase 4 (mem_erase 6 (mem_take 9 M)) :)) ?_
        refine ga_op 1 (by kernel_rfl) rfl (.free rfl) fun K124 hK124 => ?_
        refine go_v rfl rfl (qt_loadB (n := 4) rfl rfl Try.underlying22 rfl rfl rfl) ?_
        refine hK124 _ _ (fun w M => (mem_erase 4 (mem_erase 6 (mem_take 9 M)) :)) ?_
        refine ga_op 14 (by kernel_rfl) rfl (.free rfl) fun K126 hK126 => ?_
        refine go_append (n := 6) (m := 9) rfl rfl rfl Try.underlying22 rfl rfl rfl rfl (by omega) ?_
        intro va125 vc125
        refine hK126 _ _ (fun w M => (mem_erase 4 (mem_erase 6 (mem_take 9 M)) :)) ?_
        refine ga_v 15 rfl (by kernel_rfl) (by kernel_rfl) (by kernel_rfl) (.free rfl) rfl rfl (qt_field (z := 0) (off := 1) rfl rfl Try.underlying27 rfl (by kernel_rfl) rfl) (fun _ _ _ h => h) ?_
        refine ga_op 16 (by kernel_rfl) rfl (.free rfl) fun K127 hK127 => ?_
        refine go_storeB (n := 4) rfl rfl rfl rfl (by kernel_rfl) rfl rfl rfl (by first | decide | simp) ?_
        refine hK127 _ _ (fun w M => (mem_erase 4 (mem_erase 6 (mem_take 9 M)) :)) ?_
        refine ga_done (by kernel_rfl) ?_
        refine gk_then (hK42 _ _ ?_)
        refine gc_seq fun K128 hK128 => ?_
        try simp only [List.nil_append, List.cons_append, List.append_assoc, List.set_cons_succ, List.set_cons_zero]
        refine ga_start _ (fun w M => mem_erase 4 (mem_erase 7 (M))) ?_
        refine ga_v 0 rfl (by kernel_rfl) (by kernel_rfl) (by kernel_rfl) (.free rfl) rfl rfl (qt_field (z := 0) (off := 2) rfl rfl Try.underlying27 rfl (by kernel_rfl) rfl) (fun _ _ _ h => h) ?_
        refine ga_v 2 rfl (by kernel_rfl) (by kernel_rfl) (by kernel_rfl) (.free rfl) rfl rfl (qt_move rfl rfl) (fun _ _ _ h => h) ?_
        refine ga_v 3 rfl (by kernel_rfl) (by kernel_rfl) (by kernel_rfl) (.free rfl) rfl rfl (qt_field (z := 0) (off := 2) rfl rfl Try.underlying27 rfl (by kernel_rfl) rfl) (fun _ _ _ h => h) ?_
        refine ga_v 4 rfl (by kernel_rfl) (by kernel_rfl) (by kernel_rfl) (.free rfl) rfl rfl (qt_loadB (n := 0) rfl rfl Try.underlying22 rfl rfl rfl) (fun _ _ _ h => h) ?_
        refine ga_v 5 rfl (by kernel_rfl) (by kernel_rfl) (by kernel_rfl) (.free rfl) rfl rfl (qt_move rfl rfl) (fun _ _ _ h => h) ?_
        refine ga_v 6 rfl (by kernel_rfl) (by kernel_rfl) (by kernel_rfl) (.free rfl) rfl rfl (qt_move rfl rfl) (fun _ _ _ h => h) ?_
        refine ga_v 7 rfl (by kernel_rfl) (by kernel_rfl) (by kernel_rfl) (.free rfl) rfl rfl (qt_index rfl rfl rfl ulE1 szE1 (fun w M => lenA_own1 (n := 3) rfl M) (by omega) (by omega)) (fun _ _ _ h => h) ?_
        refine ga_v 8 rfl (by kernel_rfl) (by kernel_rfl) (by kernel_rfl) (.free rfl) rfl rfl (qt_load1 rfl rfl Try.underlying2 rfl (fun w M => (mem_own1 (n := 3) M rfl).rd) (by omega) (by omega)) (fun _ _ _ h => h) ?_
        refine ga_v 9 rfl (by kernel_rfl) (by kernel_rfl) (by kernel_rfl) (.free rfl) rfl rfl (qt_index rfl rfl rfl ulE1 szE1 (fun w M => lenA_rd h2) (by omega) (by omega)) (fun _ _ _ h => h) ?_
        refine ga_v 10 rfl (by kernel_rfl) (by kernel_rfl) (by kernel_rfl) (.free rfl) rfl rfl (qt_load1 rfl rfl Try.underlying2 rfl (fun w M => mem_rd M h2) (by omega) (by omega)) (fun _ _ _ h => h) ?_
        refine ga_v 11 rfl (by kernel_rfl) (by kernel_rfl) (by kernel_rfl) (.free rfl) rfl rfl (qt_index rfl rfl rfl ulE1 szE1 (fun w M => lenA_rd ho) (by omega) (by omega)) (fun _ _ _ h => h) ?_
        refine ga_v 12 rfl (by kernel_rfl) (by kernel_rfl) (by kernel_rfl) (.free rfl) rfl rfl (qt_load1 rfl rfl Try.underlying2 rfl (fun w M => mem_rd M ho) (by omega) (by omega)) (fun _ _ _ h => h) ?_
        refine ga_two 1 13 (by kernel_rfl) rfl rfl (.free rfl) (.free rfl) (fun K129 hK129 => ?_) (fun K129 hK129 => ?_)
        · refine go_v rfl rfl (qt_loadB (n := 4) rfl rfl Try.underlying22 rfl rfl rfl) ?_
          refine hK129 _ _ (fun w M => (mem_erase 4 (mem_erase 7 (mem_take 10 M)) :)) ?_
          refine ga_op 13 (by kernel_rfl) rfl (.free rfl) fun K132 hK132 => ?_
          refine go_slice1 rfl rfl rfl rfl Try.underlying22 ?_
          intro B131
          refine hK132 _ _ (fun w M => (mem_erase 4 (mem_erase 7 (mem_take 10 M)) :)) ?_
          refine ga_op 14 (by kernel_rfl) rfl (.free rfl) fun K134 hK134 => ?_
          refine go_append (n := 7) (m := 10) rfl rfl rfl Try.underlying22 rfl rfl rfl rfl (by omega) ?_
          intro va133 vc133
          refine hK134 _ _ (fun w M => (mem_erase 4 (mem_erase 7 (mem_take 10 M)) :)) ?_
          refine ga_v 15 rfl (by kernel_rfl) (by kernel_rfl) (by kernel_rfl) (.free rfl) rfl rfl (qt_field (z := 0) (off := 2) rfl rfl Try.underlying27 rfl (by kernel_rfl) rfl) (fun _ _ _ h => h) ?_
          refine ga_op 16 (by kernel_rfl) rfl (.free rfl) fun K135 hK135 => ?_
          refine go_storeB (n := 4) rfl rfl rfl rfl (by kernel_rfl) rfl rfl rfl (by first | decide | simp) ?_
          refine hK135 _ _ (fun w M => (mem_erase 4 (mem_erase 7 (mem_take 10 M)) :)) ?_
          refine ga_done (by kernel_rfl) ?_
          refine gk_then (hK128 _ _ ?_)
          refine gc_seq fun K136 hK136 => ?_
          refine gc_region ?_
          refine g_op (.free rfl) fun K138 hK138 => ?_
          refine go_slice0 rfl rfl rfl Try.underlying22 ?_
          intro B137
          refine hK138 _ _ ?_
          refine g_v (.free rfl) rfl rfl (qt_assign rfl rfl) ?_
          refine g_nil ?_
          refine gk_then (hK136 _ _ ?_)
          refine gc_seq fun K139 hK139 => ?_
          refine gc_seq fun K140 hK140 => ?_
          refine gc_region ?_
          refine g_v (.free rfl) rfl rfl (qt_assign rfl rfl) ?_
          refine g_nil ?_
          refine gk_then (hK140 _ _ ?_)
          refine gc_block ?_
          try simp only [List.nil_append, List.cons_append, List.append_assoc, List.set_cons_succ, List.set_cons_zero]
          refine gc_loop ([(0, _), (1, _), (2, _), (3, _), (6, _), (7, _), (8, _), (9, _), (10, _), (11, _), (25, _), (47, _)] : Env) (fun s : Nat × (Option Addr) × Nat => (fun (l : Nat) (b : Option Addr) (r : Nat) => ([(12, .slice b (tabTo (fun i => rnV c ys (at0 (bkL ys ys.length) (k : Int)) (at0 (bkL ys ys.length) (i : Int))) l).length r), (13, .int .i64 (l : Int))] : Env)) s.1 s.2.1 s.2.2) (fun s : Nat × (Option Addr) × Nat => (fun (l : Nat) (b : Option Addr) (r : Nat) => ([(11, own1I (.slice b (tabTo (fun i => rnV c ys (at0 (bkL ys ys.length) (k : Int)) (at0 (bkL ys ys.length) (i : Int))) l).length r) (tabTo (fun i => rnV c ys (at0 (bkL ys ys.length) (k : Int)) (at0 (bkL ys ys.length) (i : Int))) l))] : List (Nat × Itm))) s.1 s.2.1 s.2.2) (fun s : Nat × (Option Addr) × Nat => (fun (l : Nat) (b : Option Addr) (r : Nat) => l ≤ c.s.length) s.1 s.2.1 s.2.2) (fun s : Nat × (Option Addr) × Nat => (fun (l : Nat) (b : Option Addr) (r : Nat) => c.s.length - l) s.1 s.2.1 s.2.2) (0, _, _) (sub_cons rfl (sub_cons rfl (sub_cons rfl (sub_cons rfl (sub_cons rfl (sub_cons rfl (sub_cons rfl (sub_cons rfl (sub_cons rfl (sub_cons rfl (sub_cons rfl (sub_cons rfl (sub_cons rfl (sub_cons rfl sub_nil)))))))))))))) rfl (Nat.zero_le _) ?_
          rintro ⟨l, b, r⟩ hinv KL141 hKL141
          simp only [updL, List.foldl_cons, List.foldl_nil, List.set_cons_succ, List.set_cons_zero, List.cons_append, List.nil_append] at hinv hKL141 ⊢
          have hl := hinv
          have hlw := tabTo_len (fun i => rnV c ys (at0 (bkL ys ys.length) (k : Int)) (at0 (bkL ys ys.length) (i : Int))) l
          refine gc_seq fun K142 hK142 => ?_
          refine gc_seq fun K143 hK143 => ?_
          refine gc_region ?_
          refine g_v (.free rfl) rfl rfl (qt_move rfl rfl) ?_
          refine g_v (.free rfl) rfl rfl (qt_move rfl rfl) ?_
          refine g_v (.free rfl) rfl rfl (qt_len rfl rfl ulE1 (fun w M => lenV_own1 (n := 3) rfl M)) ?_
          refine g_v (.free rfl) rfl rfl (qt_lss rfl rfl rfl) ?_
          refine g_nil ?_
          refine gk_then (hK143 _ _ ?_)
          refine gc_cond rfl (fun hc6 => ?_) (fun hc6 => ?_)
          · try simp only [decide_eq_true_eq, decide_eq_false_iff_not, Bool.not_eq_true', Bool.not_eq_false', Bool.not_eq_eq_eq_not, Bool.not_true, Bool.not_false, ne_eq, Decidable.not_not, Classical.not_not] at hc6
            refine gc_skip ?_
            refine gk_then (hK142 _ _ ?_)
            refine gc_seq fun K144 hK144 => ?_
            refine gc_block ?_
            refine gc_seq fun K145 hK145 => ?_
            have hg := Ba.at (j := l) (by omega)
            have hg1 := hg.1; have hg2 := hg.2.1
            have hth := th_rngI hS hb1 (by omega) hg1 (by omega)
            have ht1 := hth.1; have ht2 := hth.2
            simp only [Cat.th] at ht1 ht2
            refine gc_draw (by kernel_rfl) ?_
            refine gd_v (.free rfl) rfl rfl (qt_field (z := 0) (off := 4) rfl rfl Try.underlying27 rfl (by kernel_rfl) rfl) ?_
            refine gd_v (.free rfl) rfl rfl (qt_loadB (n := 0) rfl rfl Try.underlying23 rfl rfl rfl) ?_
            refine gd_v (.free rfl) rfl rfl (qt_move rfl rfl) ?_
            refine gd_v (.free rfl) rfl rfl (qt_move rfl rfl) ?_
            refine gd_v (.free rfl) rfl rfl (qt_index rfl rfl rfl ulE1 szE1 (fun w M => lenA_own1 (n := 3) rfl M) (by omega) (by omega)) ?_
            refine gd_v (.free rfl) rfl rfl (qt_load1 rfl rfl Try.underlying2 rfl (fun w M => (mem_own1 (n := 3) M rfl).rd) (by omega) (by omega)) ?_
            refine gd_v (.free rfl) rfl rfl (qt_index rfl rfl rfl ulE2 szE2 (fun w M => lenA_rd2 h4) (by omega) (by omega)) ?_
            refine gd_load2 (.free rfl) rfl rfl rfl rfl Try.underlying22 rfl h4 (by omega) (by omega) ?_
            intro ra146 rc146 hr146
            refine gd_v (.free rfl) rfl rfl (qt_move rfl rfl) ?_
            refine gd_v (.free rfl) rfl rfl (qt_move rfl rfl) ?_
            refine gd_v (.free rfl) rfl rfl (qt_index rfl rfl rfl ulE1 szE1 (fun w M => lenA_own1 (n := 3) rfl M) (by omega) (by omega)) ?_
            refine gd_v (.free rfl) rfl rfl (qt_load1 rfl rfl Try.underlying2 rfl (fun w M => (mem_own1 (n := 3) M rfl).rd) (by omega) (by omega)) ?_
            refine gd_v (.free rfl) rfl rfl (qt_index rfl rfl rfl ulE1 szE1 (fun w M => lenA_rd hr146) (by omega) (by omega)) ?_
            refine gd_v (.free rfl) rfl rfl (qt_load1 rfl rfl Try.underlying2 rfl (fun w M => mem_rd M hr146) (by omega) (by omega)) ?_
            refine gd_v (.free rfl) rfl rfl (qt_assign rfl rfl) ?_
            refine gd_nil ?_
            refine gk_then (hK145 _ _ ?_)
            refine gc_seq fun K147 hK147 => ?_
            refine gc_seq fun K148 hK148 => ?_
            refine gc_region ?_
            refine g_v (.free rfl) rfl rfl (qt_move rfl rfl) ?_
            refine g_v (.free rfl) rfl rfl (qt_geq rfl rfl rfl) ?_
            refine g_nil ?_
            refine gk_then (hK148 _ _ ?_)
            refine gc_cond rfl (fun hc7 => ?_) (fun hc7 => ?_)
            · try simp only [decide_eq_true_eq, decide_eq_false_iff_not, Bool.not_eq_true', Bool.not_eq_false', Bool.not_eq_eq_eq_not, Bool.not_true, Bool.not_false, ne_eq, Decidable.not_not, Classical.not_not] at hc7
              refine gc_region ?_
              refine g_v (.free rfl) rfl rfl (qt_move rfl rfl) ?_
              refine g_v (.free rfl) rfl rfl (qt_move rfl rfl) ?_
              refine g_v (.free rfl) rfl rfl (qt_index rfl rfl rfl ulE1 szE1 (fun w M => lenA_rd ha) (by omega) (by omega)) ?_
              refine g_v (.free rfl) rfl rfl (qt_load1 rfl rfl Try.underlying2 rfl (fun w M => mem_rd M ha) (by omega) (by omega)) ?_
              refine g_v (.free rfl) rfl rfl (qt_assign rfl rfl) ?_
              refine g_nil ?_
              refine gk_then (hK147 _ _ ?_)
              refine gc_region ?_
              refine g_v (.free rfl) rfl rfl (qt_move rfl rfl) ?_
              refine g_v (.free rfl) rfl rfl (qt_move rfl rfl) ?_
              refine g_op (.free rfl) fun K150 hK150 => ?_
              refine go_slice1 rfl rfl rfl rfl Try.underlying22 ?_
              intro B149
              refine hK150 _ _ ?_
              refine g_op (.free rfl) fun K152 hK152 => ?_
              refine go_append (n := 11) (m := 12) rfl rfl rfl Try.underlying22 rfl rfl rfl rfl (by omega) ?_
              intro va151 vc151
              refine hK152 _ _ ?_
              refine g_v (.free rfl) rfl rfl (qt_assign rfl rfl) ?_
              refine g_nil ?_
              refine gk_block ?_
              refine gk_then (hK144 _ _ ?_)
              refine gc_region ?_
              refine g_v (.free rfl) rfl rfl (qt_move rfl rfl) ?_
              refine g_v (.free rfl) rfl rfl (qt_add rfl rfl rfl (by omega)) ?_
              refine g_v (.free rfl) rfl rfl (qt_assign rfl rfl) ?_
              refine g_nil ?_
              rw [rnV_t (c := c) (ys := ys) (f := at0 (bkL ys ys.length) (k : Int)) (g := at0 (bkL ys ys.length) (l : Int)) (fun e => by simp only [Cat.th] at e; omega), tabTo_succ (fun i => rnV c ys (at0 (bkL ys ys.length) (k : Int)) (at0 (bkL ys ys.length) (i : Int))) l]
              refine gk_then (gk_take 12 ?_)
              refine gk_sub ?hs_153 (hKL141 (l + 1, _, _) ?hi_153 ?hm_153)
              case hs_153 => exact (sub_cons rfl (sub_cons rfl (sub_cons rfl (sub_cons rfl (sub_cons rfl (sub_cons rfl (sub_cons rfl (sub_cons rfl (sub_cons rfl (sub_cons rfl (sub_cons rfl (sub_cons rfl (sub_cons rfl (sub_cons rfl sub_nil))))))))))))))
              case hi_153 => omega
              case hm_153 => omega
            · try simp only [decide_eq_true_eq, decide_eq_false_iff_not, Bool.not_eq_true', Bool.not_eq_false', Bool.not_eq_eq_eq_not, Bool.not_true, Bool.not_false, ne_eq, Decidable.not_not, Classical.not_not] at hc7
              refine gc_skip ?_
              refine gk_then (hK147 _ _ ?_)
              refine gc_region ?_
              refine g_v (.free rfl) rfl rfl (qt_move rfl rfl) ?_
              refine g_v (.free rfl) rfl rfl (qt_move rfl rfl) ?_
              refine g_op (.free rfl) fun K155 hK155 => ?_
              refine go_slice1 rfl rfl rfl rfl Try.underlying22 ?_
              intro B154
              refine hK155 _ _ ?_
              refine g_op (.free rfl) fun K157 hK157 => ?_
              refine go_append (n := 11) (m := 12) rfl rfl rfl Try.underlying22 rfl rfl rfl rfl (by omega) ?_
              intro va156 vc156
              refine hK157 _ _ ?_
              refine g_v (.free rfl) rfl rfl (qt_assign rfl rfl) ?_
              refine g_nil ?_
              refine gk_block ?_
              refine gk_then (hK144 _ _ ?_)
              refine gc_region ?_
              refine g_v (.free rfl) rfl rfl (qt_move rfl rfl) ?_
              refine g_v (.free rfl) rfl rfl (qt_add rfl rfl rfl (by omega)) ?_
              refine g_v (.free rfl) rfl rfl (qt_assign rfl rfl) ?_
              refine g_nil ?_
              rw [rnV_n' (c := c) (ys := ys) (f := at0 (bkL ys ys.length) (k : Int)) (g := at0 (bkL ys ys.length) (l : Int)) (by simp only [Cat.th]; omega), tabTo_succ (fun i => rnV c ys (at0 (bkL ys ys.length) (k : Int)) (at0 (bkL ys ys.length) (i : Int))) l]
              refine gk_then (gk_take 12 ?_)
              refine gk_sub ?hs_158 (hKL141 (l + 1, _, _) ?hi_158 ?hm_158)
              case hs_158 => exact (sub_cons rfl (sub_cons rfl (sub_cons rfl (sub_cons rfl (sub_cons rfl (sub_cons rfl (sub_cons rfl (sub_cons rfl (sub_cons rfl (sub_cons rfl (sub_cons rfl (sub_cons rfl (sub_cons rfl (sub_cons rfl sub_nil))))))))))))))
              case hi_158 => omega
              case hm_158 => omega
          · try simp only [decide_eq_true_eq, decide_eq_false_iff_not, Bool.not_eq_true', Bool.not_eq_false', Bool.not_eq_eq_eq_not, Bool.not_true, Bool.not_false, ne_eq, Decidable.not_not, Classical.not_not] at hc6
            refine gc_exit ?_
            refine gk_then_exit ?_
            refine gk_then_exit ?_
            refine gk_block_hit ?_
            refine gk_then (hK139 _ _ ?_)
            refine gc_region ?_
            refine g_v (.free rfl) rfl rfl (qt_field (z := 0) (off := 4) rfl rfl Try.underlying27 rfl (by kernel_rfl) rfl) ?_
            refine g_v (.free rfl) rfl rfl (qt_loadB (n := 4) rfl rfl Try.underlying23 rfl rfl rfl) ?_
            refine g_v (.free rfl) rfl rfl (qt_move rfl rfl) ?_
            refine g_op (.free rfl) fun K160 hK160 => ?_
            refine go_sliceR1 (m := 11) rfl rfl rfl rfl Try.underlying23 rfl ?_
            intro B159
            refine hK160 _ _ ?_
            refine g_op (.free rfl) fun K162 hK162 => ?_
            refine go_appendRow (n := 8) (m := 11) (m' := 10) rfl rfl rfl Try.underlying23 rfl rfl rfl rfl rfl (by omega) ?_
            intro va161 vc161
            refine hK162 _ _ ?_
            refine g_v (.free rfl) rfl rfl (qt_field (z := 0) (off := 4) rfl rfl Try.underlying27 rfl (by kernel_rfl) rfl) ?_
            refine g_op (.free rfl) fun K163 hK163 => ?_
            refine go_storeB (n := 4) rfl rfl rfl rfl (by kernel_rfl) rfl rfl rfl (by first | decide | simp) ?_
            refine hK163 _ _ ?_
            refine g_nil ?_
            refine gk_block ?_
            refine gk_then (hK41 _ _ ?_)
            refine gc_region ?_
            refine g_v (.free rfl) rfl rfl (qt_move rfl rfl) ?_
            refine g_v (.free rfl) rfl rfl (qt_add rfl rfl rfl (by omega)) ?_
            refine g_v (.free rfl) rfl rfl (qt_assign rfl rfl) ?_
            refine g_nil ?_
            obtain rfl : l = c.s.length := by omega
            rw [tabTo_succ (fun j => at0 xs (at0 c.s (at0 (bkL ys ys.length) (j : Int)))) k, tabTo_succ (fun j => at0 xs (at0 c.t (at0 (bkL ys ys.length) (j : Int)))) k, rowsTo_succ (fun j => tabTo (fun i => rnV c ys (at0 (bkL ys ys.length) (j : Int)) (at0 (bkL ys ys.length) (i : Int))) c.s.length) k]
            refine gk_then (gk_take 9 ?_)
            refine gk_sub ?hs_164 (hKL38 (k + 1, _, _, _, _, _, _, _) ?hi_164 ?hm_164)
            case hs_164 => exact (sub_cons rfl (sub_cons rfl (sub_cons rfl (sub_cons rfl (sub_cons rfl (sub_cons rfl (sub_cons rfl (sub_cons rfl (sub_cons rfl (sub_cons rfl (sub_cons rfl sub_nil)))))))))))
            case hi_164 => omega
            case hm_164 => omega
        · refine go_slice1 rfl rfl rfl rfl Try.underlying22 ?_
          intro B165
          refine hK129 _ _ (fun w M => (mem_erase 4 (mem_erase 7 (mem_take 10 M)) :)) ?_
          refine ga_op 1 (by kernel_rfl) rfl (.free rfl) fun K167 hK167 => ?_
          refine go_v rfl rfl (qt_loadB (n := 4) rfl rfl Try.underlying22 rfl rfl rfl) ?_
          refine hK167 _ _ (fun w M => (mem_erase 4 (mem_erase 7 (mem_take 10 M)) :)) ?_
          refine ga_op 14 (by kernel_rfl) rfl (.free rfl) fun K169 hK169 => ?_
          refine go_append (n := 7) (m := 10) rfl rfl rfl Try.underlying22 rfl rfl rfl rfl (by omega) ?_
          intro va168 vc168
          refine hK169 _ _ (fun w M => (mem_erase 4 (mem_erase 7 (mem_take 10 M)) :)) ?_
          refine ga_v 15 rfl (by kernel_rfl) (by kernel_rfl) (by kernel_rfl) (.free rfl) rfl rfl (qt_field (z := 0) (off := 2) rfl rfl Try.underlying27 rfl (by kernel_rfl) rfl) (fun _ _ _ h => h) ?_
          refine ga_op 16 (by kernel_rfl) rfl (.free rfl) fun K170 hK170 => ?_
          refine go_storeB (n := 4) rfl rfl rfl rfl (by kernel_rfl) rfl rfl rfl (by first | decide | simp) ?_
          refine hK170 _ _ (fun w M => (mem_erase 4 (mem_erase 7 (mem_take 10 M)) :)) ?_
          refine ga_done (by kernel_rfl) ?_
          refine gk_then (hK128 _ _ ?_)
          refine gc_seq fun K171 hK171 => ?_
          refine gc_region ?_
          refine g_op (.free rfl) fun K173 hK173 => ?_
          refine go_slice0 rfl rfl rfl Try.underlying22 ?_
          intro B172
          refine hK173 _ _ ?_
          refine g_v (.free rfl) rfl rfl (qt_assign rfl rfl) ?_
          refine g_nil ?_
          refine gk_then (hK171 _ _ ?_)
          refine gc_seq fun K174 hK174 => ?_
          refine gc_seq fun K175 hK175 => ?_
          refine gc_region ?_
          refine g_v (.free rfl) rfl rfl (qt_assign rfl rfl) ?_
          refine g_nil ?_
          refine gk_then (hK175 _ _ ?_)
          refine gc_block ?_
          try simp only [List.nil_append, List.cons_append, List.append_assoc, List.set_cons_succ, List.set_cons_zero]
          refine gc_loop ([(0, _), (1, _), (2, _), (3, _), (6, _), (7, _), (8, _), (9, _), (10, _), (11, _), (25, _), (47, _)] : Env) (fun s : Nat × (Option Addr) × Nat => (fun (l : Nat) (b : Option Addr) (r : Nat) => ([(12, .slice b (tabTo (fun i => rnV c ys (at0 (bkL ys ys.length) (k : Int)) (at0 (bkL ys ys.length) (i : Int))) l).length r), (13, .int .i64 (l : Int))] : Env)) s.1 s.2.1 s.2.2) (fun s : Nat × (Option Addr) × Nat => (fun (l : Nat) (b : Option Addr) (r : Nat) => ([(11, own1I (.slice b (tabTo (fun i => rnV c ys (at0 (bkL ys ys.length) (k : Int)) (at0 (bkL ys ys.length) (i : Int))) l).length r) (tabTo (fun i => rnV c ys (at0 (bkL ys ys.length) (k : Int)) (at0 (bkL ys ys.length) (i : Int))) l))] : List (Nat × Itm))) s.1 s.2.1 s.2.2) (fun s : Nat × (Option Addr) × Nat => (fun (l : Nat) (b : Option Addr) (r : Nat) => l ≤ c.s.length) s.1 s.2.1 s.2.2) (fun s : Nat × (Option Addr) × Nat => (fun (l : Nat) (b : Option Addr) (r : Nat) => c.s.length - l) s.1 s.2.1 s.2.2) (0, _, _) (sub_cons rfl (sub_cons rfl (sub_cons rfl (sub_cons rfl (sub_cons rfl (sub_cons rfl (sub_cons rfl (sub_cons rfl (sub_cons rfl (sub_cons rfl (sub_cons rfl (sub_cons rfl (sub_cons rfl (sub_cons rfl sub_nil)))))))))))))) rfl (Nat.zero_le _) ?_
          rintro ⟨l, b, r⟩ hinv KL176 hKL176
          simp only [updL, List.foldl_cons, List.foldl_nil, List.set_cons_succ, List.set_cons_zero, List.cons_append, List.nil_append] at hinv hKL176 ⊢
          have hl := hinv
          have hlw := tabTo_len (fun i => rnV c ys (at0 (bkL ys ys.length) (k : Int)) (at0 (bkL ys ys.length) (i : Int))) l
          refine gc_seq fun K177 hK177 => ?_
          refine gc_seq fun K178 hK178 => ?_
          refine gc_region ?_
          refine g_v (.free rfl) rfl rfl (qt_move rfl rfl) ?_
          refine g_v (.free rfl) rfl rfl (qt_move rfl rfl) ?_
          refine g_v (.free rfl) rfl rfl (qt_len rfl rfl ulE1 (fun w M => lenV_own1 (n := 3) rfl M)) ?_
          refine g_v (.free rfl) rfl rfl (qt_lss rfl rfl rfl) ?_
          refine g_nil ?_
          refine gk_then (hK178 _ _ ?_)
          refine gc_cond rfl (fun hc8 => ?_) (fun hc8 => ?_)
          · try simp only [decide_eq_true_eq, decide_eq_false_iff_not, Bool.not_eq_true', Bool.not_eq_false', Bool.not_eq_eq_eq_not, Bool.not_true, Bool.not_false, ne_eq, Decidable.not_not, Classical.not_not] at hc8
            refine gc_skip ?_
            refine gk_then (hK177 _ _ ?_)
            refine gc_seq fun K179 hK179 => ?_
            refine gc_block ?_
            refine gc_seq fun K180 hK180 => ?_
            have hg := Ba.at (j := l) (by omega)
            have hg1 := hg.1; have hg2 := hg.2.1
            have hth := th_rngI hS hb1 (by omega) hg1 (by omega)
            have ht1 := hth.1; have ht2 := hth.2
            simp only [Cat.th] at ht1 ht2
            refine gc_draw (by kernel_rfl) ?_
            refine gd_v (.free rfl) rfl rfl (qt_field (z := 0) (off := 4) rfl rfl Try.underlying27 rfl (by kernel_rfl) rfl) ?_
            refine gd_v (.free rfl) rfl rfl (qt_loadB (n := 0) rfl rfl Try.underlying23 rfl rfl rfl) ?_
            refine gd_v (.free rfl) rfl rfl (qt_move rfl rfl) ?_
            refine gd_v (.free rfl) rfl rfl (qt_move rfl rfl) ?_
            refine gd_v (.free rfl) rfl rfl (qt_index rfl rfl rfl ulE1 szE1 (fun w M => lenA_own1 (n := 3) rfl M) (by omega) (by omega)) ?_
            refine gd_v (.free rfl) rfl rfl (qt_load1 rfl rfl Try.underlying2 rfl (fun w M => (mem_own1 (n := 3) M rfl).rd) (by omega) (by omega)) ?_
            refine gd_v (.free rfl) rfl rfl (qt_index rfl rfl rfl ulE2 szE2 (fun w M => lenA_rd2 h4) (by omega) (by omega)) ?_
            refine gd_load2 (.free rfl) rfl rfl rfl rfl Try.underlying22 rfl h4 (by omega) (by omega) ?_
            intro ra181 rc181 hr181
            refine gd_v (.free rfl) rfl rfl (qt_move rfl rfl) ?_
            refine gd_v (.free rfl) rfl rfl (qt_move rfl rfl) ?_
            refine gd_v (.free rfl) rfl rfl (qt_index rfl rfl rfl ulE1 szE1 (fun w M => lenA_own1 (n := 3) rfl M) (by omega) (by omega)) ?_
            refine gd_v (.free rfl) rfl rfl (qt_load1 rfl rfl Try.underlying2 rfl (fun w M => (mem_own1 (n := 3) M rfl).rd) (by omega) (by omega)) ?_
            refine gd_v (.free rfl) rfl rfl (qt_index rfl rfl rfl ulE1 szE1 (fun w M => lenA_rd hr181) (by omega) (by omega)) ?_
            refine gd_v (.free rfl) rfl rfl (qt_load1 rfl rfl Try.underlying2 rfl (fun w M => mem_rd M hr181) (by omega) (by omega)) ?_
            refine gd_v (.free rfl) rfl rfl (qt_assign rfl rfl) ?_
            refine gd_nil ?_
            refine gk_then (hK180 _ _ ?_)
            refine gc_seq fun K182 hK182 => ?_
            refine gc_seq fun K183 hK183 => ?_
            refine gc_region ?_
            refine g_v (.free rfl) rfl rfl (qt_move rfl rfl) ?_
            refine g_v (.free rfl) rfl rfl (qt_geq rfl rfl rfl) ?_
            refine g_nil ?_
            refine gk_then (hK183 _ _ ?_)
            refine gc_cond rfl (fun hc9 => ?_) (fun hc9 => ?_)
            · try simp only [decide_eq_true_eq, decide_eq_false_iff_not, Bool.not_eq_true', Bool.not_eq_false', Bool.not_eq_eq_eq_not, Bool.not_true, Bool.not_false, ne_eq, Decidable.not_not, Classical.not_not] at hc9
              refine gc_region ?_
              refine g_v (.free rfl) rfl rfl (qt_move rfl rfl) ?_
              refine g_v (.free rfl) rfl rfl (qt_move rfl rfl) ?_
              refine g_v (.free rfl) rfl rfl (qt_index rfl rfl rfl ulE1 szE1 (fun w M => lenA_rd ha) (by omega) (by omega)) ?_
              refine g_v (.free rfl) rfl rfl (qt_load1 rfl rfl Try.underlying2 rfl (fun w M => mem_rd M ha) (by omega) (by omega)) ?_
              refine g_v (.free rfl) rfl rfl (qt_assign rfl rfl) ?_
              refine g_nil ?_
              refine gk_then (hK182 _ _ ?_)
              refine gc_region ?_
              refine g_v (.free rfl) rfl rfl (qt_move rfl rfl) ?_
              refine g_v (.free rfl) rfl rfl (qt_move rfl rfl) ?_
              refine g_op (.free rfl) fun K185 hK185 => ?_
              refine go_slice1 rfl rfl rfl rfl Try.underlying22 ?_
              intro B184
              refine hK185 _ _ ?_
              refine g_op (.free rfl) fun K187 hK187 => ?_
              refine go_append (n := 11) (m := 12) rfl rfl rfl Try.underlying22 rfl rfl rfl rfl (by omega) ?_
              intro va186 vc186
              refine hK187 _ _ ?_
              refine g_v (.free rfl) rfl rfl (qt_assign rfl rfl) ?_
              refine g_nil ?_
              refine gk_block ?_
              refine gk_then (hK179 _ _ ?_)
              refine gc_region ?_
              refine g_v (.free rfl) rfl rfl (qt_move rfl rfl) ?_
              refine g_v (.free rfl) rfl rfl (qt_add rfl rfl rfl (by omega)) ?_
              refine g_v (.free rfl) rfl rfl (qt_assign rfl rfl) ?_
              refine g_nil ?_
              rw [rnV_t (c := c) (ys := ys) (f := at0 (bkL ys ys.length) (k : Int)) (g := at0 (bkL ys ys.length) (l : Int)) (fun e => by simp only [Cat.th] at e; omega), tabTo_succ (fun i => rnV c ys (at0 (bkL ys ys.length) (k : Int)) (at0 (bkL ys ys.length) (i : Int))) l]
              refine gk_then (gk_take 12 ?_)
              refine gk_sub ?hs_188 (hKL176 (l + 1, _, _) ?hi_188 ?hm_188)
              case hs_188 => exact (sub_cons rfl (sub_cons rfl (sub_cons rfl (sub_cons rfl (sub_cons rfl (sub_cons rfl (sub_cons rfl (sub_cons rfl (sub_cons rfl (sub_cons rfl (sub_cons rfl (sub_cons rfl (sub_cons rfl (sub_cons rfl sub_nil))))))))))))))
              case hi_188 => omega
              case hm_188 => omega
            · try simp only [decide_eq_true_eq, decide_eq_false_iff_not, Bool.not_eq_true', Bool.not_eq_false', Bool.not_eq_eq_eq_not, Bool.not_true, Bool.not_false, ne_eq, Decidable.not_not, Classical.not_not] at hc9
              refine gc_skip ?_
              refine gk_then (hK182 _ _ ?_)
              refine gc_region ?_
              refine g_v (.free rfl) rfl rfl (qt_move rfl rfl) ?_
              refine g_v (.free rfl) rfl rfl (qt_move rfl rfl) ?_
              refine g_op (.free rfl) fun K190 hK190 => ?_
              refine go_slice1 rfl rfl rfl rfl Try.underlying22 ?_
              intro B189
              refine hK190 _ _ ?_
              refine g_op (.free rfl) fun K192 hK192 => ?_
              refine go_append (n := 11) (m := 12) rfl rfl rfl Try.underlying22 rfl rfl rfl rfl (by omega) ?_
              intro va191 vc191
              refine hK192 _ _ ?_
              refine g_v (.free rfl) rfl rfl (qt_assign rfl rfl) ?_
              refine g_nil ?_
              refine gk_block ?_
              refine gk_then (hK179 _ _ ?_)
              refine gc_region ?_
              refine g_v (.free rfl) rfl rfl (qt_move rfl rfl) ?_
              refine g_v (.free rfl) rfl rfl (qt_add rfl rfl rfl (by omega)) ?_
              refine g_v (.free rfl) rfl rfl (qt_assign rfl rfl) ?_
              refine g_nil ?_
              rw [rnV_n' (c := c) (ys := ys) (f := at0 (bkL ys ys.length) (k : Int)) (g := at0 (bkL ys ys.length) (l : Int)) (by simp only [Cat.th]; omega), tabTo_succ (fun i => rnV c ys (at0 (bkL ys ys.length) (k : Int)) (at0 (bkL ys ys.length) (i : Int))) l]
              refine gk_then (gk_take 12 ?_)
              refine gk_sub ?hs_193 (hKL176 (l + 1, _, _) ?hi_193 ?hm_193)
              case hs_193 => exact (sub_cons rfl (sub_cons rfl (sub_cons rfl (sub_cons rfl (sub_cons rfl (sub_cons rfl (sub_cons rfl (sub_cons rfl (sub_cons rfl (sub_cons rfl (sub_cons rfl (sub_cons rfl (sub_cons rfl (sub_cons rfl sub_nil))))))))))))))
              case hi_193 => omega
              case hm_193 => omega
          · try simp only [decide_eq_true_eq, decide_eq_false_iff_not, Bool.not_eq_true', Bool.not_eq_false', Bool.not_eq_eq_eq_not, Bool.not_true, Bool.not_false, ne_eq, Decidable.not_not, Classical.not_not] at hc8
            refine gc_exit ?_
            refine gk_then_exit ?_
            refine gk_then_exit ?_
            refine gk_block_hit ?_
            refine gk_then (hK174 _ _ ?_)
            refine gc_region ?_
            refine g_v (.free rfl) rfl rfl (qt_field (z := 0) (off := 4) rfl rfl Try.underlying27 rfl (by kernel_rfl) rfl) ?_
            refine g_v (.free rfl) rfl rfl (qt_loadB (n := 4) rfl rfl Try.underlying23 rfl rfl rfl) ?_
            refine g_v (.free rfl) rfl rfl (qt_move rfl rfl) ?_
            refine g_op (.free rfl) fun K195 hK195 => ?_
            refine go_sliceR1 (m := 11) rfl rfl rfl rfl Try.underlying23 rfl ?_
            intro B194
            refine hK195 _ _ ?_
            refine g_op (.free rfl) fun K197 hK197 => ?_
            refine go_appendRow (n := 8) (m := 11) (m' := 10) rfl rfl rfl Try.underlying23 rfl rfl rfl rfl rfl (by omega) ?_
            intro va196 vc196
            refine hK197 _ _ ?_
            refine g_v (.free rfl) rfl rfl (qt_field (z := 0) (off := 4) rfl rfl Try.underlying27 rfl (by kernel_rfl) rfl) ?_
            refine g_op (.free rfl) fun K198 hK198 => ?_
            refine go_storeB (n := 4) rfl rfl rfl rfl (by kernel_rfl) rfl rfl rfl (by first | decide | simp) ?_
            refine hK198 _ _ ?_
            refine g_nil ?_
            refine gk_block ?_
            refine gk_then (hK41 _ _ ?_)
            refine gc_region ?_
            refine g_v (.free rfl) rfl rfl (qt_move rfl rfl) ?_
            refine g_v (.free rfl) rfl rfl (qt_add rfl rfl rfl (by omega)) ?_
            refine g_v (.free rfl) rfl rfl (qt_assign rfl rfl) ?_
            refine g_nil ?_
            obtain rfl : l = c.s.length := by omega
            rw [tabTo_succ (fun j => at0 xs (at0 c.s (at0 (bkL ys ys.length) (j : Int)))) k, tabTo_succ (fun j => at0 xs (at0 c.t (at0 (bkL ys ys.length) (j : Int)))) k, rowsTo_succ (fun j => tabTo (fun i => rnV c ys (at0 (bkL ys ys.length) (j : Int)) (at0 (bkL ys ys.length) (i : Int))) c.s.length) k]
            refine gk_then (gk_take 9 ?_)
            refine gk_sub ?hs_199 (hKL38 (k + 1, _, _, _, _, _, _, _) ?hi_199 ?hm_199)
            case hs_199 => exact (sub_cons rfl (sub_cons rfl (sub_cons rfl (sub_cons rfl (sub_cons rfl (sub_cons rfl (sub_cons rfl (sub_cons rfl (sub_cons rfl (sub_cons rfl (sub_cons rfl sub_nil)))))))))))
            case hi_199 => omega
            case hm_199 => omega
    · try simp only [decide_eq_true_eq, decide_eq_false_iff_not, Bool.not_eq_true', Bool.not_eq_false', Bool.not_eq_eq_eq_not, Bool.not_true, Bool.not_false, ne_eq, Decidable.not_not, Classical.not_not] at hc1
      refine gc_exit ?_
      refine gk_then_exit ?_
      refine gk_then_exit ?_
      refine gk_block_hit ?_
      refine gk_then (hK36 _ _ ?_)
      refine gc_seq fun K200 hK200 => ?_
      refine gc_region ?_
      refine g_v (.free rfl) rfl rfl (qt_loadS (n := 4) rfl rfl Try.underlying27 rfl (by kernel_rfl) rfl) ?_
      refine g_op (.free rfl) fun K201 hK201 => ?_
      refine go_storeS (n := 1) rfl rfl rfl rfl (by kernel_rfl) rfl rfl rfl ?_
      refine hK201 _ _ ?_
      refine g_nil ?_
      refine gk_then (hK200 _ _ ?_)
      refine gc_ret ?_
      refine ret_S (n := 1) rfl rfl Try.underlying27 rfl (by kernel_rfl) rfl (fun w M => ?_)
      obtain rfl : k = c.s.length := by omega
      exact ⟨_, rfl, ownC_star (c := rnC c xs ys) (mem_pick (n := 8) (mem_pick (n := 8) (mem_pick (n := 6) (mem_pick (n := 8) (M) rfl) rfl) rfl) rfl).2, M.1⟩

end Go.Proofs.Ytgkfampgofjkfaa
