
/- The kernel of a functor and faithful functors: both sides. -/
import Derived.Test.YtpfcfhjpgngneaaPartE
import Derived.Test.YtpfcfhjpgngneaaFunL
set_option linter.unusedSimpArgs false
set_option linter.unusedVariables false
set_option linter.unusedSectionVars false
namespace Go.Proofs.Ytpfcfhjpgngneaa
open Go.RowKit


def plF (F : Fct) (i : Nat) : Ent Int := (at0 F.S.s (i : Int), at0 F.S.t (i : Int), at0 F.a (i : Int))
def plE (F : Fct) : List (Ent Int) := entsTo (plF F) F.a.length
theorem plE_len (F : Fct) : (plE F).length = F.a.length := entsTo_len _ _
theorem plE_at {F : Fct} {k : Nat} (h : k < F.a.length) : atE (plE F) (k : Int) = plF F k := entsTo_at _ h
def sameL (F : Fct) (a b : Nat) : Prop := (at0 F.S.s (a : Int) = at0 F.S.s (b : Int) ∧ at0 F.S.t (a : Int) = at0 F.S.t (b : Int)) ∧ at0 F.a (a : Int) = at0 F.a (b : Int)
theorem sameL_iff {F : Fct} {a b : Nat} (ha : a < F.a.length) (hb : b < F.a.length) : atE (plE F) (a : Int) = atE (plE F) (b : Int) ↔ sameL F a b := by
  rw [plE_at ha, plE_at hb]
  unfold plF sameL
  constructor
  · intro h
    have h1 := congrArg (fun e => e.1) h; have h2 := congrArg (fun e => e.2.1) h; have h3 := congrArg (fun e => e.2.2) h
    exact ⟨⟨h1, h2⟩, h3⟩
  · rintro ⟨⟨h1, h2⟩, h3⟩; rw [h1, h2, h3]
def faithP (F : Fct) : Prop := ∀ a b : Nat, b < a → a < F.a.length → ¬ sameL F a b
theorem faith_iff {F : Fct} : (lstL (clsE (plE F)) (nC (clsE (plE F)) (clsE (plE F)).length)).length = F.a.length ↔ faithP F := by
  rw [clsE_count, ← plE_len F, seenE_all]
  constructor
  · intro h a b hb ha hs
    exact h a b hb (by rw [plE_len]; exact ha) ((sameL_iff ha (by omega)).2 hs)
  · intro h a b hb ha he
    rw [plE_len] at ha
    exact h a b hb ha ((sameL_iff ha (by omega)).1 he)
noncomputable def fIsFaithful (F : Fct) : Bool × Int := (askB F (bP (faithP F)), fctErr F)
noncomputable def fKernelCongruence (F : Fct) : List Int × Int := (askL F (clsE (plE F)), fctErr F)
noncomputable def krow (P : Nat → Nat → Prop) (i b : Nat) : List (List Int) := ((List.range b).filter fun (j : Nat) => bP (P i j)).map fun (j : Nat) => [((j : Nat) : Int), ((i : Nat) : Int)]
noncomputable def kpL (P : Nat → Nat → Prop) (a b : Nat) : List (List Int) := (List.range a).flatMap (fun i => krow P i i) ++ krow P a b
theorem kpL_t {P : Nat → Nat → Prop} {a b : Nat} (h : P a b) : kpL P a b ++ [[(b : Int), (a : Int)]] = kpL P a (b + 1) := by simp [kpL, krow, List.range_succ, bP_t h]
theorem kpL_f {P : Nat → Nat → Prop} {a b : Nat} (h : ¬ P a b) : kpL P a b = kpL P a (b + 1) := by simp [kpL, krow, List.range_succ, bP_f h]
theorem kpL_row (P : Nat → Nat → Prop) (a : Nat) : kpL P a a = kpL P (a + 1) 0 := by simp [kpL, krow, List.range_succ]
theorem kpL_zero (P : Nat → Nat → Prop) : kpL P 0 0 = [] := by simp [kpL, krow]
theorem krow_len (P : Nat → Nat → Prop) (i b : Nat) : (krow P i b).length ≤ b := by
  unfold krow; rw [List.length_map]
  have := List.length_filter_le (fun j => bP (P i j)) (List.range b); simpa using this
theorem kpL_len (P : Nat → Nat → Prop) : ∀ {a b : Nat}, a ≤ 40 → b ≤ 40 → (kpL P a b).length ≤ a * 40 + b := by
  intro a b ha hb
  unfold kpL
  rw [List.length_append]
  have h2 := krow_len P a b
  have h1 : ∀ k, k ≤ 40 → ((List.range k).flatMap (fun i => krow P i i)).length ≤ k * 40 := by
    intro k
    induction k with
    | zero => intro _; simp
    | succ k ih =>
      intro hk
      have := ih (by omega); have h3 := krow_len P k k
      have e : ([k].flatMap (fun i => krow P i i)).length = (krow P k k).length := by simp
      rw [List.range_succ, List.flatMap_append, List.length_append, Nat.succ_mul, e]; omega
  have := h1 a ha; omega
theorem kpL_mem {P : Nat → Nat → Prop} {n : Nat} {q : List Int} : q ∈ kpL P n 0 ↔ ∃ i j, i < n ∧ j < i ∧ P i j ∧ q = [(j : Int), (i : Int)] := by
  simp only [kpL, krow, List.range_zero, List.filter_nil, List.map_nil, List.append_nil, List.mem_flatMap, List.mem_range, List.mem_map, List.mem_filter]
  constructor
  · rintro ⟨i, hi, j, ⟨hj, hp⟩, rfl⟩; exact ⟨i, j, hi, hj, bP_iff.1 hp, rfl⟩
  · rintro ⟨i, j, hi, hj, hp, rfl⟩; exact ⟨i, hi, j, ⟨hj, bP_t hp⟩, rfl⟩
theorem kpL_pair {P : Nat → Nat → Prop} {n : Nat} : ∀ q ∈ kpL P n 0, PairP n q := by
  intro q hq
  obtain ⟨i, j, hi, hj, _, rfl⟩ := kpL_mem.1 hq
  refine ⟨rfl, fun x hx => ?_⟩
  rcases List.mem_cons.1 hx with rfl | hx
  · omega
  · rw [List.mem_singleton.1 hx]; omega
theorem ker_join {F : Fct} : clsOf (specL F.a.length (kpL (sameL F) F.a.length 0)) = clsE (plE F) := by
  have hl : (clsE (plE F)).length = F.a.length := by rw [clsE_len, plE_len]
  refine cls_self hl (clsE_proper _) fun i j hi hj => ?_
  constructor
  · intro h
    refine relL_univ (r := fun i j => (clsE (plE F)).getD i 0 = (clsE (plE F)).getD j 0) kpL_pair ⟨fun _ => rfl, fun h => h.symm, fun h h' => h.trans h'⟩ (fun q hq => ?_) hi hj h
    obtain ⟨a, b, ha, hb, hp, rfl⟩ := kpL_mem.1 hq
    show (clsE (plE F)).getD ((b : Int)).toNat 0 = (clsE (plE F)).getD ((a : Int)).toNat 0
    rw [Int.toNat_natCast, Int.toNat_natCast, clsE_eq (by rw [plE_len]; omega) (by rw [plE_len]; omega)]
    exact ((sameL_iff ha (by omega)).2 hp).symm
  · intro h
    rw [clsE_eq (by rw [plE_len]; omega) (by rw [plE_len]; omega)] at h
    rcases Nat.lt_trichotomy i j with hij | hij | hij
    · have hp := (sameL_iff (F := F) hj hi).1 h.symm
      have := relL_has (n := F.a.length) kpL_pair (kpL_mem.2 ⟨j, i, hj, hij, hp, rfl⟩)
      simpa [pa, pb] using this
    · subst hij; rfl
    · have hp := (sameL_iff (F := F) hi hj).1 h
      have := relL_has (n := F.a.length) kpL_pair (kpL_mem.2 ⟨i, j, hi, hij, hp, rfl⟩)
      exact ((relL_eqv _ _).symm (by simpa [pa, pb] using this))


theorem fillE_st {F : Fct} {k : Nat} (h : k < F.a.length) : (fillE (plF F) F.a.length k).set ((k : Int)).toNat (at0 F.S.s (k : Int), at0 F.S.t (k : Int), at0 F.a (k : Int)) = fillE (plF F) F.a.length (k + 1) := fillE_set (plF F) h

set_option maxHeartbeats 1000000 in
set_option maxRecDepth 100000 in
theorem placed_any (w : World) (v : Value) (F : Fct) (h : RdF w v F) (hI : fIsFunctor F = true) :
    Calls Try.prog 121 #[v] w (RetEn w (plE F)) := by
  have h0 := h
  obtain ⟨vx1, vx2, vx3, vx4, vx5, vx6, vx7, vx8, vx9, vx10, vk1, vk2, vk3, vk4, vk5, vk6, vk7, vk8, vk9, vk10, rfl, h1, h2, h3, h4, h5, h6, h7, h8, h9, h10⟩ := h.lists
  have hF := isf_of hI
  have hS := (isCat_of hF.cs).toShapeP
  have hn40 := hS.n40; have htl := hS.tl; have la := hF.la
  go_enter Try.func121, Try.ntmps121
  refine gc_enter (N := 29) rfl (look_cons (k := 0) rfl (look_nil _)) ?_
  refine gc_seq fun K1 hK1 => ?_
  refine gc_region ?_
  refine g_op (.free rfl) fun K3 hK3 => ?_
  refine go_box rfl rfl rfl rfl rfl ?_
  intro B2
  refine hK3 _ _ ?_
  refine g_v (.free rfl) rfl rfl (qt_assign rfl rfl) ?_
  refine g_nil ?_
  refine gk_then (hK1 _ _ ?_)
  refine gc_seq fun K4 hK4 => ?_
  refine gc_region ?_
  refine g_v (.free rfl) rfl rfl (qt_field (z := 0) (off := 11) rfl rfl Try.underlying32 rfl (by kernel_rfl) rfl) ?_
  refine g_v (.free rfl) rfl rfl (qt_loadB (n := 0) rfl rfl Try.underlying22 rfl rfl rfl) ?_
  refine g_v (.free rfl) rfl rfl (qt_len rfl rfl ulE1 (fun w M => lenV_rd h10)) ?_
  refine g_op (.free rfl) fun K6 hK6 => ?_
  refine go_makeE rfl rfl rfl rfl rfl rfl (by omega) ?_
  intro B5
  refine hK6 _ _ ?_
  refine g_v (.free rfl) rfl rfl (qt_assign rfl rfl) ?_
  refine g_nil ?_
  refine gk_then (hK4 _ _ ?_)
  refine gc_seq fun K7 hK7 => ?_
  refine gc_seq fun K8 hK8 => ?_
  refine gc_region ?_
  refine g_v (.free rfl) rfl rfl (qt_field (z := 0) (off := 11) rfl rfl Try.underlying32 rfl (by kernel_rfl) rfl) ?_
  refine g_v (.free rfl) rfl rfl (qt_loadB (n := 0) rfl rfl Try.underlying22 rfl rfl rfl) ?_
  refine g_v (.free rfl) rfl rfl (qt_len rfl rfl ulE1 (fun w M => lenV_rd h10)) ?_
  refine g_v (.free rfl) rfl rfl (qt_move rfl rfl) ?_
  refine g_nil ?_
  refine gk_then (hK8 _ _ ?_)
  refine gc_block ?_
  rw [fillE_zero (plF F) F.a.length]
  try simp only [List.nil_append, List.cons_append, List.append_assoc, List.set_cons_succ, List.set_cons_zero]
  refine gc_loop ([(0, _), (1, _), (2, _), (3, _), (11, _), (12, _)] : Env) (fun s : Nat => (fun (k : Nat) => ([(13, .int .i64 (k : Int))] : Env)) s) (fun s : Nat => (fun (k : Nat) => ([(1, ownEI lab_int (.slice (some ⟨B5, 0, none⟩) F.a.length F.a.length) (fillE (plF F) F.a.length k))] : List (Nat × Itm))) s) (fun s : Nat => (fun (k : Nat) => k ≤ F.a.length) s) (fun s : Nat => (fun (k : Nat) => F.a.length - k) s) (0) (sub_cons rfl (sub_cons rfl (sub_cons rfl (sub_cons rfl (sub_cons rfl (sub_cons rfl (sub_cons rfl sub_nil))))))) rfl (Nat.zero_le _) ?_
  rintro k hinv KL9 hKL9
  simp only [updL, List.foldl_cons, List.foldl_nil, List.set_cons_succ, List.set_cons_zero, List.cons_append, List.nil_append] at hinv hKL9 ⊢
  have hk := hinv
  have hfl := fillE_len (plF F) F.a.length k
  refine gc_seq fun K10 hK10 => ?_
  refine gc_region ?_
  refine g_v (.free rfl) rfl rfl (qt_lss rfl rfl rfl) ?_
  refine g_nil ?_
  refine gk_then (hK10 _ _ ?_)
  refine gc_seq fun K11 hK11 => ?_
  refine gc_cond rfl (fun hc0 => ?_) (fun hc0 => ?_)
  · try simp only [decide_eq_true_eq, decide_eq_false_iff_not, Bool.not_eq_true', Bool.not_eq_false', Bool.not_eq_eq_eq_not, Bool.not_true, Bool.not_false, ne_eq, Decidable.not_not, Classical.not_not] at hc0
    refine gc_skip ?_
    refine gk_then (hK11 _ _ ?_)
    refine gc_seq fun K12 hK12 => ?_
    refine gc_block ?_
    refine gc_seq fun K13 hK13 => ?_
    refine gc_region ?_
    refine g_v (.free rfl) rfl rfl (qt_move rfl rfl) ?_
    refine g_v (.free rfl) rfl rfl (qt_index rfl rfl rfl ulE1 szE1 (fun w M => lenA_rd h10) (by omega) (by omega)) ?_
    refine g_v (.free rfl) rfl rfl (qt_load1 rfl rfl Try.underlying2 rfl (fun w M => mem_rd M h10) (by omega) (by omega)) ?_
    refine g_v (.free rfl) rfl rfl (qt_assign rfl rfl) ?_
    refine g_v (.free rfl) rfl rfl (qt_assign rfl rfl) ?_
    refine g_nil ?_
    refine gk_then (hK13 _ _ ?_)
    refine gc_region ?_
    refine g_v (.free rfl) rfl rfl (qt_move rfl rfl) ?_
    refine g_v (.free rfl) rfl rfl (qt_move rfl rfl) ?_
    refine g_v (.free rfl) rfl rfl (qt_field (z := 4) (off := 0) rfl rfl Try.underlying32 rfl (by kernel_rfl) rfl) ?_
    refine g_v (.free rfl) rfl rfl (qt_loadP (n := 0) (z := 5) rfl rfl Try.underlying30 rfl (by kernel_rfl) rfl (by first | decide | exact Nat.le_refl _ | simp)) ?_
    refine g_v (.free rfl) rfl rfl (qt_move rfl rfl) ?_
    refine g_q (.free rfl) rfl rfl (qt_call rfl Try.func104 rfl (by decide) rfl (fun w M => ends_any w _ _ _ (rdC_mk (mem_rd M h1) (mem_rd M h2) (mem_rd M h3) (mem_rd2 M h4)) (by first | assumption | omega) (by first | assumption | omega) (by first | assumption | omega))) ?_
    refine g_v (.free rfl) rfl rfl (qt_move rfl rfl) ?_
    refine g_v (.free rfl) rfl rfl (qt_build rfl rfl bt_pairOf_arrowEnds_int64) ?_
    refine g_v (.free rfl) rfl rfl (qt_indexE lab_int rfl rfl rfl rfl (fun w M => lenA_E (mem_ownE (n := 1) M rfl)) (by omega) (by omega)) ?_
    refine g_op (.free rfl) fun K14 hK14 => ?_
    refine go_storeE (n := 1) rfl rfl rfl rfl rfl rfl (by omega) (by omega) ?_
    refine hK14 _ _ ?_
    refine g_nil ?_
    refine gk_block ?_
    refine gk_then (hK12 _ _ ?_)
    refine gc_region ?_
    refine g_v (.free rfl) rfl rfl (qt_add rfl rfl rfl (by omega)) ?_
    refine g_v (.free rfl) rfl rfl (qt_move rfl rfl) ?_
    refine g_nil ?_
    rw [fillE_st (F := F) (k := k) (by omega)]
    refine gk_then (gk_take 2 ?_)
    refine gk_sub ?hs_15 (hKL9 (k + 1) ?hi_15 ?hm_15)
    case hs_15 => exact (sub_cons rfl (sub_cons rfl (sub_cons rfl (sub_cons rfl (sub_cons rfl (sub_cons rfl (sub_cons rfl sub_nil)))))))
    case hi_15 => omega
    case hm_15 => omega
  · try simp only [decide_eq_true_eq, decide_eq_false_iff_not, Bool.not_eq_true', Bool.not_eq_false', Bool.not_eq_eq_eq_not, Bool.not_true, Bool.not_false, ne_eq, Decidable.not_not, Classical.not_not] at hc0
    refine gc_exit ?_
    refine gk_then_exit ?_
    refine gk_then_exit ?_
    refine gk_block_hit ?_
    refine gk_then (hK7 _ _ ?_)
    refine gc_seq fun K16 hK16 => ?_
    refine gc_region ?_
    refine g_v (.free rfl) rfl rfl (qt_move rfl rfl) ?_
    refine g_v (.free rfl) rfl rfl (qt_assign rfl rfl) ?_
    refine g_nil ?_
    refine gk_then (hK16 _ _ ?_)
    refine gc_ret ?_
    refine ret_1 rfl rfl  (fun w M => ?_)
    obtain rfl : k = F.a.length := by omega
    rw [fillE_end] at M
    have hO := mem_ownEO (n := 1) M rfl
    refine ⟨_, rfl, ?_, M.1⟩
    show OwnE lab_int _ (entsTo (plF F) F.a.length) _ _
    exact hO

set_option maxHeartbeats 1000000 in
set_option maxRecDepth 100000 in
theorem kernelF_any (w : World) (v : Value) (F : Fct) (h : RdF w v F) (hI : fIsFunctor F = true) :
    Calls Try.prog 97 #[v] w (RetL w (clsE (plE F))) := by
  have h0 := h
  obtain ⟨vx1, vx2, vx3, vx4, vx5, vx6, vx7, vx8, vx9, vx10, vk1, vk2, vk3, vk4, vk5, vk6, vk7, vk8, vk9, vk10, rfl, h1, h2, h3, h4, h5, h6, h7, h8, h9, h10⟩ := h.lists
  have hF := isf_of hI
  have hS := (isCat_of hF.cs).toShapeP
  have hn40 := hS.n40; have htl := hS.tl; have la := hF.la
  go_enter Try.func97, Try.ntmps97
  refine gc_enter (N := 6) rfl (look_cons (k := 0) rfl (look_nil _)) ?_
  refine gc_seq fun K1 hK1 => ?_
  refine gc_region ?_
  refine g_op (.free rfl) fun K3 hK3 => ?_
  refine go_box rfl rfl rfl rfl rfl ?_
  intro B2
  refine hK3 _ _ ?_
  refine g_v (.free rfl) rfl rfl (qt_assign rfl rfl) ?_
  refine g_nil ?_
  refine gk_then (hK1 _ _ ?_)
  refine gc_seq fun K4 hK4 => ?_
  refine gc_region ?_
  refine g_v (.free rfl) rfl rfl (qt_loadS (n := 0) rfl rfl Try.underlying32 rfl (by kernel_rfl) rfl) ?_
  refine g_op (.free rfl) fun K6 hK6 => ?_
  refine go_callEn rfl rfl rfl Try.func121 rfl (by decide) rfl (fun w M => placed_any w _ _ (mem_rdF M h0) (by first | assumption | omega)) ?_
  intro va5 vc5
  refine hK6 _ _ ?_
  refine g_op (.free rfl) fun K8 hK8 => ?_
  refine go_callL rfl rfl rfl Try.func135 rfl (by decide) rfl (fun w M => partByE_any w (_) (plE F) (mem_ownE (n := 1) M rfl) (by rw [plE_len]; omega)) ?_
  intro va7 vc7
  refine hK8 _ _ ?_
  refine g_v (.free rfl) rfl rfl (qt_assign rfl rfl) ?_
  refine g_nil ?_
  refine gk_then (hK4 _ _ ?_)
  refine gc_ret ?_
  refine ret_1 rfl rfl  (fun w M => ?_)
  exact ⟨_, rfl, mem_own1 (n := 2) M rfl, M.1⟩

set_option maxHeartbeats 1000000 in
set_option maxRecDepth 100000 in
theorem isFaithF_any (w : World) (v : Value) (F : Fct) (h : RdF w v F) (hI : fIsFunctor F = true) :
    Calls Try.prog 81 #[v] w (RetB w (bP (faithP F))) := by
  have h0 := h
  obtain ⟨vx1, vx2, vx3, vx4, vx5, vx6, vx7, vx8, vx9, vx10, vk1, vk2, vk3, vk4, vk5, vk6, vk7, vk8, vk9, vk10, rfl, h1, h2, h3, h4, h5, h6, h7, h8, h9, h10⟩ := h.lists
  have hF := isf_of hI
  have hS := (isCat_of hF.cs).toShapeP
  have hn40 := hS.n40; have htl := hS.tl; have la := hF.la
  go_enter Try.func81, Try.ntmps81
  refine gc_enter (N := 11) rfl (look_cons (k := 0) rfl (look_nil _)) ?_
  refine gc_seq fun K1 hK1 => ?_
  refine gc_region ?_
  refine g_op (.free rfl) fun K3 hK3 => ?_
  refine go_box rfl rfl rfl rfl rfl ?_
  intro B2
  refine hK3 _ _ ?_
  refine g_v (.free rfl) rfl rfl (qt_assign rfl rfl) ?_
  refine g_nil ?_
  refine gk_then (hK1 _ _ ?_)
  refine gc_seq fun K4 hK4 => ?_
  try simp only [List.nil_append, List.cons_append, List.append_assoc, List.set_cons_succ, List.set_cons_zero]
  refine ga_start _ (fun w M => M) ?_
  refine ga_v 0 rfl (by kernel_rfl) (by kernel_rfl) (by kernel_rfl) (.free rfl) rfl rfl (qt_loadS (n := 0) rfl rfl Try.underlying32 rfl (by kernel_rfl) rfl) (fun _ _ _ h => h) ?_
  refine ga_v 4 rfl (by kernel_rfl) (by kernel_rfl) (by kernel_rfl) (.free rfl) rfl rfl (qt_field (z := 0) (off := 11) rfl rfl Try.underlying32 rfl (by kernel_rfl) rfl) (fun _ _ _ h => h) ?_
  refine ga_v 5 rfl (by kernel_rfl) (by kernel_rfl) (by kernel_rfl) (.free rfl) rfl rfl (qt_loadB (n := 0) rfl rfl Try.underlying22 rfl rfl rfl) (fun _ _ _ h => h) ?_
  refine ga_v 6 rfl (by kernel_rfl) (by kernel_rfl) (by kernel_rfl) (.free rfl) rfl rfl (qt_len rfl rfl ulE1 (fun w M => lenV_rd h10)) (fun _ _ _ h => h) ?_
  refine ga_op 1 (by kernel_rfl) rfl (.free rfl) fun K6 hK6 => ?_
  refine go_callL rfl rfl rfl Try.func97 rfl (by decide) rfl (fun w M => kernelF_any w _ _ (mem_rdF M h0) (by first | assumption | omega)) ?_
  intro va5 vc5
  refine hK6 _ _ (fun w M => (mem_take 1 M :)) ?_
  refine ga_op 2 (by kernel_rfl) rfl (.free rfl) fun K8 hK8 => ?_
  refine go_callL rfl rfl rfl Try.func118 rfl (by decide) rfl (fun w M => leastsP_any w _ _ ((mem_own1 (n := 1) M rfl).rd) (clsE_proper _)) ?_
  intro va7 vc7
  refine hK8 _ _ (fun w M => (mem_take 1 M :)) ?_
  refine ga_op 3 (by kernel_rfl) rfl (.free rfl) fun K9 hK9 => ?_
  refine go_v rfl rfl (qt_len rfl rfl ulE1 (fun w M => lenV_own1 (n := 2) rfl M)) ?_
  refine hK9 _ _ (fun w M => (mem_take 1 M :)) ?_
  refine ga_v 7 rfl (by kernel_rfl) (by kernel_rfl) (by kernel_rfl) (.free rfl) rfl rfl (qt_eql rfl rfl rfl) (fun _ _ _ h => h) ?_
  refine ga_v 8 rfl (by kernel_rfl) (by kernel_rfl) (by kernel_rfl) (.free rfl) rfl rfl (qt_assign rfl rfl) (fun _ _ _ h => h) ?_
  refine ga_done (by kernel_rfl) ?_
  refine gk_then (hK4 _ _ ?_)
  refine gc_ret ?_
  refine ret_1 rfl rfl  (fun w M => ?_)
  rw [show bP (faithP F) = decide (((lstL (clsE (plE F)) (nC (clsE (plE F)) (clsE (plE F)).length)).length : Int) = (F.a.length : Int)) from by rw [← bP_dec]; exact bP_congr (faith_iff.symm.trans ⟨fun hq => by rw [hq], fun hq => by omega⟩)]; exact ⟨rfl, M.1⟩

set_option maxHeartbeats 1000000 in
set_option maxRecDepth 100000 in
theorem specFaith_any (w : World) (v : Value) (F : Fct) (h : RdF w v F) (hI : fIsFunctor F = true) :
    Calls Try.prog 79 #[v] w (RetB w (bP (faithP F))) := by
  have h0 := h
  obtain ⟨vx1, vx2, vx3, vx4, vx5, vx6, vx7, vx8, vx9, vx10, vk1, vk2, vk3, vk4, vk5, vk6, vk7, vk8, vk9, vk10, rfl, h1, h2, h3, h4, h5, h6, h7, h8, h9, h10⟩ := h.lists
  have hF := isf_of hI
  have hS := (isCat_of hF.cs).toShapeP
  have hn40 := hS.n40; have htl := hS.tl; have la := hF.la
  go_enter Try.func79, Try.ntmps79
  refine gc_enter (N := 35) rfl (look_cons (k := 0) rfl (look_nil _)) ?_
  refine gc_seq fun K1 hK1 => ?_
  refine gc_region ?_
  refine g_op (.free rfl) fun K3 hK3 => ?_
  refine go_box rfl rfl rfl rfl rfl ?_
  intro B2
  refine hK3 _ _ ?_
  refine g_v (.free rfl) rfl rfl (qt_assign rfl rfl) ?_
  refine g_nil ?_
  refine gk_then (hK1 _ _ ?_)
  refine gc_seq fun K4 hK4 => ?_
  refine gc_seq fun K5 hK5 => ?_
  refine gc_region ?_
  refine g_v (.free rfl) rfl rfl (qt_assign rfl rfl) ?_
  refine g_nil ?_
  refine gk_then (hK5 _ _ ?_)
  refine gc_block ?_
  try simp only [List.nil_append, List.cons_append, List.append_assoc, List.set_cons_succ, List.set_cons_zero]
  refine gc_loop ([(0, _), (1, _)] : Env) (fun s : Nat => (fun (k : Nat) => ([(3, .int .i64 (k : Int))] : Env)) s) (fun s : Nat => (fun (k : Nat) => ([] : List (Nat × Itm))) s) (fun s : Nat => (fun (k : Nat) => k ≤ F.a.length ∧ ∀ j : Nat, j < k → ∀ b : Nat, b < j → ¬ sameL F j b) s) (fun s : Nat => (fun (k : Nat) => F.a.length - k) s) (0) (sub_cons rfl (sub_cons rfl (sub_cons rfl sub_nil))) rfl ⟨Nat.zero_le _, fun j hj => absurd hj (by omega)⟩ ?_
  rintro k hinv KL6 hKL6
  simp only [updL, List.foldl_cons, List.foldl_nil, List.set_cons_succ, List.set_cons_zero, List.cons_append, List.nil_append] at hinv hKL6 ⊢
  obtain ⟨hk, hj⟩ := hinv
  refine gc_seq fun K7 hK7 => ?_
  refine gc_seq fun K8 hK8 => ?_
  refine gc_region ?_
  refine g_v (.free rfl) rfl rfl (qt_move rfl rfl) ?_
  refine g_v (.free rfl) rfl rfl (qt_field (z := 0) (off := 11) rfl rfl Try.underlying32 rfl (by kernel_rfl) rfl) ?_
  refine g_v (.free rfl) rfl rfl (qt_loadB (n := 0) rfl rfl Try.underlying22 rfl rfl rfl) ?_
  refine g_v (.free rfl) rfl rfl (qt_len rfl rfl ulE1 (fun w M => lenV_rd h10)) ?_
  refine g_v (.free rfl) rfl rfl (qt_lss rfl rfl rfl) ?_
  refine g_nil ?_
  refine gk_then (hK8 _ _ ?_)
  refine gc_cond rfl (fun hc0 => ?_) (fun hc0 => ?_)
  · try simp only [decide_eq_true_eq, decide_eq_false_iff_not, Bool.not_eq_true', Bool.not_eq_false', Bool.not_eq_eq_eq_not, Bool.not_true, Bool.not_false, ne_eq, Decidable.not_not, Classical.not_not] at hc0
    refine gc_skip ?_
    refine gk_then (hK7 _ _ ?_)
    refine gc_seq fun K9 hK9 => ?_
    refine gc_block ?_
    refine gc_seq fun K10 hK10 => ?_
    refine gc_region ?_
    refine g_v (.free rfl) rfl rfl (qt_assign rfl rfl) ?_
    refine g_nil ?_
    refine gk_then (hK10 _ _ ?_)
    refine gc_block ?_
    try simp only [List.nil_append, List.cons_append, List.append_assoc, List.set_cons_succ, List.set_cons_zero]
    refine gc_loop ([(0, _), (1, _), (3, _), (9, _)] : Env) (fun s : Nat => (fun (g : Nat) => ([(4, .int .i64 (g : Int))] : Env)) s) (fun s : Nat => (fun (g : Nat) => ([] : List (Nat × Itm))) s) (fun s : Nat => (fun (g : Nat) => g ≤ k ∧ ∀ b : Nat, b < g → ¬ sameL F k b) s) (fun s : Nat => (fun (g : Nat) => k - g) s) (0) (sub_cons rfl (sub_cons rfl (sub_cons rfl (sub_cons rfl (sub_cons rfl sub_nil))))) rfl ⟨Nat.zero_le _, fun j hj => absurd hj (by omega)⟩ ?_
    rintro g hinv KL11 hKL11
    simp only [updL, List.foldl_cons, List.foldl_nil, List.set_cons_succ, List.set_cons_zero, List.cons_append, List.nil_append] at hinv hKL11 ⊢
    obtain ⟨hg, hi⟩ := hinv
    refine gc_seq fun K12 hK12 => ?_
    refine gc_seq fun K13 hK13 => ?_
    refine gc_region ?_
    refine g_v (.free rfl) rfl rfl (qt_move rfl rfl) ?_
    refine g_v (.free rfl) rfl rfl (qt_move rfl rfl) ?_
    refine g_v (.free rfl) rfl rfl (qt_lss rfl rfl rfl) ?_
    refine g_nil ?_
    refine gk_then (hK13 _ _ ?_)
    refine gc_cond rfl (fun hc1 => ?_) (fun hc1 => ?_)
    · try simp only [decide_eq_true_eq, decide_eq_false_iff_not, Bool.not_eq_true', Bool.not_eq_false', Bool.not_eq_eq_eq_not, Bool.not_true, Bool.not_false, ne_eq, Decidable.not_not, Classical.not_not] at hc1
      refine gc_skip ?_
      refine gk_then (hK12 _ _ ?_)
      refine gc_seq fun K14 hK14 => ?_
      refine gc_block ?_
      refine gc_seq fun K15 hK15 => ?_
      refine gc_draw (by kernel_rfl) ?_
      refine gd_v (.free rfl) rfl rfl (qt_field (z := 4) (off := 0) rfl rfl Try.underlying32 rfl (by kernel_rfl) rfl) ?_
      refine gd_v (.free rfl) rfl rfl (qt_loadP (n := 0) (z := 5) rfl rfl Try.underlying30 rfl (by kernel_rfl) rfl (by first | decide | exact Nat.le_refl _ | simp)) ?_
      refine gd_v (.free rfl) rfl rfl (qt_move rfl rfl) ?_
      refine gd_v (.free rfl) rfl rfl (qt_move rfl rfl) ?_
      refine gd_q (.free rfl) rfl rfl (qt_call rfl Try.func95 rfl (by decide) rfl (fun w M => specPar_any w _ _ (rdC_mk (mem_rd M h1) (mem_rd M h2) (mem_rd M h3) (mem_rd2 M h4)) _ _ (by first | assumption | omega) (by first | assumption | omega) (by first | assumption | omega) (by first | assumption | omega) (by first | assumption | omega))) ?_
      refine gd_splitv (.free rfl) rfl rfl (qt_move rfl rfl) (fun hs7_5 => ?_) (fun hs7_5 => ?_)
      · try simp only [decide_eq_true_eq, decide_eq_false_iff_not, Bool.not_eq_true', Bool.not_eq_false', Bool.not_eq_eq_eq_not, Bool.not_true, Bool.not_false, ne_eq, Decidable.not_not, Classical.not_not] at hs7_5
        refine gd_v (.held _ _ _ rfl rfl rfl) rfl rfl (qt_field (z := 0) (off := 11) rfl rfl Try.underlying32 rfl (by kernel_rfl) rfl) ?_
        refine gd_v (.held _ _ _ rfl rfl rfl) rfl rfl (qt_loadB (n := 0) rfl rfl Try.underlying22 rfl rfl rfl) ?_
        refine gd_v (.held _ _ _ rfl rfl rfl) rfl rfl (qt_move rfl rfl) ?_
        refine gd_v (.held _ _ _ rfl rfl rfl) rfl rfl (qt_index rfl rfl rfl ulE1 szE1 (fun w M => lenA_rd h10) (by omega) (by omega)) ?_
        refine gd_v (.held _ _ _ rfl rfl rfl) rfl rfl (qt_load1 rfl rfl Try.underlying2 rfl (fun w M => mem_rd M h10) (by omega) (by omega)) ?_
        refine gd_v (.held _ _ _ rfl rfl rfl) rfl rfl (qt_field (z := 0) (off := 11) rfl rfl Try.underlying32 rfl (by kernel_rfl) rfl) ?_
        refine gd_v (.held _ _ _ rfl rfl rfl) rfl rfl (qt_loadB (n := 0) rfl rfl Try.underlying22 rfl rfl rfl) ?_
        refine gd_v (.held _ _ _ rfl rfl rfl) rfl rfl (qt_move rfl rfl) ?_
        refine gd_v (.held _ _ _ rfl rfl rfl) rfl rfl (qt_index rfl rfl rfl ulE1 szE1 (fun w M => lenA_rd h10) (by omega) (by omega)) ?_
        refine gd_v (.held _ _ _ rfl rfl rfl) rfl rfl (qt_load1 rfl rfl Try.underlying2 rfl (fun w M => mem_rd M h10) (by omega) (by omega)) ?_
        refine gd_v (.held _ _ _ rfl rfl rfl) rfl rfl (qt_eql rfl rfl rfl) ?_
        refine gd_v (.free rfl) rfl rfl (qt_pick_t rfl rfl rfl) ?_
        refine gd_nil ?_
        refine gk_then (hK15 _ _ ?_)
        refine gc_cond rfl (fun hc2 => ?_) (fun hc2 => ?_)
        · try simp only [decide_eq_true_eq, decide_eq_false_iff_not, Bool.not_eq_true', Bool.not_eq_false', Bool.not_eq_eq_eq_not, Bool.not_true, Bool.not_false, ne_eq, Decidable.not_not, Classical.not_not] at hc2
          refine gc_seq fun K16 hK16 => ?_
          refine gc_region ?_
          refine g_v (.free rfl) rfl rfl (qt_assign rfl rfl) ?_
          refine g_nil ?_
          refine gk_then (hK16 _ _ ?_)
          refine gc_ret ?_
          refine gk_block_ret ?_
          refine gk_then_ret ?_
          refine gk_then_ret ?_
          refine gk_block_ret ?_
          refine gk_block_ret ?_
          refine gk_then_ret ?_
          refine gk_then_ret ?_
          refine gk_block_ret ?_
          refine gk_then_ret ?_
          refine ret_1 rfl rfl  (fun w M => ?_)
          rw [bP_f fun hq => hq k g (by omega) (by omega) ⟨bP_t' hs7_5, hc2⟩]; exact ⟨rfl, M.1⟩
        · try simp only [decide_eq_true_eq, decide_eq_false_iff_not, Bool.not_eq_true', Bool.not_eq_false', Bool.not_eq_eq_eq_not, Bool.not_true, Bool.not_false, ne_eq, Decidable.not_not, Classical.not_not] at hc2
          refine gc_skip ?_
          refine gk_block ?_
          refine gk_then (hK14 _ _ ?_)
          refine gc_region ?_
          refine g_v (.free rfl) rfl rfl (qt_move rfl rfl) ?_
          refine g_v (.free rfl) rfl rfl (qt_add rfl rfl rfl (by omega)) ?_
          refine g_v (.free rfl) rfl rfl (qt_assign rfl rfl) ?_
          refine g_nil ?_
          refine gk_then (gk_take 1 ?_)
          refine gk_sub ?hs_17 (hKL11 (g + 1) ?hi_17 ?hm_17)
          case hs_17 => exact (sub_cons rfl (sub_cons rfl (sub_cons rfl (sub_cons rfl (sub_cons rfl sub_nil)))))
          case hi_17 => exact ⟨by omega, all_next0 hi fun hh => hc2 hh.2⟩
          case hm_17 => omega
      · try simp only [decide_eq_true_eq, decide_eq_false_iff_not, Bool.not_eq_true', Bool.not_eq_false', Bool.not_eq_eq_eq_not, Bool.not_true, Bool.not_false, ne_eq, Decidable.not_not, Classical.not_not] at hs7_5
        refine gd_skip (.not _ _ _ _ rfl rfl rfl rfl) rfl rfl ?_
        refine gd_skip (.not _ _ _ _ rfl rfl rfl rfl) rfl rfl ?_
        refine gd_skip (.not _ _ _ _ rfl rfl rfl rfl) rfl rfl ?_
        refine gd_skip (.not _ _ _ _ rfl rfl rfl rfl) rfl rfl ?_
        refine gd_skip (.not _ _ _ _ rfl rfl rfl rfl) rfl rfl ?_
        refine gd_skip (.not _ _ _ _ rfl rfl rfl rfl) rfl rfl ?_
        refine gd_skip (.not _ _ _ _ rfl rfl rfl rfl) rfl rfl ?_
        refine gd_skip (.not _ _ _ _ rfl rfl rfl rfl) rfl rfl ?_
        refine gd_skip (.not _ _ _ _ rfl rfl rfl rfl) rfl rfl ?_
        refine gd_skip (.not _ _ _ _ rfl rfl rfl rfl) rfl rfl ?_
        refine gd_skip (.not _ _ _ _ rfl rfl rfl rfl) rfl rfl ?_
        refine gd_v (.free rfl) rfl rfl (qt_pick_f rfl rfl rfl) ?_
        refine gd_nil ?_
        refine gk_then (hK15 _ _ ?_)
        refine gc_cond_f rfl ?_
        refine gc_skip ?_
        refine gk_block ?_
        refine gk_then (hK14 _ _ ?_)
        refine gc_region ?_
        refine g_v (.free rfl) rfl rfl (qt_move rfl rfl) ?_
        refine g_v (.free rfl) rfl rfl (qt_add rfl rfl rfl (by omega)) ?_
        refine g_v (.free rfl) rfl rfl (qt_assign rfl rfl) ?_
        refine g_nil ?_
        refine gk_then (gk_take 1 ?_)
        refine gk_sub ?hs_18 (hKL11 (g + 1) ?hi_18 ?hm_18)
        case hs_18 => exact (sub_cons rfl (sub_cons rfl (sub_cons rfl (sub_cons rfl (sub_cons rfl sub_nil)))))
        case hi_18 => exact ⟨by omega, all_next0 hi fun hh => bP_f' hs7_5 hh.1⟩
        case hm_18 => omega
    · try simp only [decide_eq_true_eq, decide_eq_false_iff_not, Bool.not_eq_true', Bool.not_eq_false', Bool.not_eq_eq_eq_not, Bool.not_true, Bool.not_false, ne_eq, Decidable.not_not, Classical.not_not] at hc1
      refine gc_exit ?_
      refine gk_then_exit ?_
      refine gk_then_exit ?_
      refine gk_block_hit ?_
      refine gk_block ?_
      refine gk_then (hK9 _ _ ?_)
      refine gc_region ?_
      refine g_v (.free rfl) rfl rfl (qt_move rfl rfl) ?_
      refine g_v (.free rfl) rfl rfl (qt_add rfl rfl rfl (by omega)) ?_
      refine g_v (.free rfl) rfl rfl (qt_assign rfl rfl) ?_
      refine g_nil ?_
      refine gk_then (gk_take 1 ?_)
      refine gk_sub ?hs_19 (hKL6 (k + 1) ?hi_19 ?hm_19)
      case hs_19 => exact (sub_cons rfl (sub_cons rfl (sub_cons rfl sub_nil)))
      case hi_19 => exact ⟨by omega, all_next0 hj fun b hb => hi b (by omega)⟩
      case hm_19 => omega
  · try simp only [decide_eq_true_eq, decide_eq_false_iff_not, Bool.not_eq_true', Bool.not_eq_false', Bool.not_eq_eq_eq_not, Bool.not_true, Bool.not_false, ne_eq, Decidable.not_not, Classical.not_not] at hc0
    refine gc_exit ?_
    refine gk_then_exit ?_
    refine gk_then_exit ?_
    refine gk_block_hit ?_
    refine gk_then (hK4 _ _ ?_)
    refine gc_seq fun K20 hK20 => ?_
    refine gc_region ?_
    refine g_v (.free rfl) rfl rfl (qt_assign rfl rfl) ?_
    refine g_nil ?_
    refine gk_then (hK20 _ _ ?_)
    refine gc_ret ?_
    refine ret_1 rfl rfl  (fun w M => ?_)
    rw [bP_t (p := faithP F) fun a b hb ha => hj a (by omega) b hb]; exact ⟨rfl, M.1⟩

set_option maxHeartbeats 1000000 in
set_option maxRecDepth 100000 in
theorem spec_IsFaithful (w : World) (v : Value) (F : Fct) (h : RdF w v F) :
    Calls Try.prog 32 #[v] w (RetBI w (fIsFaithful F).1 (fIsFaithful F).2) := by
  have h0 := h
  obtain ⟨vx1, vx2, vx3, vx4, vx5, vx6, vx7, vx8, vx9, vx10, vk1, vk2, vk3, vk4, vk5, vk6, vk7, vk8, vk9, vk10, rfl, h1, h2, h3, h4, h5, h6, h7, h8, h9, h10⟩ := h.lists
  go_enter Try.func32, Try.ntmps32
  refine gc_enter (N := 9) rfl (look_cons (k := 0) rfl (look_nil _)) ?_
  refine gc_seq fun K1 hK1 => ?_
  refine gc_region ?_
  refine g_op (.free rfl) fun K3 hK3 => ?_
  refine go_box rfl rfl rfl rfl rfl ?_
  intro B2
  refine hK3 _ _ ?_
  refine g_v (.free rfl) rfl rfl (qt_assign rfl rfl) ?_
  refine g_v (.free rfl) rfl rfl (qt_assign rfl rfl) ?_
  refine g_nil ?_
  refine gk_then (hK1 _ _ ?_)
  refine gc_seq fun K4 hK4 => ?_
  refine gc_seq fun K5 hK5 => ?_
  refine gc_region ?_
  refine g_v (.free rfl) rfl rfl (qt_loadS (n := 0) rfl rfl Try.underlying32 rfl (by kernel_rfl) rfl) ?_
  refine g_q (.free rfl) rfl rfl (qt_call rfl Try.func52 rfl (by decide) rfl (fun w M => specIsF_any w _ _ (mem_rdF M h0))) ?_
  refine g_v (.free rfl) rfl rfl (qt_not rfl rfl) ?_
  refine g_nil ?_
  refine gk_then (hK5 _ _ ?_)
  refine gc_cond rfl (fun hc0 => ?_) (fun hc0 => ?_)
  · try simp only [decide_eq_true_eq, decide_eq_false_iff_not, Bool.not_eq_true', Bool.not_eq_false', Bool.not_eq_eq_eq_not, Bool.not_true, Bool.not_false, ne_eq, Decidable.not_not, Classical.not_not] at hc0
    refine gc_seq fun K6 hK6 => ?_
    refine gc_region ?_
    refine g_v (.free rfl) rfl rfl (qt_assign rfl rfl) ?_
    refine g_v (.free rfl) rfl rfl (qt_assign rfl rfl) ?_
    refine g_nil ?_
    refine gk_then (hK6 _ _ ?_)
    refine gc_ret ?_
    refine gk_then_ret ?_
    refine ret_2 rfl rfl rfl  (fun w M => ?_)
    rw [show fIsFaithful F = (false, 1) from by unfold fIsFaithful; rw [askB_f hc0, (fctErr_f hc0).1]]; exact ⟨rfl, M.1⟩
  · try simp only [decide_eq_true_eq, decide_eq_false_iff_not, Bool.not_eq_true', Bool.not_eq_false', Bool.not_eq_eq_eq_not, Bool.not_true, Bool.not_false, ne_eq, Decidable.not_not, Classical.not_not] at hc0
    refine gc_skip ?_
    refine gk_then (hK4 _ _ ?_)
    refine gc_seq fun K7 hK7 => ?_
    refine gc_region ?_
    refine g_v (.free rfl) rfl rfl (qt_loadS (n := 0) rfl rfl Try.underlying32 rfl (by kernel_rfl) rfl) ?_
    refine g_q (.free rfl) rfl rfl (qt_call rfl Try.func79 rfl (by decide) rfl (fun w M => specFaith_any w _ _ (mem_rdF M h0) (hc0))) ?_
    refine g_v (.free rfl) rfl rfl (qt_assign rfl rfl) ?_
    refine g_v (.free rfl) rfl rfl (qt_assign rfl rfl) ?_
    refine g_nil ?_
    refine gk_then (hK7 _ _ ?_)
    refine gc_ret ?_
    refine ret_2 rfl rfl rfl  (fun w M => ?_)
    rw [show fIsFaithful F = (bP (faithP F), 0) from by unfold fIsFaithful; rw [askB_t hc0, (fctErr_t hc0).1]]; exact ⟨rfl, M.1⟩

set_option maxHeartbeats 1000000 in
set_option maxRecDepth 100000 in
theorem impl_IsFaithful (w : World) (v : Value) (F : Fct) (h : RdF w v F) :
    Calls Try.prog 33 #[v] w (RetBI w (fIsFaithful F).1 (fIsFaithful F).2) := by
  have h0 := h
  obtain ⟨vx1, vx2, vx3, vx4, vx5, vx6, vx7, vx8, vx9, vx10, vk1, vk2, vk3, vk4, vk5, vk6, vk7, vk8, vk9, vk10, rfl, h1, h2, h3, h4, h5, h6, h7, h8, h9, h10⟩ := h.lists
  go_enter Try.func33, Try.ntmps33
  refine gc_enter (N := 8) rfl (look_cons (k := 0) rfl (look_nil _)) ?_
  refine gc_seq fun K1 hK1 => ?_
  refine gc_region ?_
  refine g_op (.free rfl) fun K3 hK3 => ?_
  refine go_box rfl rfl rfl rfl rfl ?_
  intro B2
  refine hK3 _ _ ?_
  refine g_v (.free rfl) rfl rfl (qt_assign rfl rfl) ?_
  refine g_v (.free rfl) rfl rfl (qt_assign rfl rfl) ?_
  refine g_nil ?_
  refine gk_then (hK1 _ _ ?_)
  refine gc_seq fun K4 hK4 => ?_
  refine gc_region ?_
  refine g_v (.free rfl) rfl rfl (qt_loadS (n := 0) rfl rfl Try.underlying32 rfl (by kernel_rfl) rfl) ?_
  refine g_q (.free rfl) rfl rfl (qt_call rfl Try.func80 rfl (by decide) rfl (fun w M => askB_any w _ _ (mem_rdF M h0) (_) (bP (faithP F)) (fun hI w' hb v h => callsV_f (bnd := []) (vs := [_]) (caps := []) Try.func81 rfl (by decide) (isFaithF_any w' v F h hI)))) ?_
  refine g_v (.free rfl) rfl rfl (qt_extract rfl rfl rfl) ?_
  refine g_v (.free rfl) rfl rfl (qt_extract rfl rfl rfl) ?_
  refine g_v (.free rfl) rfl rfl (qt_assign rfl rfl) ?_
  refine g_v (.free rfl) rfl rfl (qt_assign rfl rfl) ?_
  refine g_nil ?_
  refine gk_then (hK4 _ _ ?_)
  refine gc_ret ?_
  refine ret_2 rfl rfl rfl  (fun w M => ?_)
  exact ⟨rfl, M.1⟩

set_option maxHeartbeats 1000000 in
set_option maxRecDepth 100000 in
theorem spec_KernelCongruence (w : World) (v : Value) (F : Fct) (h : RdF w v F) :
    Calls Try.prog 47 #[v] w (RetLI w (fKernelCongruence F).1 (fKernelCongruence F).2) := by
  have h0 := h
  obtain ⟨vx1, vx2, vx3, vx4, vx5, vx6, vx7, vx8, vx9, vx10, vk1, vk2, vk3, vk4, vk5, vk6, vk7, vk8, vk9, vk10, rfl, h1, h2, h3, h4, h5, h6, h7, h8, h9, h10⟩ := h.lists
  go_enter Try.func47, Try.ntmps47
  refine gc_enter (N := 52) rfl (look_cons (k := 0) rfl (look_nil _)) ?_
  refine gc_seq fun K1 hK1 => ?_
  refine gc_region ?_
  refine g_op (.free rfl) fun K3 hK3 => ?_
  refine go_box rfl rfl rfl rfl rfl ?_
  intro B2
  refine hK3 _ _ ?_
  refine g_v (.free rfl) rfl rfl (qt_assign rfl rfl) ?_
  refine g_v (.free rfl) rfl rfl (qt_assign rfl rfl) ?_
  refine g_nil ?_
  refine gk_then (hK1 _ _ ?_)
  refine gc_seq fun K4 hK4 => ?_
  refine gc_seq fun K5 hK5 => ?_
  refine gc_region ?_
  refine g_v (.free rfl) rfl rfl (qt_loadS (n := 0) rfl rfl Try.underlying32 rfl (by kernel_rfl) rfl) ?_
  refine g_q (.free rfl) rfl rfl (qt_call rfl Try.func52 rfl (by decide) rfl (fun w M => specIsF_any w _ _ (mem_rdF M h0))) ?_
  refine g_v (.free rfl) rfl rfl (qt_not rfl rfl) ?_
  refine g_nil ?_
  refine gk_then (hK5 _ _ ?_)
  refine gc_cond rfl (fun hc0 => ?_) (fun hc0 => ?_)
  · try simp only [decide_eq_true_eq, decide_eq_false_iff_not, Bool.not_eq_true', Bool.not_eq_false', Bool.not_eq_eq_eq_not, Bool.not_true, Bool.not_false, ne_eq, Decidable.not_not, Classical.not_not] at hc0
    refine gc_seq fun K6 hK6 => ?_
    refine gc_region ?_
    refine g_v (.free rfl) rfl rfl (qt_assign rfl rfl) ?_
    refine g_v (.free rfl) rfl rfl (qt_assign rfl rfl) ?_
    refine g_nil ?_
    refine gk_then (hK6 _ _ ?_)
    refine gc_ret ?_
    refine gk_then_ret ?_
    refine ret_2 rfl rfl rfl  (fun w M => ?_)
    rw [show fKernelCongruence F = ([], 1) from by unfold fKernelCongruence; rw [askL_f hc0, (fctErr_f hc0).1]]; exact ⟨_, rfl, Sl.nil _ _, M.1⟩
  · try simp only [decide_eq_true_eq, decide_eq_false_iff_not, Bool.not_eq_true', Bool.not_eq_false', Bool.not_eq_eq_eq_not, Bool.not_true, Bool.not_false, ne_eq, Decidable.not_not, Classical.not_not] at hc0
    refine gc_skip ?_
    refine gk_then (hK4 _ _ ?_)
    refine gc_seq fun K7 hK7 => ?_
    have hI := hc0
    have hF := isf_of hI
    have hS := (isCat_of hF.cs).toShapeP
    have hn40 := hS.n40; have htl := hS.tl; have la := hF.la
    refine gc_region ?_
    refine g_op (.free rfl) fun K9 hK9 => ?_
    refine go_sliceR0 rfl rfl rfl Try.underlying23 ?_
    intro B8
    refine hK9 _ _ ?_
    refine g_v (.free rfl) rfl rfl (qt_assign rfl rfl) ?_
    refine g_nil ?_
    refine gk_then (hK7 _ _ ?_)
    refine gc_seq fun K10 hK10 => ?_
    refine gc_seq fun K11 hK11 => ?_
    refine gc_region ?_
    refine g_v (.free rfl) rfl rfl (qt_assign rfl rfl) ?_
    refine g_nil ?_
    refine gk_then (hK11 _ _ ?_)
    refine gc_block ?_
    rw [show ∀ v us, own2U v us ([] : List (List Int)) = own2U v us (kpL (sameL F) 0 0) from fun v us => by rw [kpL_zero]]
    try simp only [List.nil_append, List.cons_append, List.append_assoc, List.set_cons_succ, List.set_cons_zero]
    refine gc_loop ([(0, _), (1, _), (2, _), (3, _), (9, _)] : Env) (fun s : Nat × (Option Addr) × Nat × (List Value) => (fun (k : Nat) (p : Option Addr) (q : Nat) (us : List Value) => ([(4, .slice p (kpL (sameL F) k 0).length q), (5, .int .i64 (k : Int))] : Env)) s.1 s.2.1 s.2.2.1 s.2.2.2) (fun s : Nat × (Option Addr) × Nat × (List Value) => (fun (k : Nat) (p : Option Addr) (q : Nat) (us : List Value) => ([(1, own2U (.slice p (kpL (sameL F) k 0).length q) us (kpL (sameL F) k 0))] : List (Nat × Itm))) s.1 s.2.1 s.2.2.1 s.2.2.2) (fun s : Nat × (Option Addr) × Nat × (List Value) => (fun (k : Nat) (p : Option Addr) (q : Nat) (us : List Value) => k ≤ F.a.length) s.1 s.2.1 s.2.2.1 s.2.2.2) (fun s : Nat × (Option Addr) × Nat × (List Value) => (fun (k : Nat) (p : Option Addr) (q : Nat) (us : List Value) => F.a.length - k) s.1 s.2.1 s.2.2.1 s.2.2.2) (0, _, _, _) (sub_cons rfl (sub_cons rfl (sub_cons rfl (sub_cons rfl (sub_cons rfl (sub_cons rfl (sub_cons rfl sub_nil))))))) rfl (Nat.zero_le _) ?_
    rintro ⟨k, p, q, us⟩ hinv KL12 hKL12
    simp only [updL, List.foldl_cons, List.foldl_nil, List.set_cons_succ, List.set_cons_zero, List.cons_append, List.nil_append] at hinv hKL12 ⊢
    have hk := hinv
    have hlk := kpL_len (sameL F) (a := k) (b := 0) (by omega) (by omega)
    refine gc_seq fun K13 hK13 => ?_
    refine gc_seq fun K14 hK14 => ?_
    refine gc_region ?_
    refine g_v (.free rfl) rfl rfl (qt_move rfl rfl) ?_
    refine g_v (.free rfl) rfl rfl (qt_field (z := 0) (off := 11) rfl rfl Try.underlying32 rfl (by kernel_rfl) rfl) ?_
    refine g_v (.free rfl) rfl rfl (qt_loadB (n := 0) rfl rfl Try.underlying22 rfl rfl rfl) ?_
    refine g_v (.free rfl) rfl rfl (qt_len rfl rfl ulE1 (fun w M => lenV_rd h10)) ?_
    refine g_v (.free rfl) rfl rfl (qt_lss rfl rfl rfl) ?_
    refine g_nil ?_
    refine gk_then (hK14 _ _ ?_)
    refine gc_cond rfl (fun hc1 => ?_) (fun hc1 => ?_)
    · try simp only [decide_eq_true_eq, decide_eq_false_iff_not, Bool.not_eq_true', Bool.not_eq_false', Bool.not_eq_eq_eq_not, Bool.not_true, Bool.not_false, ne_eq, Decidable.not_not, Classical.not_not] at hc1
      refine gc_skip ?_
      refine gk_then (hK13 _ _ ?_)
      refine gc_seq fun K15 hK15 => ?_
      refine gc_block ?_
      refine gc_seq fun K16 hK16 => ?_
      refine gc_region ?_
      refine g_v (.free rfl) rfl rfl (qt_assign rfl rfl) ?_
      refine g_nil ?_
      refine gk_then (hK16 _ _ ?_)
      refine gc_block ?_
      try simp only [List.nil_append, List.cons_append, List.append_assoc, List.set_cons_succ, List.set_cons_zero]
      refine gc_loop ([(0, _), (1, _), (2, _), (3, _), (5, _), (9, _), (15, _)] : Env) (fun s : Nat × (Option Addr) × Nat × (List Value) => (fun (g : Nat) (p : Option Addr) (q : Nat) (us : List Value) => ([(4, .slice p (kpL (sameL F) k g).length q), (6, .int .i64 (g : Int))] : Env)) s.1 s.2.1 s.2.2.1 s.2.2.2) (fun s : Nat × (Option Addr) × Nat × (List Value) => (fun (g : Nat) (p : Option Addr) (q : Nat) (us : List Value) => ([(1, own2U (.slice p (kpL (sameL F) k g).length q) us (kpL (sameL F) k g))] : List (Nat × Itm))) s.1 s.2.1 s.2.2.1 s.2.2.2) (fun s : Nat × (Option Addr) × Nat × (List Value) => (fun (g : Nat) (p : Option Addr) (q : Nat) (us : List Value) => g ≤ k) s.1 s.2.1 s.2.2.1 s.2.2.2) (fun s : Nat × (Option Addr) × Nat × (List Value) => (fun (g : Nat) (p : Option Addr) (q : Nat) (us : List Value) => k - g) s.1 s.2.1 s.2.2.1 s.2.2.2) (0, _, _, _) (sub_cons rfl (sub_cons rfl (sub_cons rfl (sub_cons rfl (sub_cons rfl (sub_cons rfl (sub_cons rfl (sub_cons rfl (sub_cons rfl sub_nil))))))))) rfl (Nat.zero_le _) ?_
      rintro ⟨g, p, q, us⟩ hinv KL17 hKL17
      simp only [updL, List.foldl_cons, List.foldl_nil, List.set_cons_succ, List.set_cons_zero, List.cons_append, List.nil_append] at hinv hKL17 ⊢
      have hg := hinv
      have hlg := kpL_len (sameL F) (a := k) (b := g) (by omega) (by omega)
      refine gc_seq fun K18 hK18 => ?_
      refine gc_seq fun K19 hK19 => ?_
      refine gc_region ?_
      refine g_v (.free rfl) rfl rfl (qt_move rfl rfl) ?_
      refine g_v (.free rfl) rfl rfl (qt_move rfl rfl) ?_
      refine g_v (.free rfl) rfl rfl (qt_lss rfl rfl rfl) ?_
      refine g_nil ?_
      refine gk_then (hK19 _ _ ?_)
      refine gc_cond rfl (fun hc2 => ?_) (fun hc2 => ?_)
      · try simp only [decide_eq_true_eq, decide_eq_false_iff_not, Bool.not_eq_true', Bool.not_eq_false', Bool.not_eq_eq_eq_not, Bool.not_true, Bool.not_false, ne_eq, Decidable.not_not, Classical.not_not] at hc2
        refine gc_skip ?_
        refine gk_then (hK18 _ _ ?_)
        refine gc_seq fun K20 hK20 => ?_
        refine gc_block ?_
        refine gc_seq fun K21 hK21 => ?_
        refine gc_draw (by kernel_rfl) ?_
        refine gd_v (.free rfl) rfl rfl (qt_field (z := 4) (off := 0) rfl rfl Try.underlying32 rfl (by kernel_rfl) rfl) ?_
        refine gd_v (.free rfl) rfl rfl (qt_loadP (n := 0) (z := 5) rfl rfl Try.underlying30 rfl (by kernel_rfl) rfl (by first | decide | exact Nat.le_refl _ | simp)) ?_
        refine gd_v (.free rfl) rfl rfl (qt_move rfl rfl) ?_
        refine gd_v (.free rfl) rfl rfl (qt_move rfl rfl) ?_
        refine gd_q (.free rfl) rfl rfl (qt_call rfl Try.func95 rfl (by decide) rfl (fun w M => specPar_any w _ _ (rdC_mk (mem_rd M h1) (mem_rd M h2) (mem_rd M h3) (mem_rd2 M h4)) _ _ (by first | assumption | omega) (by first | assumption | omega) (by first | assumption | omega) (by first | assumption | omega) (by first | assumption | omega))) ?_
        refine gd_splitv (.free rfl) rfl rfl (qt_move rfl rfl) (fun hs10_5 => ?_) (fun hs10_5 => ?_)
        · try simp only [decide_eq_true_eq, decide_eq_false_iff_not, Bool.not_eq_true', Bool.not_eq_false', Bool.not_eq_eq_eq_not, Bool.not_true, Bool.not_false, ne_eq, Decidable.not_not, Classical.not_not] at hs10_5
          refine gd_v (.held _ _ _ rfl rfl rfl) rfl rfl (qt_field (z := 0) (off := 11) rfl rfl Try.underlying32 rfl (by kernel_rfl) rfl) ?_
          refine gd_v (.held _ _ _ rfl rfl rfl) rfl rfl (qt_loadB (n := 0) rfl rfl Try.underlying22 rfl rfl rfl) ?_
          refine gd_v (.held _ _ _ rfl rfl rfl) rfl rfl (qt_move rfl rfl) ?_
          refine gd_v (.held _ _ _ rfl rfl rfl) rfl rfl (qt_index rfl rfl rfl ulE1 szE1 (fun w M => lenA_rd h10) (by omega) (by omega)) ?_
          refine gd_v (.held _ _ _ rfl rfl rfl) rfl rfl (qt_load1 rfl rfl Try.underlying2 rfl (fun w M => mem_rd M h10) (by omega) (by omega)) ?_
          refine gd_v (.held _ _ _ rfl rfl rfl) rfl rfl (qt_field (z := 0) (off := 11) rfl rfl Try.underlying32 rfl (by kernel_rfl) rfl) ?_
          refine gd_v (.held _ _ _ rfl rfl rfl) rfl rfl (qt_loadB (n := 0) rfl rfl Try.underlying22 rfl rfl rfl) ?_
          refine gd_v (.held _ _ _ rfl rfl rfl) rfl rfl (qt_move rfl rfl) ?_
          refine gd_v (.held _ _ _ rfl rfl rfl) rfl rfl (qt_index rfl rfl rfl ulE1 szE1 (fun w M => lenA_rd h10) (by omega) (by omega)) ?_
          refine gd_v (.held _ _ _ rfl rfl rfl) rfl rfl (qt_load1 rfl rfl Try.underlying2 rfl (fun w M => mem_rd M h10) (by omega) (by omega)) ?_
          refine gd_v (.held _ _ _ rfl rfl rfl) rfl rfl (qt_eql rfl rfl rfl) ?_
          refine gd_v (.free rfl) rfl rfl (qt_pick_t rfl rfl rfl) ?_
          refine gd_nil ?_
          refine gk_then (hK21 _ _ ?_)
          refine gc_cond rfl (fun hc3 => ?_) (fun hc3 => ?_)
          · try simp only [decide_eq_true_eq, decide_eq_false_iff_not, Bool.not_eq_true', Bool.not_eq_false', Bool.not_eq_eq_eq_not, Bool.not_true, Bool.not_false, ne_eq, Decidable.not_not, Classical.not_not] at hc3
            refine gc_region ?_
            refine g_v (.free rfl) rfl rfl (qt_move rfl rfl) ?_
            refine g_v (.free rfl) rfl rfl (qt_move rfl rfl) ?_
            refine g_v (.free rfl) rfl rfl (qt_move rfl rfl) ?_
            refine g_op (.free rfl) fun K23 hK23 => ?_
            refine go_slice2 rfl rfl rfl rfl rfl Try.underlying22 ?_
            intro B22
            refine hK23 _ _ ?_
            refine g_op (.free rfl) fun K25 hK25 => ?_
            refine go_sliceR1 (m := 2) rfl rfl rfl rfl Try.underlying23 rfl ?_
            intro B24
            refine hK25 _ _ ?_
            refine g_op (.free rfl) fun K27 hK27 => ?_
            refine go_appendRow (n := 1) (m := 2) (m' := 1) rfl rfl rfl Try.underlying23 rfl rfl rfl rfl rfl (by omega) ?_
            intro va26 vc26
            refine hK27 _ _ ?_
            refine g_v (.free rfl) rfl rfl (qt_assign rfl rfl) ?_
            refine g_nil ?_
            refine gk_block ?_
            refine gk_then (hK20 _ _ ?_)
            refine gc_region ?_
            refine g_v (.free rfl) rfl rfl (qt_move rfl rfl) ?_
            refine g_v (.free rfl) rfl rfl (qt_add rfl rfl rfl (by omega)) ?_
            refine g_v (.free rfl) rfl rfl (qt_assign rfl rfl) ?_
            refine g_nil ?_
            simp only [kpL_t (P := sameL F) (a := k) (b := g) ⟨bP_t' hs10_5, hc3⟩]
            refine gk_then (gk_take 2 ?_)
            refine gk_sub ?hs_28 (hKL17 (g + 1, _, _, _) ?hi_28 ?hm_28)
            case hs_28 => exact (sub_cons rfl (sub_cons rfl (sub_cons rfl (sub_cons rfl (sub_cons rfl (sub_cons rfl (sub_cons rfl (sub_cons rfl (sub_cons rfl sub_nil)))))))))
            case hi_28 => omega
            case hm_28 => omega
          · try simp only [decide_eq_true_eq, decide_eq_false_iff_not, Bool.not_eq_true', Bool.not_eq_false', Bool.not_eq_eq_eq_not, Bool.not_true, Bool.not_false, ne_eq, Decidable.not_not, Classical.not_not] at hc3
            refine gc_skip ?_
            refine gk_block ?_
            refine gk_then (hK20 _ _ ?_)
            refine gc_region ?_
            refine g_v (.free rfl) rfl rfl (qt_move rfl rfl) ?_
            refine g_v (.free rfl) rfl rfl (qt_add rfl rfl rfl (by omega)) ?_
            refine g_v (.free rfl) rfl rfl (qt_assign rfl rfl) ?_
            refine g_nil ?_
            rw [kpL_f (P := sameL F) (a := k) (b := g) fun hh => hc3 hh.2]
            refine gk_then (gk_take 2 ?_)
            refine gk_sub ?hs_29 (hKL17 (g + 1, _, _, _) ?hi_29 ?hm_29)
            case hs_29 => exact (sub_cons rfl (sub_cons rfl (sub_cons rfl (sub_cons rfl (sub_cons rfl (sub_cons rfl (sub_cons rfl (sub_cons rfl (sub_cons rfl sub_nil)))))))))
            case hi_29 => omega
            case hm_29 => omega
        · try simp only [decide_eq_true_eq, decide_eq_false_iff_not, Bool.not_eq_true', Bool.not_eq_false', Bool.not_eq_eq_eq_not, Bool.not_true, Bool.not_false, ne_eq, Decidable.not_not, Classical.not_not] at hs10_5
          refine gd_skip (.not _ _ _ _ rfl rfl rfl rfl) rfl rfl ?_
          refine gd_skip (.not _ _ _ _ rfl rfl rfl rfl) rfl rfl ?_
          refine gd_skip (.not _ _ _ _ rfl rfl rfl rfl) rfl rfl ?_
          refine gd_skip (.not _ _ _ _ rfl rfl rfl rfl) rfl rfl ?_
          refine gd_skip (.not _ _ _ _ rfl rfl rfl rfl) rfl rfl ?_
          refine gd_skip (.not _ _ _ _ rfl rfl rfl rfl) rfl rfl ?_
          refine gd_skip (.not _ _ _ _ rfl rfl rfl rfl) rfl rfl ?_
          refine gd_skip (.not _ _ _ _ rfl rfl rfl rfl) rfl rfl ?_
          refine gd_skip (.not _ _ _ _ rfl rfl rfl rfl) rfl rfl ?_
          refine gd_skip (.not _ _ _ _ rfl rfl rfl rfl) rfl rfl ?_
          refine gd_skip (.not _ _ _ _ rfl rfl rfl rfl) rfl rfl ?_
          refine gd_v (.free rfl) rfl rfl (qt_pick_f rfl rfl rfl) ?_
          refine gd_nil ?_
          refine gk_then (hK21 _ _ ?_)
          refine gc_cond_f rfl ?_
          refine gc_skip ?_
          refine gk_block ?_
          refine gk_then (hK20 _ _ ?_)
          refine gc_region ?_
          refine g_v (.free rfl) rfl rfl (qt_move rfl rfl) ?_
          refine g_v (.free rfl) rfl rfl (qt_add rfl rfl rfl (by omega)) ?_
          refine g_v (.free rfl) rfl rfl (qt_assign rfl rfl) ?_
          refine g_nil ?_
          rw [kpL_f (P := sameL F) (a := k) (b := g) fun hh => bP_f' hs10_5 hh.1]
          refine gk_then (gk_take 2 ?_)
          refine gk_sub ?hs_30 (hKL17 (g + 1, _, _, _) ?hi_30 ?hm_30)
          case hs_30 => exact (sub_cons rfl (sub_cons rfl (sub_cons rfl (sub_cons rfl (sub_cons rfl (sub_cons rfl (sub_cons rfl (sub_cons rfl (sub_cons rfl sub_nil)))))))))
          case hi_30 => omega
          case hm_30 => omega
      · try simp only [decide_eq_true_eq, decide_eq_false_iff_not, Bool.not_eq_true', Bool.not_eq_false', Bool.not_eq_eq_eq_not, Bool.not_true, Bool.not_false, ne_eq, Decidable.not_not, Classical.not_not] at hc2
        refine gc_exit ?_
        refine gk_then_exit ?_
        refine gk_then_exit ?_
        refine gk_block_hit ?_
        refine gk_block ?_
        refine gk_then (hK15 _ _ ?_)
        refine gc_region ?_
        refine g_v (.free rfl) rfl rfl (qt_move rfl rfl) ?_
        refine g_v (.free rfl) rfl rfl (qt_add rfl rfl rfl (by omega)) ?_
        refine g_v (.free rfl) rfl rfl (qt_assign rfl rfl) ?_
        refine g_nil ?_
        obtain rfl : g = k := by omega
        simp only [kpL_row]
        refine gk_then (gk_take 2 ?_)
        refine gk_sub ?hs_31 (hKL12 (g + 1, _, _, _) ?hi_31 ?hm_31)
        case hs_31 => exact (sub_cons rfl (sub_cons rfl (sub_cons rfl (sub_cons rfl (sub_cons rfl (sub_cons rfl (sub_cons rfl sub_nil)))))))
        case hi_31 => omega
        case hm_31 => omega
    · try simp only [decide_eq_true_eq, decide_eq_false_iff_not, Bool.not_eq_true', Bool.not_eq_false', Bool.not_eq_eq_eq_not, Bool.not_true, Bool.not_false, ne_eq, Decidable.not_not, Classical.not_not] at hc1
      refine gc_exit ?_
      refine gk_then_exit ?_
      refine gk_then_exit ?_
      refine gk_block_hit ?_
      refine gk_then (hK10 _ _ ?_)
      refine gc_seq fun K32 hK32 => ?_
      obtain rfl : k = F.a.length := by omega
      refine gc_region ?_
      refine g_v (.free rfl) rfl rfl (qt_field (z := 0) (off := 11) rfl rfl Try.underlying32 rfl (by kernel_rfl) rfl) ?_
      refine g_v (.free rfl) rfl rfl (qt_loadB (n := 0) rfl rfl Try.underlying22 rfl rfl rfl) ?_
      refine g_v (.free rfl) rfl rfl (qt_len rfl rfl ulE1 (fun w M => lenV_rd h10)) ?_
      refine g_v (.free rfl) rfl rfl (qt_move rfl rfl) ?_
      refine g_op (.free rfl) fun K34 hK34 => ?_
      refine go_callL rfl rfl rfl Try.func96 rfl (by decide) rfl (fun w M => specJoin_any w (F.a.length) _ (kpL (sameL F) F.a.length 0) (by first | assumption | omega) (mem_rdU (n := 1) M rfl) (kpL_pair)) ?_
      intro va33 vc33
      refine hK34 _ _ ?_
      refine g_v (.free rfl) rfl rfl (qt_assign rfl rfl) ?_
      refine g_v (.free rfl) rfl rfl (qt_assign rfl rfl) ?_
      refine g_nil ?_
      refine gk_then (hK32 _ _ ?_)
      refine gc_ret ?_
      refine ret_2 rfl rfl rfl  (fun w M => ?_)
      rw [show fKernelCongruence F = (clsE (plE F), 0) from by unfold fKernelCongruence; rw [askL_t hc0, (fctErr_t hc0).1]]
      rw [ker_join] at M ⊢
      exact ⟨_, rfl, mem_own1 (n := 2) M rfl, M.1⟩

set_option maxHeartbeats 1000000 in
set_option maxRecDepth 100000 in
theorem impl_KernelCongruence (w : World) (v : Value) (F : Fct) (h : RdF w v F) :
    Calls Try.prog 48 #[v] w (RetLI w (fKernelCongruence F).1 (fKernelCongruence F).2) := by
  have h0 := h
  obtain ⟨vx1, vx2, vx3, vx4, vx5, vx6, vx7, vx8, vx9, vx10, vk1, vk2, vk3, vk4, vk5, vk6, vk7, vk8, vk9, vk10, rfl, h1, h2, h3, h4, h5, h6, h7, h8, h9, h10⟩ := h.lists
  go_enter Try.func48, Try.ntmps48
  refine gc_enter (N := 8) rfl (look_cons (k := 0) rfl (look_nil _)) ?_
  refine gc_seq fun K1 hK1 => ?_
  refine gc_region ?_
  refine g_op (.free rfl) fun K3 hK3 => ?_
  refine go_box rfl rfl rfl rfl rfl ?_
  intro B2
  refine hK3 _ _ ?_
  refine g_v (.free rfl) rfl rfl (qt_assign rfl rfl) ?_
  refine g_v (.free rfl) rfl rfl (qt_assign rfl rfl) ?_
  refine g_nil ?_
  refine gk_then (hK1 _ _ ?_)
  refine gc_seq fun K4 hK4 => ?_
  refine gc_region ?_
  refine g_v (.free rfl) rfl rfl (qt_loadS (n := 0) rfl rfl Try.underlying32 rfl (by kernel_rfl) rfl) ?_
  refine g_op (.free rfl) fun K6 hK6 => ?_
  refine go_callLI rfl rfl rfl Try.func93 rfl (by decide) rfl (fun w M => askL_any w _ _ (mem_rdF M h0) (_) (clsE (plE F)) (fun hI w' hb v h => callsV_f (bnd := []) (vs := [_]) (caps := []) Try.func97 rfl (by decide) (kernelF_any w' v F h hI))) ?_
  intro va5 vc5
  refine hK6 _ _ ?_
  refine g_v (.free rfl) rfl rfl (qt_extract rfl rfl rfl) ?_
  refine g_v (.free rfl) rfl rfl (qt_extract rfl rfl rfl) ?_
  refine g_v (.free rfl) rfl rfl (qt_assign rfl rfl) ?_
  refine g_v (.free rfl) rfl rfl (qt_assign rfl rfl) ?_
  refine g_nil ?_
  refine gk_then (hK4 _ _ ?_)
  refine gc_ret ?_
  refine ret_2 rfl rfl rfl  (fun w M => ?_)
  exact ⟨_, rfl, mem_own1 (n := 1) M rfl, M.1⟩

end Go.Proofs.Ytpfcfhjpgngneaa
