
/- The category of a preorder: the program's. -/
import Derived.Test.YtbfenibkbmkcaabPre
set_option linter.unusedSimpArgs false
set_option linter.unusedVariables false
set_option linter.unusedSectionVars false
namespace Go.Proofs.Ytbfenibkbmkcaab
open Go.RowKit


theorem peL_nodup (r : List (List Int)) : ∀ i k, (peL r i k).Nodup := by
  have step : ∀ i, (peL r i 0).Nodup → ∀ k, (peL r i k).Nodup := by
    intro i h0 k
    induction k with
    | zero => exact h0
    | succ k ih =>
      by_cases h : at0 (row2 r (i : Int)) (k : Int) = 1
      · rw [← peL_t h]
        refine List.nodup_append.2 ⟨ih, by simp, fun x hx y hy he => ?_⟩
        simp only [List.mem_singleton] at hy
        subst hy; subst he
        obtain ⟨a, b, he, _, hc⟩ := peL_in hx
        simp only [Prod.mk.injEq] at he
        omega
      · rw [← peL_f h]; exact ih
  intro i
  induction i with
  | zero => exact step 0 (by simp [peL, peR])
  | succ i ih => exact step (i + 1) (by rw [← peL_row]; exact ih r.length)
theorem peL_pre1 (r : List (List Int)) (i k m : Nat) : peL r i k <+: peL r i (k + m) := by
  induction m with
  | zero => exact List.prefix_refl _
  | succ m ih =>
    refine ih.trans ?_
    by_cases h : at0 (row2 r (i : Int)) ((k + m : Nat) : Int) = 1
    · rw [← Nat.add_assoc, ← peL_t h]; exact List.prefix_append _ _
    · rw [← Nat.add_assoc, ← peL_f h]; exact List.prefix_refl _
theorem peL_pre2 (r : List (List Int)) (i m : Nat) : peL r i 0 <+: peL r (i + m) 0 := by
  induction m with
  | zero => exact List.prefix_refl _
  | succ m ih =>
    have h := peL_pre1 r (i + m) 0 r.length
    rw [Nat.zero_add, peL_row] at h
    exact ih.trans h
theorem peL_pre {r : List (List Int)} {i k : Nat} (hi : i < r.length) (hk : k ≤ r.length) : peL r i k <+: peL r r.length 0 := by
  have h1 := peL_pre1 r i k (r.length - k)
  rw [show k + (r.length - k) = r.length from by omega, peL_row] at h1
  have h2 := peL_pre2 r (i + 1) (r.length - (i + 1))
  rw [show i + 1 + (r.length - (i + 1)) = r.length from by omega] at h2
  exact h1.trans h2
theorem peL_pos {r : List (List Int)} {i j : Nat} (hi : i < r.length) (hj : j < r.length) (h : at0 (row2 r (i : Int)) (j : Int) = 1) : posE (peL r r.length 0) ((i : Int), (j : Int), true) = ((fsL r i j).length : Int) := by
  have hp := peL_pre (r := r) (i := i) (k := j + 1) hi (by omega)
  rw [← peL_t h] at hp
  obtain ⟨rest, he⟩ := hp
  have hlen : (peL r i j).length < (peL r r.length 0).length := by rw [← he]; simp
  rw [fsL_len]
  refine posE_at (peL_nodup r _ _) hlen ?_
  rw [atE_eq hlen]
  simp [← he]
theorem pre_s {r : List (List Int)} {f : Nat} (h : f < (peL r r.length 0).length) : at0 (psF r) (f : Int) = (atE (peL r r.length 0) (f : Int)).1 := by
  rw [atE_eq h, at0_nat]; simp [psF, fsL, List.getD_eq_getElem?_getD, List.getElem?_eq_getElem h]
theorem pre_t' {r : List (List Int)} {f : Nat} (h : f < (peL r r.length 0).length) : at0 (psT r) (f : Int) = (atE (peL r r.length 0) (f : Int)).2.1 := by
  rw [atE_eq h, at0_nat]; simp [psT, tsL, List.getD_eq_getElem?_getD, List.getElem?_eq_getElem h]
theorem pre_build {r : List (List Int)} (hP : PreP r) : buildE (r.length : Int) (peL r r.length 0) (fun _ => true) (fun a b => a && b) = posetC r := by
  have hl : (psF r).length = (peL r r.length 0).length := fsL_len r r.length 0
  have hl2 : (psT r).length = (peL r r.length 0).length := (tsL_len r r.length 0).trans hl
  have e1 : psF r = tabTo (fun i => (atE (peL r r.length 0) (i : Int)).1) (peL r r.length 0).length := tabTo_ext hl fun j hj => pre_s hj
  have e2 : psT r = tabTo (fun i => (atE (peL r r.length 0) (i : Int)).2.1) (peL r r.length 0).length := tabTo_ext hl2 fun j hj => pre_t' hj
  have e3 : tabTo (fun x => ((fsL r x x).length : Int)) r.length = tabTo (fun x => posE (peL r r.length 0) ((x : Int), (x : Int), true)) r.length := tabTo_congr fun x hx => (peL_pos hx hx (hP.2 x hx).1).symm
  have e4 : rowsTo (fun f => tabTo (fun g => psM r f g) (psF r).length) (psF r).length = rowsTo (fun i => rowE (peL r r.length 0) (fun a b => a && b) (atE (peL r r.length 0) (i : Int))) (peL r r.length 0).length := by
    rw [hl]
    refine rowsTo_congr fun f hf => tabTo_congr fun g hg => ?_
    obtain ⟨a, b, he, hr, hc⟩ := peL_in (atE_mem hf)
    obtain ⟨a', b', he', hr', hc'⟩ := peL_in (atE_mem hg)
    have h1 := pre_s hf; have h2 := pre_t' hf; have h3 := pre_s hg; have h4 := pre_t' hg
    rw [he] at h1 h2; rw [he'] at h3 h4
    simp only at h1 h2 h3 h4
    unfold cellE
    rw [he, he']
    simp only [Bool.and_true]
    by_cases hb : b = a'
    · subst hb
      rw [psM_t (by rw [h2, h3]), h1, h4, if_pos rfl]
      have ha : a < r.length := by omega
      have hb' : b < r.length := by omega
      have hb2 : b' < r.length := by omega
      rw [peL_pos ha hb2 ((hP.2 a ha).2 b hb' b' hb2 hr hr')]
      simp
    · rw [psM_f (by rw [h2, h3]; omega), if_neg (by omega)]
  unfold buildE posetC
  rw [e3, e4, ← e1, ← e2]
  simp only [Int.toNat_natCast]
theorem pre_made {r : List (List Int)} (h : bP (PreP r) = true) (hn : r.length ≤ 8) : madeE (r.length : Int) (peL r r.length 0) (fun _ => true) (fun a b => a && b) = (fPreorderCategory r).1 ∧ madeEc (r.length : Int) (peL r r.length 0) = (fPreorderCategory r).2 := by
  have hl : (psF r).length = (peL r r.length 0).length := fsL_len r r.length 0
  by_cases hf : FitP (posetC r)
  · have h40 : (psF r).length ≤ 40 := hf.2
    have hm := madeE_t (n := (r.length : Int)) (es := peL r r.length 0) (u := fun _ => true) (th := fun a b => a && b) (by omega) (by omega)
    rw [pre_t h hn hf, hm.1, hm.2, pre_build (bP_t' h)]; exact ⟨rfl, rfl⟩
  · have h40 : ¬ ((r.length : Int) ≤ 8 ∧ (peL r r.length 0).length ≤ 40) := fun h => hf ⟨h.1, by show (psF r).length ≤ 40; omega⟩
    have hm := madeE_f (n := (r.length : Int)) (es := peL r r.length 0) (u := fun _ => true) (th := fun a b => a && b) h40
    rw [pre_l h hn hf, hm.1, hm.2]; exact ⟨rfl, rfl⟩

set_option maxHeartbeats 1000000 in
set_option maxRecDepth 100000 in
theorem impl_PreorderCategory (w : World) (u : Value) (r : List (List Int)) (hu : Rd2 w u r) :
    Calls Try.prog 29 #[u] w (RetCI w (fPreorderCategory r).1 (fPreorderCategory r).2) := by
  obtain ⟨ua, uc, rfl⟩ := rd2_form hu
  have hul := rd2_len hu
  go_enter Try.func29, Try.ntmps29
  refine gc_enter (N := 46) rfl (look_cons (k := 0) rfl (look_nil _)) ?_
  refine gc_seq fun K1 hK1 => ?_
  refine gc_region ?_
  refine g_op (.free rfl) fun K3 hK3 => ?_
  refine go_alloc (z := (.agg #[.int .i64 0, .slice none 0 0, .slice none 0 0, .slice none 0 0, .slice none 0 0])) (cs := [.int .i64 0, .slice none 0 0, .slice none 0 0, .slice none 0 0, .slice none 0 0]) rfl rfl rfl (fun w => by kernel_rfl) rfl ?_
  intro B2
  refine hK3 _ _ ?_
  refine g_v (.free rfl) rfl rfl (qt_assign rfl rfl) ?_
  refine g_nil ?_
  refine gk_then (hK1 _ _ ?_)
  refine gc_seq fun K4 hK4 => ?_
  refine gc_seq fun K5 hK5 => ?_
  refine gc_region ?_
  refine g_v (.free rfl) rfl rfl (qt_move rfl rfl) ?_
  refine g_q (.free rfl) rfl rfl (qt_call rfl Try.func54 rfl (by decide) rfl (fun w M => isPreorder_any w _ _ (mem_rd2 M hu))) ?_
  refine g_v (.free rfl) rfl rfl (qt_not rfl rfl) ?_
  refine g_nil ?_
  refine gk_then (hK5 _ _ ?_)
  refine gc_cond rfl (fun hc0 => ?_) (fun hc0 => ?_)
  · try simp only [decide_eq_true_eq, decide_eq_false_iff_not, Bool.not_eq_true', Bool.not_eq_false', Bool.not_eq_eq_eq_not, Bool.not_true, Bool.not_false, ne_eq, Decidable.not_not, Classical.not_not] at hc0
    refine gc_seq fun K6 hK6 => ?_
    refine gc_region ?_
    refine g_v (.free rfl) rfl rfl (qt_build rfl rfl bt0_Category) ?_
    refine g_op (.free rfl) fun K7 hK7 => ?_
    refine go_storeS (n := 0) rfl rfl rfl rfl (by kernel_rfl) rfl rfl rfl ?_
    refine hK7 _ _ ?_
    refine g_v (.free rfl) rfl rfl (qt_assign rfl rfl) ?_
    refine g_nil ?_
    refine gk_then (hK6 _ _ ?_)
    refine gc_ret ?_
    refine gk_then_ret ?_
    refine ret_SI (n := 0) rfl rfl rfl Try.underlying25 rfl (by kernel_rfl) rfl (fun w M => ?_)
    rw [pre_n hc0]; exact ⟨_, rfl, ownC_zero _ _, M.1⟩
  · try simp only [decide_eq_true_eq, decide_eq_false_iff_not, Bool.not_eq_true', Bool.not_eq_false', Bool.not_eq_eq_eq_not, Bool.not_true, Bool.not_false, ne_eq, Decidable.not_not, Classical.not_not] at hc0
    refine gc_skip ?_
    refine gk_then (hK4 _ _ ?_)
    refine gc_seq fun K8 hK8 => ?_
    refine gc_region ?_
    refine g_v (.free rfl) rfl rfl (qt_move rfl rfl) ?_
    refine g_v (.free rfl) rfl rfl (qt_len rfl rfl ulE2 (fun w M => lenV_rd2 hu)) ?_
    refine g_v (.free rfl) rfl rfl (qt_assign rfl rfl) ?_
    refine g_nil ?_
    refine gk_then (hK8 _ _ ?_)
    refine gc_seq fun K9 hK9 => ?_
    refine gc_seq fun K10 hK10 => ?_
    refine gc_region ?_
    refine g_v (.free rfl) rfl rfl (qt_move rfl rfl) ?_
    refine g_q (.free rfl) rfl rfl (qt_call rfl Try.func28 rfl (by decide) rfl (fun w M => isObCount_any w _)) ?_
    refine g_v (.free rfl) rfl rfl (qt_not rfl rfl) ?_
    refine g_nil ?_
    refine gk_then (hK10 _ _ ?_)
    refine gc_cond rfl (fun hc1 => ?_) (fun hc1 => ?_)
    · try simp only [decide_eq_true_eq, decide_eq_false_iff_not, Bool.not_eq_true', Bool.not_eq_false', Bool.not_eq_eq_eq_not, Bool.not_true, Bool.not_false, ne_eq, Decidable.not_not, Classical.not_not] at hc1
      refine gc_seq fun K11 hK11 => ?_
      refine gc_region ?_
      refine g_v (.free rfl) rfl rfl (qt_build rfl rfl bt0_Category) ?_
      refine g_op (.free rfl) fun K12 hK12 => ?_
      refine go_storeS (n := 0) rfl rfl rfl rfl (by kernel_rfl) rfl rfl rfl ?_
      refine hK12 _ _ ?_
      refine g_v (.free rfl) rfl rfl (qt_assign rfl rfl) ?_
      refine g_nil ?_
      refine gk_then (hK11 _ _ ?_)
      refine gc_ret ?_
      refine gk_then_ret ?_
      refine ret_SI (n := 0) rfl rfl rfl Try.underlying25 rfl (by kernel_rfl) rfl (fun w M => ?_)
      rw [pre_r hc0 (by omega)]; exact ⟨_, rfl, ownC_zero _ _, M.1⟩
    · try simp only [decide_eq_true_eq, decide_eq_false_iff_not, Bool.not_eq_true', Bool.not_eq_false', Bool.not_eq_eq_eq_not, Bool.not_true, Bool.not_false, ne_eq, Decidable.not_not, Classical.not_not] at hc1
      refine gc_skip ?_
      refine gk_then (hK9 _ _ ?_)
      refine gc_seq fun K13 hK13 => ?_
      have hP := bP_t' hc0
      have hsq := hP.1
      have hn8 : r.length ≤ 8 := by omega
      refine gc_region ?_
      refine g_v (.free rfl) rfl rfl (qt_move rfl rfl) ?_
      refine g_v (.free rfl) rfl rfl (qt_build rfl rfl bt023_plan_bool) ?_
      refine g_op (.free rfl) fun K15 hK15 => ?_
      refine go_alloc (z := (.agg #[.int .i64 0, .slice none 0 0, .nilFunc, .nilFunc])) (cs := [.int .i64 0, .slice none 0 0, .nilFunc, .nilFunc]) rfl rfl rfl (fun w => by kernel_rfl) rfl ?_
      intro B14
      refine hK15 _ _ ?_
      refine g_op (.free rfl) fun K16 hK16 => ?_
      refine go_storeS (n := 1) rfl rfl rfl rfl (by kernel_rfl) rfl rfl rfl ?_
      refine hK16 _ _ ?_
      refine g_nil ?_
      refine gk_then (hK13 _ _ ?_)
      refine gc_seq fun K17 hK17 => ?_
      refine gc_seq fun K18 hK18 => ?_
      refine gc_region ?_
      refine g_v (.free rfl) rfl rfl (qt_move rfl rfl) ?_
      refine g_v (.free rfl) rfl rfl (qt_move rfl rfl) ?_
      refine g_nil ?_
      refine gk_then (hK18 _ _ ?_)
      refine gc_block ?_
      refine gc_nilE lab_bool ?_
      try simp only [List.nil_append, List.cons_append, List.append_assoc, List.set_cons_succ, List.set_cons_zero]
      refine gc_loop ([(0, _), (2, _), (3, _), (4, _), (5, _), (10, _), (16, _), (20, _)] : Env) (fun s : Nat × (Option Addr) × Nat => (fun (k : Nat) (a : Option Addr) (q : Nat) => ([(21, .int .i64 (k : Int))] : Env)) s.1 s.2.1 s.2.2) (fun s : Nat × (Option Addr) × Nat => (fun (k : Nat) (a : Option Addr) (q : Nat) => ([(1, bxI B14 69 [.int .i64 r.length, .slice a (peL r k 0).length q, .func (.func 55) #[] #[], .func (.func 56) #[] #[]]), (2, ownEI lab_bool (.slice a (peL r k 0).length q) (peL r k 0))] : List (Nat × Itm))) s.1 s.2.1 s.2.2) (fun s : Nat × (Option Addr) × Nat => (fun (k : Nat) (a : Option Addr) (q : Nat) => k ≤ r.length) s.1 s.2.1 s.2.2) (fun s : Nat × (Option Addr) × Nat => (fun (k : Nat) (a : Option Addr) (q : Nat) => r.length - k) s.1 s.2.1 s.2.2) (0, _, _) (sub_cons rfl (sub_cons rfl (sub_cons rfl (sub_cons rfl (sub_cons rfl (sub_cons rfl (sub_cons rfl (sub_cons rfl (sub_cons rfl sub_nil))))))))) rfl (Nat.zero_le _) ?_
      rintro ⟨k, a, q⟩ hinv KL19 hKL19
      simp only [updL, List.foldl_cons, List.foldl_nil, List.set_cons_succ, List.set_cons_zero, List.cons_append, List.nil_append] at hinv hKL19 ⊢
      have hk := hinv
      refine gc_seq fun K20 hK20 => ?_
      refine gc_region ?_
      refine g_v (.free rfl) rfl rfl (qt_lss rfl rfl rfl) ?_
      refine g_nil ?_
      refine gk_then (hK20 _ _ ?_)
      refine gc_seq fun K21 hK21 => ?_
      refine gc_cond rfl (fun hc2 => ?_) (fun hc2 => ?_)
      · try simp only [decide_eq_true_eq, decide_eq_false_iff_not, Bool.not_eq_true', Bool.not_eq_false', Bool.not_eq_eq_eq_not, Bool.not_true, Bool.not_false, ne_eq, Decidable.not_not, Classical.not_not] at hc2
        refine gc_skip ?_
        refine gk_then (hK21 _ _ ?_)
        refine gc_seq fun K22 hK22 => ?_
        refine gc_block ?_
        refine gc_seq fun K23 hK23 => ?_
        refine gc_region ?_
        refine g_v (.free rfl) rfl rfl (qt_move rfl rfl) ?_
        refine g_v (.free rfl) rfl rfl (qt_assign rfl rfl) ?_
        refine g_nil ?_
        refine gk_then (hK23 _ _ ?_)
        refine gc_seq fun K24 hK24 => ?_
        refine gc_region ?_
        refine g_v (.free rfl) rfl rfl (qt_move rfl rfl) ?_
        refine g_v (.free rfl) rfl rfl (qt_move rfl rfl) ?_
        refine g_nil ?_
        refine gk_then (hK24 _ _ ?_)
        refine gc_block ?_
        try simp only [List.nil_append, List.cons_append, List.append_assoc, List.set_cons_succ, List.set_cons_zero]
        refine gc_loop ([(0, _), (2, _), (3, _), (4, _), (5, _), (6, _), (10, _), (16, _), (20, _), (21, _), (22, _), (24, _)] : Env) (fun s : Nat × (Option Addr) × Nat => (fun (l : Nat) (a : Option Addr) (q : Nat) => ([(25, .int .i64 (l : Int))] : Env)) s.1 s.2.1 s.2.2) (fun s : Nat × (Option Addr) × Nat => (fun (l : Nat) (a : Option Addr) (q : Nat) => ([(1, bxI B14 69 [.int .i64 r.length, .slice a (peL r k l).length q, .func (.func 55) #[] #[], .func (.func 56) #[] #[]]), (2, ownEI lab_bool (.slice a (peL r k l).length q) (peL r k l))] : List (Nat × Itm))) s.1 s.2.1 s.2.2) (fun s : Nat × (Option Addr) × Nat => (fun (l : Nat) (a : Option Addr) (q : Nat) => l ≤ r.length) s.1 s.2.1 s.2.2) (fun s : Nat × (Option Addr) × Nat => (fun (l : Nat) (a : Option Addr) (q : Nat) => r.length - l) s.1 s.2.1 s.2.2) (0, _, _) (sub_cons rfl (sub_cons rfl (sub_cons rfl (sub_cons rfl (sub_cons rfl (sub_cons rfl (sub_cons rfl (sub_cons rfl (sub_cons rfl (sub_cons rfl (sub_cons rfl (sub_cons rfl (sub_cons rfl sub_nil))))))))))))) rfl (Nat.zero_le _) ?_
        rintro ⟨l, a, q⟩ hinv KL25 hKL25
        simp only [updL, List.foldl_cons, List.foldl_nil, List.set_cons_succ, List.set_cons_zero, List.cons_append, List.nil_append] at hinv hKL25 ⊢
        have hl := hinv
        refine gc_seq fun K26 hK26 => ?_
        refine gc_region ?_
        refine g_v (.free rfl) rfl rfl (qt_lss rfl rfl rfl) ?_
        refine g_nil ?_
        refine gk_then (hK26 _ _ ?_)
        refine gc_seq fun K27 hK27 => ?_
        refine gc_cond rfl (fun hc3 => ?_) (fun hc3 => ?_)
        · try simp only [decide_eq_true_eq, decide_eq_false_iff_not, Bool.not_eq_true', Bool.not_eq_false', Bool.not_eq_eq_eq_not, Bool.not_true, Bool.not_false, ne_eq, Decidable.not_not, Classical.not_not] at hc3
          refine gc_skip ?_
          refine gk_then (hK27 _ _ ?_)
          refine gc_seq fun K28 hK28 => ?_
          refine gc_block ?_
          refine gc_seq fun K29 hK29 => ?_
          refine gc_region ?_
          refine g_v (.free rfl) rfl rfl (qt_move rfl rfl) ?_
          refine g_v (.free rfl) rfl rfl (qt_assign rfl rfl) ?_
          refine g_nil ?_
          refine gk_then (hK29 _ _ ?_)
          refine gc_seq fun K30 hK30 => ?_
          have hq1 := (hsq k (by omega)).1
          have hpl := peL_len hn8 k l
          refine gc_region ?_
          refine g_v (.free rfl) rfl rfl (qt_move rfl rfl) ?_
          refine g_v (.free rfl) rfl rfl (qt_move rfl rfl) ?_
          refine g_v (.free rfl) rfl rfl (qt_index rfl rfl rfl ulE2 szE2 (fun w M => lenA_rd2 hu) (by omega) (by omega)) ?_
          refine g_load2 (.free rfl) rfl rfl rfl rfl Try.underlying22 rfl hu (by omega) (by omega) ?_
          intro ra31 rc31 hr31
          refine g_v (.free rfl) rfl rfl (qt_move rfl rfl) ?_
          refine g_v (.free rfl) rfl rfl (qt_index rfl rfl rfl ulE1 szE1 (fun w M => lenA_rd hr31) (by omega) (by omega)) ?_
          refine g_v (.free rfl) rfl rfl (qt_load1 rfl rfl Try.underlying2 rfl (fun w M => mem_rd M hr31) (by omega) (by omega)) ?_
          refine g_v (.free rfl) rfl rfl (qt_eql rfl rfl rfl) ?_
          refine g_nil ?_
          refine gk_then (hK30 _ _ ?_)
          refine gc_cond rfl (fun hc4 => ?_) (fun hc4 => ?_)
          · try simp only [decide_eq_true_eq, decide_eq_false_iff_not, Bool.not_eq_true', Bool.not_eq_false', Bool.not_eq_eq_eq_not, Bool.not_true, Bool.not_false, ne_eq, Decidable.not_not, Classical.not_not] at hc4
            refine gc_region ?_
            refine g_v (.free rfl) rfl rfl (qt_move rfl rfl) ?_
            refine g_v (.free rfl) rfl rfl (qt_move rfl rfl) ?_
            refine g_v (.free rfl) rfl rfl (qt_build rfl rfl bt_arrowEnds) ?_
            refine g_op (.free rfl) fun K33 hK33 => ?_
            refine go_two (n := 1) (m := 2) (m' := 1) (σ := Option Addr × Nat) rfl rfl rfl Try.func57 rfl (by decide) rfl rfl rfl (fun z => rfl) (fun R w M => add_bool _ w R _ _ _ _ _ _ _ _ _ _ (by omega) M) ?_
            intro ⟨sa32, sq32⟩
            refine hK33 _ _ ?_
            refine g_nil ?_
            refine gk_block ?_
            refine gk_then (hK28 _ _ ?_)
            refine gc_region ?_
            refine g_v (.free rfl) rfl rfl (qt_add rfl rfl rfl (by omega)) ?_
            refine g_v (.free rfl) rfl rfl (qt_move rfl rfl) ?_
            refine g_nil ?_
            simp only [peL_t hc4]
            refine gk_then (gk_take 3 ?_)
            refine gk_sub ?hs_34 (hKL25 (l + 1, _, _) ?hi_34 ?hm_34)
            case hs_34 => exact (sub_cons rfl (sub_cons rfl (sub_cons rfl (sub_cons rfl (sub_cons rfl (sub_cons rfl (sub_cons rfl (sub_cons rfl (sub_cons rfl (sub_cons rfl (sub_cons rfl (sub_cons rfl (sub_cons rfl sub_nil)))))))))))))
            case hi_34 => omega
            case hm_34 => omega
          · try simp only [decide_eq_true_eq, decide_eq_false_iff_not, Bool.not_eq_true', Bool.not_eq_false', Bool.not_eq_eq_eq_not, Bool.not_true, Bool.not_false, ne_eq, Decidable.not_not, Classical.not_not] at hc4
            refine gc_skip ?_
            refine gk_block ?_
            refine gk_then (hK28 _ _ ?_)
            refine gc_region ?_
            refine g_v (.free rfl) rfl rfl (qt_add rfl rfl rfl (by omega)) ?_
            refine g_v (.free rfl) rfl rfl (qt_move rfl rfl) ?_
            refine g_nil ?_
            rw [peL_f hc4]
            refine gk_then (gk_take 3 ?_)
            refine gk_sub ?hs_35 (hKL25 (l + 1, _, _) ?hi_35 ?hm_35)
            case hs_35 => exact (sub_cons rfl (sub_cons rfl (sub_cons rfl (sub_cons rfl (sub_cons rfl (sub_cons rfl (sub_cons rfl (sub_cons rfl (sub_cons rfl (sub_cons rfl (sub_cons rfl (sub_cons rfl (sub_cons rfl sub_nil)))))))))))))
            case hi_35 => omega
            case hm_35 => omega
        · try simp only [decide_eq_true_eq, decide_eq_false_iff_not, Bool.not_eq_true', Bool.not_eq_false', Bool.not_eq_eq_eq_not, Bool.not_true, Bool.not_false, ne_eq, Decidable.not_not, Classical.not_not] at hc3
          refine gc_exit ?_
          refine gk_then_exit ?_
          refine gk_then_exit ?_
          refine gk_block_hit ?_
          refine gk_block ?_
          refine gk_then (hK22 _ _ ?_)
          refine gc_region ?_
          refine g_v (.free rfl) rfl rfl (qt_add rfl rfl rfl (by omega)) ?_
          refine g_v (.free rfl) rfl rfl (qt_move rfl rfl) ?_
          refine g_nil ?_
          obtain rfl : l = r.length := by omega
          rw [peL_row]
          refine gk_then (gk_take 3 ?_)
          refine gk_sub ?hs_36 (hKL19 (k + 1, _, _) ?hi_36 ?hm_36)
          case hs_36 => exact (sub_cons rfl (sub_cons rfl (sub_cons rfl (sub_cons rfl (sub_cons rfl (sub_cons rfl (sub_cons rfl (sub_cons rfl (sub_cons rfl sub_nil)))))))))
          case hi_36 => omega
          case hm_36 => omega
      · try simp only [decide_eq_true_eq, decide_eq_false_iff_not, Bool.not_eq_true', Bool.not_eq_false', Bool.not_eq_eq_eq_not, Bool.not_true, Bool.not_false, ne_eq, Decidable.not_not, Classical.not_not] at hc2
        refine gc_exit ?_
        refine gk_then_exit ?_
        refine gk_then_exit ?_
        refine gk_block_hit ?_
        refine gk_then (hK17 _ _ ?_)
        refine gc_seq fun K37 hK37 => ?_
        obtain rfl : k = r.length := by omega
        refine gc_region ?_
        refine g_v (.free rfl) rfl rfl (qt_loadS (n := 1) rfl rfl Try.underlying69 rfl (by kernel_rfl) rfl) ?_
        refine g_op (.free rfl) fun K39 hK39 => ?_
        refine go_callCI rfl rfl rfl Try.func58 rfl (by decide) rfl (fun w M => build_bool w (r.length : Int) _ (peL r r.length 0) (mem_ownE (n := 2) M rfl) (peL_nodup r r.length 0) (by omega) _ ([]) (fun _ => true) (⟨_, Try.func55, rfl, by decide⟩) (fun w' hb x hx => preC1_any w' (x : Int)) _ ([]) (fun a b => a && b) (⟨_, Try.func56, rfl, by decide⟩) (fun w' hb f hf g hg _ => preC2_any w' f.2.2 g.2.2)) ?_
        intro ca38 cb38 cc38 cd38 ce38 cf38 cg38 ch38 cu38
        refine hK39 _ _ ?_
        refine g_v (.free rfl) rfl rfl (qt_extract rfl rfl rfl) ?_
        refine g_v (.free rfl) rfl rfl (qt_extract rfl rfl rfl) ?_
        refine g_op (.free rfl) fun K40 hK40 => ?_
        refine go_storeS (n := 0) rfl rfl rfl rfl (by kernel_rfl) rfl rfl rfl ?_
        refine hK40 _ _ ?_
        refine g_v (.free rfl) rfl rfl (qt_assign rfl rfl) ?_
        refine g_nil ?_
        refine gk_then (hK37 _ _ ?_)
        refine gc_ret ?_
        refine ret_SI (n := 0) rfl rfl rfl Try.underlying25 rfl (by kernel_rfl) rfl (fun w M => ?_)
        have hm := pre_made hc0 hn8
        exact retCI_eq hm.1 hm.2 ⟨_, rfl, ownC_star (mem_pick (n := 6) (mem_pick (n := 6) (mem_pick (n := 6) (mem_pick (n := 6) (M) rfl) rfl) rfl) rfl).2, M.1⟩


theorem pos_small {r : List (List Int)} (hn : r.length ≤ 8) (hf : FitP (posetC r)) : mzC (posetC r) ≤ 1152921504606846 := by
  have h40 : (psF r).length ≤ 40 := hf.2
  have h41 : (psT r).length = (psF r).length := tsL_len r r.length 0
  refine mz_small h40 (show (psT r).length ≤ 40 by omega) (show (tabTo _ _).length ≤ 40 by rw [tabTo_len]; omega) (show (rowsTo _ _).length ≤ 40 by rw [rowsTo_len]; exact h40) fun i hi => ?_
  have hi : i < (psF r).length := by rw [show (posetC r).m.length = (psF r).length from rowsTo_len _ _] at hi; exact hi
  rw [show row2 (posetC r).m (i : Int) = tabTo _ _ from rowsTo_at _ hi, tabTo_len]; exact h40
theorem bound_PreorderCategory (r : List (List Int)) : mzC (fPreorderCategory r).1 ≤ 1152921504606846 := by
  cases h : bP (PreP r) with
  | false => rw [pre_n h]; show mzC cat0 ≤ _; decide
  | true =>
    by_cases hn : r.length ≤ 8
    · by_cases hf : FitP (posetC r)
      · rw [pre_t h hn hf]; exact pos_small hn hf
      · rw [pre_l h hn hf]; show mzC cat0 ≤ _; decide
    · rw [pre_r h hn]; show mzC cat0 ≤ _; decide

end Go.Proofs.Ytbfenibkbmkcaab
