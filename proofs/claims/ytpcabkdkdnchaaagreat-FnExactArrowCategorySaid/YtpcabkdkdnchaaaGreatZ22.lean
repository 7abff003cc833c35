import Derived.Test.YtpcabkdkdnchaaaGreatZ16
import Derived.Test.YtpcabkdkdnchaaaGreatZ13
import Derived.Test.YtpcabkdkdnchaaaGreatZ14
import Derived.Test.YtpcabkdkdnchaaaGreatZ21
set_option linter.unusedSimpArgs false
set_option linter.unusedVariables false
set_option linter.unusedSectionVars false
namespace Go.Proofs.YtpcabkdkdnchaaaGreat
open Go.RowKit
noncomputable def fctErr (F : Fct) : Int := if fIsFunctor F = true then 0 else 1
noncomputable def fctF (F : Fct) : Fct := if fIsFunctor F = true then F else fct0
theorem fctErr_t {F : Fct} (h : fIsFunctor F = true) : fctErr F = 0 ∧ fctF F = F := ⟨if_pos h, if_pos h⟩
theorem fctErr_f {F : Fct} (h : fIsFunctor F = false) : fctErr F = 1 ∧ fctF F = fct0 := ⟨if_neg (by rw [h]; decide), if_neg (by rw [h]; decide)⟩
noncomputable def twoFE (F G : Fct) : Int := if fIsFunctor F = true ∧ fIsFunctor G = true then 0 else 1
noncomputable def twoFD (F G : Fct) : Fct := if fIsFunctor F = true then fctF G else fct0
theorem twoFE_t {F G : Fct} (h : fIsFunctor F = true) (h' : fIsFunctor G = true) : twoFE F G = 0 := if_pos ⟨h, h'⟩
theorem twoFE_f {F G : Fct} (h : ¬ (fIsFunctor F = true ∧ fIsFunctor G = true)) : twoFE F G = 1 := if_neg h
theorem twoFE_0 {F G : Fct} (h : twoFE F G = 0) : fIsFunctor F = true ∧ fIsFunctor G = true := by
  by_cases hh : fIsFunctor F = true ∧ fIsFunctor G = true
  · exact hh
  · rw [twoFE_f hh] at h; omega
theorem twoFE_n {F G : Fct} (h : ¬ twoFE F G = 0) : ¬ (fIsFunctor F = true ∧ fIsFunctor G = true) ∧ twoFE F G = 1 := by
  by_cases hh : fIsFunctor F = true ∧ fIsFunctor G = true
  · exact absurd (twoFE_t hh.1 hh.2) h
  · exact ⟨hh, twoFE_f hh⟩
theorem twoF_c {F G : Fct} (h : twoFE F G = 0) : fctF F = F ∧ twoFD F G = G := by
  have h1 := twoFE_0 h
  exact ⟨if_pos h1.1, (if_pos h1.1).trans (if_pos h1.2)⟩
def numL (n : Nat) : List Int := tabTo (fun j => (j : Int)) n
theorem numL_up (n : Nat) : upTo 0 n = numL n := by simp [upTo, numL, tabTo]
theorem numL_len (n : Nat) : (numL n).length = n := tabTo_len _ _
theorem numL_succ (n : Nat) : numL n ++ [(n : Int)] = numL (n + 1) := tabTo_succ (fun j => (j : Int)) n
def selfF (c : Cat) : Fct := ⟨c, c, numL c.ob.toNat, numL c.s.length⟩
theorem mz_bnd {c : Cat} (h1 : c.s.length ≤ 40) (h2 : c.t.length ≤ 40) (h3 : c.e.length ≤ 40) (h4 : c.m.length ≤ 40) (h5 : ∀ i, i < c.m.length → (row2 c.m (i : Int)).length ≤ 40) : mzC c ≤ 1720 := by
  have h := offR_le (rows := c.m) (b := 40) c.m.length (Nat.le_refl _) h5
  have h6 : c.m.length * 40 ≤ 40 * 40 := Nat.mul_le_mul_right _ h4
  unfold mzC; omega
theorem mz_cat {c : Cat} (h : fIsCategory c = true) : mzC c ≤ 1720 := by
  have hS := (isCat_of h).toShapeP
  have htl := hS.tl; have hel := hS.el; have hob8 := hS.ob8; have hn40 := hS.n40; have hml := hS.ml
  refine mz_bnd hn40 (by omega) (by omega) (by omega) fun i hi => ?_
  have := hS.rl i hi
  simp only [row2, Int.toNat_natCast]; omega
theorem countL_any (w : World) (n : Int) (h0 : 0 ≤ n) (h1 : n ≤ 1000000) : Calls Tryz.prog 99 #[.int .i64 n] w (RetL w (numL n.toNat)) := by
  obtain ⟨k, rfl⟩ := Int.eq_ofNat_of_zero_le h0
  refine (counting_any w k (by omega)).mono fun e w' h => ?_
  obtain ⟨g, rfl, hs, hb⟩ := h
  rw [numL_up] at hs
  exact ⟨_, rfl, hs, hb⟩
set_option maxHeartbeats 1000000 in
set_option maxRecDepth 100000 in
theorem specMakeF_any (w : World) (v : Value) (c : Cat) (h : RdC w v c) (u : Value) (d : Cat) (e : RdC w u d) (p : Value) (xs : List Int) (q : Value) (ys : List Int) (hp : Rd w p xs) (hq : Rd w q ys) :
    Calls Tryz.prog 39 #[v, u, p, q] w (RetFn w ⟨c, d, xs, ys⟩) := by
  have h0 := h
  obtain ⟨va, vb, vc, vd, ve, vf, vg, vh, rfl, h1, h2, h3, h4, _⟩ := h.lists
  have e0 := e
  obtain ⟨ua, ub, uc, ud, ue, uf, ug, uh, rfl, e1, e2, e3, e4, _⟩ := e.lists
  obtain ⟨pa, pc, rfl⟩ := rd_form hp
  obtain ⟨qa, qc, rfl⟩ := rd_form hq
  go_enter Tryz.func39, Tryz.ntmps39
  refine gc_enter (N := 18) rfl (look_cons (k := 0) rfl (look_cons (k := 1) rfl (look_cons (k := 2) rfl (look_cons (k := 3) rfl (look_nil _))))) ?_
  refine gc_seq fun K1 hK1 => ?_
  refine gc_region ?_
  refine g_op (.free rfl) fun K3 hK3 => ?_
  refine go_box rfl rfl rfl rfl rfl ?_
  intro B2
  refine hK3 _ _ ?_
  refine g_op (.free rfl) fun K5 hK5 => ?_
  refine go_box rfl rfl rfl rfl rfl ?_
  intro B4
  refine hK5 _ _ ?_
  refine g_op (.free rfl) fun K7 hK7 => ?_
  refine go_alloc (z := (.agg #[.int .i64 0, .slice none 0 0, .slice none 0 0, .slice none 0 0, .slice none 0 0, .int .i64 0, .slice none 0 0, .slice none 0 0, .slice none 0 0, .slice none 0 0, .slice none 0 0, .slice none 0 0])) (cs := [.int .i64 0, .slice none 0 0, .slice none 0 0, .slice none 0 0, .slice none 0 0, .int .i64 0, .slice none 0 0, .slice none 0 0, .slice none 0 0, .slice none 0 0, .slice none 0 0, .slice none 0 0]) rfl rfl rfl (fun w => by kernel_rfl) rfl ?_
  intro B6
  refine hK7 _ _ ?_
  refine g_nil ?_
  refine gk_then (hK1 _ _ ?_)
  refine gc_seq fun K8 hK8 => ?_
  try simp only [List.nil_append, List.cons_append, List.append_assoc, List.set_cons_succ, List.set_cons_zero]
  refine ga_start _ (fun w M => mem_erase 2 (M)) ?_
  refine ga_v 0 rfl (by kernel_rfl) (by kernel_rfl) (by kernel_rfl) (.free rfl) rfl rfl (qt_loadS (n := 0) rfl rfl Tryz.underlying29 rfl (by kernel_rfl) rfl) (fun _ _ _ h => h) ?_
  refine ga_v 2 rfl (by kernel_rfl) (by kernel_rfl) (by kernel_rfl) (.free rfl) rfl rfl (qt_loadS (n := 1) rfl rfl Tryz.underlying29 rfl (by kernel_rfl) rfl) (fun _ _ _ h => h) ?_
  refine ga_v 4 rfl (by kernel_rfl) (by kernel_rfl) (by kernel_rfl) (.free rfl) rfl rfl (qt_move rfl rfl) (fun _ _ _ h => h) ?_
  refine ga_v 6 rfl (by kernel_rfl) (by kernel_rfl) (by kernel_rfl) (.free rfl) rfl rfl (qt_move rfl rfl) (fun _ _ _ h => h) ?_
  refine ga_op 1 (by kernel_rfl) rfl (.free rfl) fun K10 hK10 => ?_
  refine go_callC rfl rfl rfl Tryz.func78 rfl (by decide) rfl (fun w M => specOwnC_any w _ _ (mem_rdC M h0)) ?_
  intro ca9 cb9 cc9 cd9 ce9 cf9 cg9 ch9 cu9
  refine hK10 _ _ (fun w M => (mem_erase 2 (mem_take 3 M) :)) ?_
  refine ga_op 3 (by kernel_rfl) rfl (.free rfl) fun K12 hK12 => ?_
  refine go_callC rfl rfl rfl Tryz.func78 rfl (by decide) rfl (fun w M => specOwnC_any w _ _ (mem_rdC M e0)) ?_
  intro ca11 cb11 cc11 cd11 ce11 cf11 cg11 ch11 cu11
  refine hK12 _ _ (fun w M => (mem_erase 2 (mem_take 3 M) :)) ?_
  refine ga_op 5 (by kernel_rfl) rfl (.free rfl) fun K14 hK14 => ?_
  refine go_callL rfl rfl rfl Tryz.func79 rfl (by decide) rfl (fun w M => specOwn_any w _ _ (mem_rd M hp)) ?_
  intro va13 vc13
  refine hK14 _ _ (fun w M => (mem_erase 2 (mem_take 3 M) :)) ?_
  refine ga_op 7 (by kernel_rfl) rfl (.free rfl) fun K16 hK16 => ?_
  refine go_callL rfl rfl rfl Tryz.func79 rfl (by decide) rfl (fun w M => specOwn_any w _ _ (mem_rd M hq)) ?_
  intro va15 vc15
  refine hK16 _ _ (fun w M => (mem_erase 2 (mem_take 3 M) :)) ?_
  refine ga_v 8 rfl (by kernel_rfl) (by kernel_rfl) (by kernel_rfl) (.free rfl) rfl rfl (qt_build rfl rfl bt_Functor) (fun _ _ _ h => h) ?_
  refine ga_op 9 (by kernel_rfl) rfl (.free rfl) fun K17 hK17 => ?_
  refine go_storeS (n := 2) rfl rfl rfl rfl (by kernel_rfl) rfl rfl rfl ?_
  refine hK17 _ _ (fun w M => (mem_erase 2 (mem_take 3 M) :)) ?_
  refine ga_done (by kernel_rfl) ?_
  refine gk_then (hK8 _ _ ?_)
  refine gc_ret ?_
  refine ret_S (n := 2) rfl rfl Tryz.underlying31 rfl (by kernel_rfl) rfl (fun w M => ?_)
  exact retFn_star (F := ⟨c, d, xs, ys⟩) (mem_block 3 10 (M))
set_option maxHeartbeats 1000000 in
set_option maxRecDepth 100000 in
theorem copiedF_any (w : World) (v : Value) (F : Fct) (h : RdF w v F) :
    Calls Tryz.prog 132 #[v] w (RetFn w F) := by
  have h0 := h
  obtain ⟨vx1, vx2, vx3, vx4, vx5, vx6, vx7, vx8, vx9, vx10, vk1, vk2, vk3, vk4, vk5, vk6, vk7, vk8, vk9, vk10, rfl, h1, h2, h3, h4, h5, h6, h7, h8, h9, h10⟩ := h.lists
  go_enter Tryz.func132, Tryz.ntmps132
  refine gc_enter (N := 16) rfl (look_cons (k := 0) rfl (look_nil _)) ?_
  refine gc_seq fun K1 hK1 => ?_
  refine gc_region ?_
  refine g_op (.free rfl) fun K3 hK3 => ?_
  refine go_box rfl rfl rfl rfl rfl ?_
  intro B2
  refine hK3 _ _ ?_
  refine g_op (.free rfl) fun K5 hK5 => ?_
  refine go_alloc (z := (.agg #[.int .i64 0, .slice none 0 0, .slice none 0 0, .slice none 0 0, .slice none 0 0, .int .i64 0, .slice none 0 0, .slice none 0 0, .slice none 0 0, .slice none 0 0, .slice none 0 0, .slice none 0 0])) (cs := [.int .i64 0, .slice none 0 0, .slice none 0 0, .slice none 0 0, .slice none 0 0, .int .i64 0, .slice none 0 0, .slice none 0 0, .slice none 0 0, .slice none 0 0, .slice none 0 0, .slice none 0 0]) rfl rfl rfl (fun w => by kernel_rfl) rfl ?_
  intro B4
  refine hK5 _ _ ?_
  refine g_nil ?_
  refine gk_then (hK1 _ _ ?_)
  refine gc_seq fun K6 hK6 => ?_
  try simp only [List.nil_append, List.cons_append, List.append_assoc, List.set_cons_succ, List.set_cons_zero]
  refine ga_start _ (fun w M => mem_erase 1 (M)) ?_
  refine ga_v 0 rfl (by kernel_rfl) (by kernel_rfl) (by kernel_rfl) (.free rfl) rfl rfl (qt_field (z := 4) (off := 0) rfl rfl Tryz.underlying31 rfl (by kernel_rfl) rfl) (fun _ _ _ h => h) ?_
  refine ga_v 1 rfl (by kernel_rfl) (by kernel_rfl) (by kernel_rfl) (.free rfl) rfl rfl (qt_loadP (n := 0) (z := 5) rfl rfl Tryz.underlying29 rfl (by kernel_rfl) rfl (by first | decide | exact Nat.le_refl _ | simp)) (fun _ _ _ h => h) ?_
  refine ga_v 3 rfl (by kernel_rfl) (by kernel_rfl) (by kernel_rfl) (.free rfl) rfl rfl (qt_field (z := 4) (off := 5) rfl rfl Tryz.underlying31 rfl (by kernel_rfl) rfl) (fun _ _ _ h => h) ?_
  refine ga_v 4 rfl (by kernel_rfl) (by kernel_rfl) (by kernel_rfl) (.free rfl) rfl rfl (qt_loadP (n := 0) (z := 5) rfl rfl Tryz.underlying29 rfl (by kernel_rfl) rfl (by first | decide | exact Nat.le_refl _ | simp)) (fun _ _ _ h => h) ?_
  refine ga_v 6 rfl (by kernel_rfl) (by kernel_rfl) (by kernel_rfl) (.free rfl) rfl rfl (qt_field (z := 0) (off := 10) rfl rfl Tryz.underlying31 rfl (by kernel_rfl) rfl) (fun _ _ _ h => h) ?_
  refine ga_v 7 rfl (by kernel_rfl) (by kernel_rfl) (by kernel_rfl) (.free rfl) rfl rfl (qt_loadB (n := 0) rfl rfl Tryz.underlying22 rfl rfl rfl) (fun _ _ _ h => h) ?_
  refine ga_v 9 rfl (by kernel_rfl) (by kernel_rfl) (by kernel_rfl) (.free rfl) rfl rfl (qt_field (z := 0) (off := 11) rfl rfl Tryz.underlying31 rfl (by kernel_rfl) rfl) (fun _ _ _ h => h) ?_
  refine ga_v 10 rfl (by kernel_rfl) (by kernel_rfl) (by kernel_rfl) (.free rfl) rfl rfl (qt_loadB (n := 0) rfl rfl Tryz.underlying22 rfl rfl rfl) (fun _ _ _ h => h) ?_
  refine ga_op 2 (by kernel_rfl) rfl (.free rfl) fun K8 hK8 => ?_
  refine go_callC rfl rfl rfl Tryz.func150 rfl (by decide) rfl (fun w M => copied_any w _ _ (rdC_mk (mem_rd M h1) (mem_rd M h2) (mem_rd M h3) (mem_rd2 M h4))) ?_
  intro ca7 cb7 cc7 cd7 ce7 cf7 cg7 ch7 cu7
  refine hK8 _ _ (fun w M => (mem_erase 1 (mem_take 2 M) :)) ?_
  refine ga_op 5 (by kernel_rfl) rfl (.free rfl) fun K10 hK10 => ?_
  refine go_callC rfl rfl rfl Tryz.func150 rfl (by decide) rfl (fun w M => copied_any w _ _ (rdC_mk (mem_rd M h5) (mem_rd M h6) (mem_rd M h7) (mem_rd2 M h8))) ?_
  intro ca9 cb9 cc9 cd9 ce9 cf9 cg9 ch9 cu9
  refine hK10 _ _ (fun w M => (mem_erase 1 (mem_take 2 M) :)) ?_
  refine ga_op 8 (by kernel_rfl) rfl (.free rfl) fun K12 hK12 => ?_
  refine go_callL rfl rfl rfl Tryz.func158 rfl (by decide) rfl (fun w M => clone_any w _ _ (mem_rd M h9)) ?_
  intro va11 vc11
  refine hK12 _ _ (fun w M => (mem_erase 1 (mem_take 2 M) :)) ?_
  refine ga_op 11 (by kernel_rfl) rfl (.free rfl) fun K14 hK14 => ?_
  refine go_callL rfl rfl rfl Tryz.func158 rfl (by decide) rfl (fun w M => clone_any w _ _ (mem_rd M h10)) ?_
  intro va13 vc13
  refine hK14 _ _ (fun w M => (mem_erase 1 (mem_take 2 M) :)) ?_
  refine ga_v 12 rfl (by kernel_rfl) (by kernel_rfl) (by kernel_rfl) (.free rfl) rfl rfl (qt_build rfl rfl bt_Functor) (fun _ _ _ h => h) ?_
  refine ga_op 13 (by kernel_rfl) rfl (.free rfl) fun K15 hK15 => ?_
  refine go_storeS (n := 1) rfl rfl rfl rfl (by kernel_rfl) rfl rfl rfl ?_
  refine hK15 _ _ (fun w M => (mem_erase 1 (mem_take 2 M) :)) ?_
  refine ga_done (by kernel_rfl) ?_
  refine gk_then (hK6 _ _ ?_)
  refine gc_ret ?_
  refine ret_S (n := 1) rfl rfl Tryz.underlying31 rfl (by kernel_rfl) rfl (fun w M => ?_)
  exact retFn_star (F := F) (mem_block 2 10 (M))
set_option maxHeartbeats 1000000 in
set_option maxRecDepth 100000 in
theorem readFunctor_f (w : World) (v : Value) (F : Fct) (h : RdF w v F) (hF : fIsFunctor F = false) :
    Calls Tryz.prog 105 #[v] w (ZeroF w 1) := by
  have h0 := h
  obtain ⟨vx1, vx2, vx3, vx4, vx5, vx6, vx7, vx8, vx9, vx10, vk1, vk2, vk3, vk4, vk5, vk6, vk7, vk8, vk9, vk10, rfl, h1, h2, h3, h4, h5, h6, h7, h8, h9, h10⟩ := h.lists
  go_enter Tryz.func105, Tryz.ntmps105
  refine gc_enter (N := 10) rfl (look_cons (k := 0) rfl (look_nil _)) ?_
  refine gc_seq fun K1 hK1 => ?_
  refine gc_region ?_
  refine g_op (.free rfl) fun K3 hK3 => ?_
  refine go_box rfl rfl rfl rfl rfl ?_
  intro B2
  refine hK3 _ _ ?_
  refine g_op (.free rfl) fun K5 hK5 => ?_
  refine go_alloc (z := (.agg #[.int .i64 0, .slice none 0 0, .slice none 0 0, .slice none 0 0, .slice none 0 0, .int .i64 0, .slice none 0 0, .slice none 0 0, .slice none 0 0, .slice none 0 0, .slice none 0 0, .slice none 0 0])) (cs := [.int .i64 0, .slice none 0 0, .slice none 0 0, .slice none 0 0, .slice none 0 0, .int .i64 0, .slice none 0 0, .slice none 0 0, .slice none 0 0, .slice none 0 0, .slice none 0 0, .slice none 0 0]) rfl rfl rfl (fun w => by kernel_rfl) rfl ?_
  intro B4
  refine hK5 _ _ ?_
  refine g_v (.free rfl) rfl rfl (qt_assign rfl rfl) ?_
  refine g_nil ?_
  refine gk_then (hK1 _ _ ?_)
  refine gc_seq fun K6 hK6 => ?_
  refine gc_seq fun K7 hK7 => ?_
  refine gc_region ?_
  refine g_v (.free rfl) rfl rfl (qt_loadS (n := 0) rfl rfl Tryz.underlying31 rfl (by kernel_rfl) rfl) ?_
  refine g_q (.free rfl) rfl rfl (qt_call rfl Tryz.func131 rfl (by decide) rfl (fun w M => impl_IsFunctor w _ _ (mem_rdF M h0))) ?_
  refine g_v (.free rfl) rfl rfl (qt_not rfl rfl) ?_
  refine g_nil ?_
  refine gk_then (hK7 _ _ ?_)
  refine gc_cond rfl (fun hc0 => ?_) (fun hc0 => ?_)
  · try simp only [decide_eq_true_eq, decide_eq_false_iff_not, Bool.not_eq_true', Bool.not_eq_false', Bool.not_eq_eq_eq_not, Bool.not_true, Bool.not_false, ne_eq, Decidable.not_not, Classical.not_not] at hc0
    refine gc_seq fun K8 hK8 => ?_
    refine gc_region ?_
    refine g_v (.free rfl) rfl rfl (qt_build rfl rfl bt0_Functor) ?_
    refine g_op (.free rfl) fun K9 hK9 => ?_
    refine go_storeS (n := 1) rfl rfl rfl rfl (by kernel_rfl) rfl rfl rfl ?_
    refine hK9 _ _ ?_
    refine g_v (.free rfl) rfl rfl (qt_assign rfl rfl) ?_
    refine g_nil ?_
    refine gk_then (hK8 _ _ ?_)
    refine gc_ret ?_
    refine gk_then_ret ?_
    refine ret_SI (n := 1) rfl rfl rfl Tryz.underlying31 rfl (by kernel_rfl) rfl (fun w M => ?_)
    exact ⟨rfl, M.1⟩
  · try simp only [decide_eq_true_eq, decide_eq_false_iff_not, Bool.not_eq_true', Bool.not_eq_false', Bool.not_eq_eq_eq_not, Bool.not_true, Bool.not_false, ne_eq, Decidable.not_not, Classical.not_not] at hc0
    rw [hF] at hc0; cases hc0
set_option maxHeartbeats 1000000 in
set_option maxRecDepth 100000 in
theorem readFunctor_t (w : World) (v : Value) (F : Fct) (h : RdF w v F) (hF : fIsFunctor F = true) :
    Calls Tryz.prog 105 #[v] w (RetFI w F 0) := by
  have h0 := h
  obtain ⟨vx1, vx2, vx3, vx4, vx5, vx6, vx7, vx8, vx9, vx10, vk1, vk2, vk3, vk4, vk5, vk6, vk7, vk8, vk9, vk10, rfl, h1, h2, h3, h4, h5, h6, h7, h8, h9, h10⟩ := h.lists
  go_enter Tryz.func105, Tryz.ntmps105
  refine gc_enter (N := 10) rfl (look_cons (k := 0) rfl (look_nil _)) ?_
  refine gc_seq fun K1 hK1 => ?_
  refine gc_region ?_
  refine g_op (.free rfl) fun K3 hK3 => ?_
  refine go_box rfl rfl rfl rfl rfl ?_
  intro B2
  refine hK3 _ _ ?_
  refine g_op (.free rfl) fun K5 hK5 => ?_
  refine go_alloc (z := (.agg #[.int .i64 0, .slice none 0 0, .slice none 0 0, .slice none 0 0, .slice none 0 0, .int .i64 0, .slice none 0 0, .slice none 0 0, .slice none 0 0, .slice none 0 0, .slice none 0 0, .slice none 0 0])) (cs := [.int .i64 0, .slice none 0 0, .slice none 0 0, .slice none 0 0, .slice none 0 0, .int .i64 0, .slice none 0 0, .slice none 0 0, .slice none 0 0, .slice none 0 0, .slice none 0 0, .slice none 0 0]) rfl rfl rfl (fun w => by kernel_rfl) rfl ?_
  intro B4
  refine hK5 _ _ ?_
  refine g_v (.free rfl) rfl rfl (qt_assign rfl rfl) ?_
  refine g_nil ?_
  refine gk_then (hK1 _ _ ?_)
  refine gc_seq fun K6 hK6 => ?_
  refine gc_seq fun K7 hK7 => ?_
  refine gc_region ?_
  refine g_v (.free rfl) rfl rfl (qt_loadS (n := 0) rfl rfl Tryz.underlying31 rfl (by kernel_rfl) rfl) ?_
  refine g_q (.free rfl) rfl rfl (qt_call rfl Tryz.func131 rfl (by decide) rfl (fun w M => impl_IsFunctor w _ _ (mem_rdF M h0))) ?_
  refine g_v (.free rfl) rfl rfl (qt_not rfl rfl) ?_
  refine g_nil ?_
  refine gk_then (hK7 _ _ ?_)
  refine gc_cond rfl (fun hc0 => ?_) (fun hc0 => ?_)
  · try simp only [decide_eq_true_eq, decide_eq_false_iff_not, Bool.not_eq_true', Bool.not_eq_false', Bool.not_eq_eq_eq_not, Bool.not_true, Bool.not_false, ne_eq, Decidable.not_not, Classical.not_not] at hc0
    rw [hF] at hc0; cases hc0
  · try simp only [decide_eq_true_eq, decide_eq_false_iff_not, Bool.not_eq_true', Bool.not_eq_false', Bool.not_eq_eq_eq_not, Bool.not_true, Bool.not_false, ne_eq, Decidable.not_not, Classical.not_not] at hc0
    refine gc_skip ?_
    refine gk_then (hK6 _ _ ?_)
    refine gc_seq fun K8 hK8 => ?_
    refine gc_region ?_
    refine g_v (.free rfl) rfl rfl (qt_loadS (n := 0) rfl rfl Tryz.underlying31 rfl (by kernel_rfl) rfl) ?_
    refine g_op (.free rfl) fun K10 hK10 => ?_
    refine go_callFn rfl rfl rfl Tryz.func132 rfl (by decide) rfl (fun w M => copiedF_any w _ _ (mem_rdF M h0)) ?_
    intro fx1_9 fk1_9 fx2_9 fk2_9 fx3_9 fk3_9 fx4_9 fk4_9 fx5_9 fk5_9 fx6_9 fk6_9 fx7_9 fk7_9 fx8_9 fk8_9 fx9_9 fk9_9 fx10_9 fk10_9 us9 ut9
    refine hK10 _ _ ?_
    refine g_op (.free rfl) fun K11 hK11 => ?_
    refine go_storeS (n := 1) rfl rfl rfl rfl (by kernel_rfl) rfl rfl rfl ?_
    refine hK11 _ _ ?_
    refine g_v (.free rfl) rfl rfl (qt_assign rfl rfl) ?_
    refine g_nil ?_
    refine gk_then (hK8 _ _ ?_)
    refine gc_ret ?_
    refine ret_SI (n := 1) rfl rfl rfl Tryz.underlying31 rfl (by kernel_rfl) rfl (fun w M => ?_)
    exact retFI_star (F := F) (mem_block 2 10 (M))
set_option maxHeartbeats 1000000 in
set_option maxRecDepth 100000 in
theorem readBothF_any (w : World) (v : Value) (F : Fct) (h : RdF w v F) (u : Value) (E : Fct) (e : RdF w u E) (g : Value) (gf : ∀ w', Below w.heap.size w w' → ∀ v F, RdF w' v F → fIsFunctor F = false → CallsV g [v] w' (ZeroF w' 1)) (gt : ∀ w', Below w.heap.size w w' → ∀ v F, RdF w' v F → fIsFunctor F = true → CallsV g [v] w' (RetFI w' F 0)) :
    Calls Tryz.prog 143 #[v, u, g] w (RetFFI w (fctF F) (twoFD F E) (twoFE F E)) := by
  have h0 := h
  obtain ⟨vx1, vx2, vx3, vx4, vx5, vx6, vx7, vx8, vx9, vx10, vk1, vk2, vk3, vk4, vk5, vk6, vk7, vk8, vk9, vk10, rfl, h1, h2, h3, h4, h5, h6, h7, h8, h9, h10⟩ := h.lists
  have e0 := e
  obtain ⟨ux1, ux2, ux3, ux4, ux5, ux6, ux7, ux8, ux9, ux10, uk1, uk2, uk3, uk4, uk5, uk6, uk7, uk8, uk9, uk10, rfl, e1, e2, e3, e4, e5, e6, e7, e8, e9, e10⟩ := e.lists
  go_enter Tryz.func143, Tryz.ntmps143
  refine gc_enter (N := 32) rfl (look_cons (k := 0) rfl (look_cons (k := 1) rfl (look_cons (k := 2) rfl (look_nil _)))) ?_
  refine gc_seq fun K1 hK1 => ?_
  refine gc_region ?_
  refine g_op (.free rfl) fun K3 hK3 => ?_
  refine go_box rfl rfl rfl rfl rfl ?_
  intro B2
  refine hK3 _ _ ?_
  refine g_op (.free rfl) fun K5 hK5 => ?_
  refine go_box rfl rfl rfl rfl rfl ?_
  intro B4
  refine hK5 _ _ ?_
  refine g_op (.free rfl) fun K7 hK7 => ?_
  refine go_alloc (z := (.agg #[.int .i64 0, .slice none 0 0, .slice none 0 0, .slice none 0 0, .slice none 0 0, .int .i64 0, .slice none 0 0, .slice none 0 0, .slice none 0 0, .slice none 0 0, .slice none 0 0, .slice none 0 0])) (cs := [.int .i64 0, .slice none 0 0, .slice none 0 0, .slice none 0 0, .slice none 0 0, .int .i64 0, .slice none 0 0, .slice none 0 0, .slice none 0 0, .slice none 0 0, .slice none 0 0, .slice none 0 0]) rfl rfl rfl (fun w => by kernel_rfl) rfl ?_
  intro B6
  refine hK7 _ _ ?_
  refine g_op (.free rfl) fun K9 hK9 => ?_
  refine go_alloc (z := (.agg #[.int .i64 0, .slice none 0 0, .slice none 0 0, .slice none 0 0, .slice none 0 0, .int .i64 0, .slice none 0 0, .slice none 0 0, .slice none 0 0, .slice none 0 0, .slice none 0 0, .slice none 0 0])) (cs := [.int .i64 0, .slice none 0 0, .slice none 0 0, .slice none 0 0, .slice none 0 0, .int .i64 0, .slice none 0 0, .slice none 0 0, .slice none 0 0, .slice none 0 0, .slice none 0 0, .slice none 0 0]) rfl rfl rfl (fun w => by kernel_rfl) rfl ?_
  intro B8
  refine hK9 _ _ ?_
  refine g_v (.free rfl) rfl rfl (qt_assign rfl rfl) ?_
  refine g_nil ?_
  refine gk_then (hK1 _ _ ?_)
  refine gc_seq fun K10 hK10 => ?_
  rcases ((Bool.eq_false_or_eq_true (fIsFunctor F))) with hk0 | hk1
  · skip
    have hF := hk0
    refine gc_region ?_
    refine g_v (.free rfl) rfl rfl (qt_move rfl rfl) ?_
    refine g_v (.free rfl) rfl rfl (qt_loadS (n := 0) rfl rfl Tryz.underlying31 rfl (by kernel_rfl) rfl) ?_
    refine g_op (.free rfl) fun K12 hK12 => ?_
    refine go_callVFI rfl rfl rfl rfl rfl (fun w M => gt w M.1 _ _ (mem_rdF M h0) hk0) ?_
    intro fx1_11 fk1_11 fx2_11 fk2_11 fx3_11 fk3_11 fx4_11 fk4_11 fx5_11 fk5_11 fx6_11 fk6_11 fx7_11 fk7_11 fx8_11 fk8_11 fx9_11 fk9_11 fx10_11 fk10_11 us11 ut11
    refine hK12 _ _ ?_
    refine g_v (.free rfl) rfl rfl (qt_move rfl rfl) ?_
    refine g_v (.free rfl) rfl rfl (qt_extract rfl rfl rfl) ?_
    refine g_v (.free rfl) rfl rfl (qt_extract rfl rfl rfl) ?_
    refine g_op (.free rfl) fun K14 hK14 => ?_
    refine go_alloc (z := (.agg #[.int .i64 0, .slice none 0 0, .slice none 0 0, .slice none 0 0, .slice none 0 0, .int .i64 0, .slice none 0 0, .slice none 0 0, .slice none 0 0, .slice none 0 0, .slice none 0 0, .slice none 0 0])) (cs := [.int .i64 0, .slice none 0 0, .slice none 0 0, .slice none 0 0, .slice none 0 0, .int .i64 0, .slice none 0 0, .slice none 0 0, .slice none 0 0, .slice none 0 0, .slice none 0 0, .slice none 0 0]) rfl rfl rfl (fun w => by kernel_rfl) rfl ?_
    intro B13
    refine hK14 _ _ ?_
    refine g_op (.free rfl) fun K15 hK15 => ?_
    refine go_storeS (n := 14) rfl rfl rfl rfl (by kernel_rfl) rfl rfl rfl ?_
    refine hK15 _ _ ?_
    refine g_v (.free rfl) rfl rfl (qt_assign rfl rfl) ?_
    refine g_nil ?_
    refine gk_then (hK10 _ _ ?_)
    refine gc_seq fun K16 hK16 => ?_
    refine gc_seq fun K17 hK17 => ?_
    refine gc_region ?_
    refine g_v (.free rfl) rfl rfl (qt_move rfl rfl) ?_
    refine g_v (.free rfl) rfl rfl (qt_neq_f rfl rfl rfl (by decide)) ?_
    refine g_nil ?_
    refine gk_then (hK17 _ _ ?_)
    refine gc_cond_f rfl ?_
    refine gc_skip ?_
    refine gk_then (hK16 _ _ ?_)
    refine gc_seq fun K18 hK18 => ?_
    rcases ((Bool.eq_false_or_eq_true (fIsFunctor E))) with hk0 | hk1
    · skip
      have hE := hk0
      refine gc_region ?_
      refine g_v (.free rfl) rfl rfl (qt_move rfl rfl) ?_
      refine g_v (.free rfl) rfl rfl (qt_loadS (n := 1) rfl rfl Tryz.underlying31 rfl (by kernel_rfl) rfl) ?_
      refine g_op (.free rfl) fun K20 hK20 => ?_
      refine go_callVFI rfl rfl rfl rfl rfl (fun w M => gt w M.1 _ _ (mem_rdF M e0) hk0) ?_
      intro fx1_19 fk1_19 fx2_19 fk2_19 fx3_19 fk3_19 fx4_19 fk4_19 fx5_19 fk5_19 fx6_19 fk6_19 fx7_19 fk7_19 fx8_19 fk8_19 fx9_19 fk9_19 fx10_19 fk10_19 us19 ut19
      refine hK20 _ _ ?_
      refine g_v (.free rfl) rfl rfl (qt_move rfl rfl) ?_
      refine g_v (.free rfl) rfl rfl (qt_extract rfl rfl rfl) ?_
      refine g_v (.free rfl) rfl rfl (qt_extract rfl rfl rfl) ?_
      refine g_op (.free rfl) fun K22 hK22 => ?_
      refine go_alloc (z := (.agg #[.int .i64 0, .slice none 0 0, .slice none 0 0, .slice none 0 0, .slice none 0 0, .int .i64 0, .slice none 0 0, .slice none 0 0, .slice none 0 0, .slice none 0 0, .slice none 0 0, .slice none 0 0])) (cs := [.int .i64 0, .slice none 0 0, .slice none 0 0, .slice none 0 0, .slice none 0 0, .int .i64 0, .slice none 0 0, .slice none 0 0, .slice none 0 0, .slice none 0 0, .slice none 0 0, .slice none 0 0]) rfl rfl rfl (fun w => by kernel_rfl) rfl ?_
      intro B21
      refine hK22 _ _ ?_
      refine g_op (.free rfl) fun K23 hK23 => ?_
      refine go_storeS (n := 25) rfl rfl rfl rfl (by kernel_rfl) rfl rfl rfl ?_
      refine hK23 _ _ ?_
      refine g_v (.free rfl) rfl rfl (qt_assign rfl rfl) ?_
      refine g_nil ?_
      refine gk_then (hK18 _ _ ?_)
      refine gc_seq fun K24 hK24 => ?_
      try simp only [List.nil_append, List.cons_append, List.append_assoc, List.set_cons_succ, List.set_cons_zero]
      refine ga_start _ (fun w M => mem_erase 2 (mem_erase 3 (M))) ?_
      refine ga_v 0 rfl (by kernel_rfl) (by kernel_rfl) (by kernel_rfl) (.free rfl) rfl rfl (qt_loadS (n := 12) rfl rfl Tryz.underlying31 rfl (by kernel_rfl) rfl) (fun _ _ _ h => h) ?_
      refine ga_v 1 rfl (by kernel_rfl) (by kernel_rfl) (by kernel_rfl) (.free rfl) rfl rfl (qt_loadS (n := 23) rfl rfl Tryz.underlying31 rfl (by kernel_rfl) rfl) (fun _ _ _ h => h) ?_
      refine ga_v 2 rfl (by kernel_rfl) (by kernel_rfl) (by kernel_rfl) (.free rfl) rfl rfl (qt_move rfl rfl) (fun _ _ _ h => h) ?_
      refine ga_op 3 (by kernel_rfl) rfl (.free rfl) fun K25 hK25 => ?_
      refine go_storeS (n := 2) rfl rfl rfl rfl (by kernel_rfl) rfl rfl rfl ?_
      refine hK25 _ _ (fun w M => (mem_erase 2 (mem_erase 3 (mem_take 26 M)) :)) ?_
      refine ga_op 4 (by kernel_rfl) rfl (.free rfl) fun K26 hK26 => ?_
      refine go_storeS (n := 3) rfl rfl rfl rfl (by kernel_rfl) rfl rfl rfl ?_
      refine hK26 _ _ (fun w M => (mem_erase 2 (mem_erase 3 (mem_take 26 M)) :)) ?_
      refine ga_v 5 rfl (by kernel_rfl) (by kernel_rfl) (by kernel_rfl) (.free rfl) rfl rfl (qt_assign rfl rfl) (fun _ _ _ h => h) ?_
      refine ga_done (by kernel_rfl) ?_
      refine gk_then (hK24 _ _ ?_)
      refine gc_ret ?_
      refine ret_SSI (n := 2) (n' := 3) rfl rfl rfl rfl Tryz.underlying31 rfl (by kernel_rfl) rfl Tryz.underlying31 rfl (by kernel_rfl) rfl (fun w M => ?_)
      rw [twoFE_t hF hE, (twoF_c (twoFE_t hF hE)).1, (twoF_c (twoFE_t hF hE)).2]; exact retFFI_star (mem_block 14 10 (mem_block 15 10 (M)))
    · skip
      have hE := hk1
      refine gc_region ?_
      refine g_v (.free rfl) rfl rfl (qt_move rfl rfl) ?_
      refine g_v (.free rfl) rfl rfl (qt_loadS (n := 1) rfl rfl Tryz.underlying31 rfl (by kernel_rfl) rfl) ?_
      refine g_q (.free rfl) rfl rfl (qt_callV rfl rfl rfl (fun w M => gf w M.1 _ _ (mem_rdF M e0) hk1)) ?_
      refine g_v (.free rfl) rfl rfl (qt_move rfl rfl) ?_
      refine g_v (.free rfl) rfl rfl (qt_extract rfl rfl rfl) ?_
      refine g_v (.free rfl) rfl rfl (qt_extract rfl rfl rfl) ?_
      refine g_op (.free rfl) fun K28 hK28 => ?_
      refine go_alloc (z := (.agg #[.int .i64 0, .slice none 0 0, .slice none 0 0, .slice none 0 0, .slice none 0 0, .int .i64 0, .slice none 0 0, .slice none 0 0, .slice none 0 0, .slice none 0 0, .slice none 0 0, .slice none 0 0])) (cs := [.int .i64 0, .slice none 0 0, .slice none 0 0, .slice none 0 0, .slice none 0 0, .int .i64 0, .slice none 0 0, .slice none 0 0, .slice none 0 0, .slice none 0 0, .slice none 0 0, .slice none 0 0]) rfl rfl rfl (fun w => by kernel_rfl) rfl ?_
      intro B27
      refine hK28 _ _ ?_
      refine g_op (.free rfl) fun K29 hK29 => ?_
      refine go_storeS (n := 15) rfl rfl rfl rfl (by kernel_rfl) rfl rfl rfl ?_
      refine hK29 _ _ ?_
      refine g_v (.free rfl) rfl rfl (qt_assign rfl rfl) ?_
      refine g_nil ?_
      refine gk_then (hK18 _ _ ?_)
      refine gc_seq fun K30 hK30 => ?_
      try simp only [List.nil_append, List.cons_append, List.append_assoc, List.set_cons_succ, List.set_cons_zero]
      refine ga_start _ (fun w M => mem_erase 2 (mem_erase 3 (M))) ?_
      refine ga_v 0 rfl (by kernel_rfl) (by kernel_rfl) (by kernel_rfl) (.free rfl) rfl rfl (qt_loadS (n := 12) rfl rfl Tryz.underlying31 rfl (by kernel_rfl) rfl) (fun _ _ _ h => h) ?_
      refine ga_v 1 rfl (by kernel_rfl) (by kernel_rfl) (by kernel_rfl) (.free rfl) rfl rfl (qt_loadS (n := 13) rfl rfl Tryz.underlying31 rfl (by kernel_rfl) rfl) (fun _ _ _ h => h) ?_
      refine ga_v 2 rfl (by kernel_rfl) (by kernel_rfl) (by kernel_rfl) (.free rfl) rfl rfl (qt_move rfl rfl) (fun _ _ _ h => h) ?_
      refine ga_op 3 (by kernel_rfl) rfl (.free rfl) fun K31 hK31 => ?_
      refine go_storeS (n := 2) rfl rfl rfl rfl (by kernel_rfl) rfl rfl rfl ?_
      refine hK31 _ _ (fun w M => (mem_erase 2 (mem_erase 3 (mem_take 16 M)) :)) ?_
      refine ga_op 4 (by kernel_rfl) rfl (.free rfl) fun K32 hK32 => ?_
      refine go_storeS (n := 3) rfl rfl rfl rfl (by kernel_rfl) rfl rfl rfl ?_
      refine hK32 _ _ (fun w M => (mem_erase 2 (mem_erase 3 (mem_take 16 M)) :)) ?_
      refine ga_v 5 rfl (by kernel_rfl) (by kernel_rfl) (by kernel_rfl) (.free rfl) rfl rfl (qt_assign rfl rfl) (fun _ _ _ h => h) ?_
      refine ga_done (by kernel_rfl) ?_
      refine gk_then (hK30 _ _ ?_)
      refine gc_ret ?_
      refine ret_SSI (n := 2) (n' := 3) rfl rfl rfl rfl Tryz.underlying31 rfl (by kernel_rfl) rfl Tryz.underlying31 rfl (by kernel_rfl) rfl (fun w M => ?_)
      rw [twoFE_f (fun hh => by rw [hE] at hh; cases hh.2), (fctErr_t hF).2, show twoFD F E = fct0 from (if_pos hF).trans (fctErr_f hE).2]; exact retFFI_half (mem_block 4 10 (M))
  · skip
    have hF := hk1
    refine gc_region ?_
    refine g_v (.free rfl) rfl rfl (qt_move rfl rfl) ?_
    refine g_v (.free rfl) rfl rfl (qt_loadS (n := 0) rfl rfl Tryz.underlying31 rfl (by kernel_rfl) rfl) ?_
    refine g_q (.free rfl) rfl rfl (qt_callV rfl rfl rfl (fun w M => gf w M.1 _ _ (mem_rdF M h0) hk1)) ?_
    refine g_v (.free rfl) rfl rfl (qt_move rfl rfl) ?_
    refine g_v (.free rfl) rfl rfl (qt_extract rfl rfl rfl) ?_
    refine g_v (.free rfl) rfl rfl (qt_extract rfl rfl rfl) ?_
    refine g_op (.free rfl) fun K34 hK34 => ?_
    refine go_alloc (z := (.agg #[.int .i64 0, .slice none 0 0, .slice none 0 0, .slice none 0 0, .slice none 0 0, .int .i64 0, .slice none 0 0, .slice none 0 0, .slice none 0 0, .slice none 0 0, .slice none 0 0, .slice none 0 0])) (cs := [.int .i64 0, .slice none 0 0, .slice none 0 0, .slice none 0 0, .slice none 0 0, .int .i64 0, .slice none 0 0, .slice none 0 0, .slice none 0 0, .slice none 0 0, .slice none 0 0, .slice none 0 0]) rfl rfl rfl (fun w => by kernel_rfl) rfl ?_
    intro B33
    refine hK34 _ _ ?_
    refine g_op (.free rfl) fun K35 hK35 => ?_
    refine go_storeS (n := 4) rfl rfl rfl rfl (by kernel_rfl) rfl rfl rfl ?_
    refine hK35 _ _ ?_
    refine g_v (.free rfl) rfl rfl (qt_assign rfl rfl) ?_
    refine g_nil ?_
    refine gk_then (hK10 _ _ ?_)
    refine gc_seq fun K36 hK36 => ?_
    refine gc_seq fun K37 hK37 => ?_
    refine gc_region ?_
    refine g_v (.free rfl) rfl rfl (qt_move rfl rfl) ?_
    refine g_v (.free rfl) rfl rfl (qt_neq_t rfl rfl rfl (by decide)) ?_
    refine g_nil ?_
    refine gk_then (hK37 _ _ ?_)
    refine gc_cond_t rfl ?_
    refine gc_seq fun K38 hK38 => ?_
    try simp only [List.nil_append, List.cons_append, List.append_assoc, List.set_cons_succ, List.set_cons_zero]
    refine ga_start _ (fun w M => mem_erase 2 (mem_erase 3 (M))) ?_
    refine ga_v 0 rfl (by kernel_rfl) (by kernel_rfl) (by kernel_rfl) (.free rfl) rfl rfl (qt_loadS (n := 2) rfl rfl Tryz.underlying31 rfl (by kernel_rfl) rfl) (fun _ _ _ h => h) ?_
    refine ga_v 1 rfl (by kernel_rfl) (by kernel_rfl) (by kernel_rfl) (.free rfl) rfl rfl (qt_loadS (n := 2) rfl rfl Tryz.underlying31 rfl (by kernel_rfl) rfl) (fun _ _ _ h => h) ?_
    refine ga_v 2 rfl (by kernel_rfl) (by kernel_rfl) (by kernel_rfl) (.free rfl) rfl rfl (qt_move rfl rfl) (fun _ _ _ h => h) ?_
    refine ga_op 3 (by kernel_rfl) rfl (.free rfl) fun K39 hK39 => ?_
    refine go_storeS (n := 2) rfl rfl rfl rfl (by kernel_rfl) rfl rfl rfl ?_
    refine hK39 _ _ (fun w M => (mem_erase 2 (mem_erase 3 (mem_take 5 M)) :)) ?_
    refine ga_op 4 (by kernel_rfl) rfl (.free rfl) fun K40 hK40 => ?_
    refine go_storeS (n := 3) rfl rfl rfl rfl (by kernel_rfl) rfl rfl rfl ?_
    refine hK40 _ _ (fun w M => (mem_erase 2 (mem_erase 3 (mem_take 5 M)) :)) ?_
    refine ga_v 5 rfl (by kernel_rfl) (by kernel_rfl) (by kernel_rfl) (.free rfl) rfl rfl (qt_assign rfl rfl) (fun _ _ _ h => h) ?_
    refine ga_done (by kernel_rfl) ?_
    refine gk_then (hK38 _ _ ?_)
    refine gc_ret ?_
    refine gk_then_ret ?_
    refine ret_SSI (n := 2) (n' := 3) rfl rfl rfl rfl Tryz.underlying31 rfl (by kernel_rfl) rfl Tryz.underlying31 rfl (by kernel_rfl) rfl (fun w M => ?_)
    rw [twoFE_f (fun hh => by rw [hF] at hh; cases hh.1), (fctErr_f hF).2, show twoFD F E = fct0 from if_neg (by rw [hF]; decide)]; exact retFFI_zero M.1
set_option maxHeartbeats 1000000 in
set_option maxRecDepth 100000 in
theorem readFunctors_any (w : World) (v : Value) (F : Fct) (h : RdF w v F) (u : Value) (E : Fct) (e : RdF w u E) :
    Calls Tryz.prog 113 #[v, u] w (RetFFI w (fctF F) (twoFD F E) (twoFE F E)) := by
  have h0 := h
  obtain ⟨vx1, vx2, vx3, vx4, vx5, vx6, vx7, vx8, vx9, vx10, vk1, vk2, vk3, vk4, vk5, vk6, vk7, vk8, vk9, vk10, rfl, h1, h2, h3, h4, h5, h6, h7, h8, h9, h10⟩ := h.lists
  have e0 := e
  obtain ⟨ux1, ux2, ux3, ux4, ux5, ux6, ux7, ux8, ux9, ux10, uk1, uk2, uk3, uk4, uk5, uk6, uk7, uk8, uk9, uk10, rfl, e1, e2, e3, e4, e5, e6, e7, e8, e9, e10⟩ := e.lists
  go_enter Tryz.func113, Tryz.ntmps113
  refine gc_enter (N := 13) rfl (look_cons (k := 0) rfl (look_cons (k := 1) rfl (look_nil _))) ?_
  refine gc_seq fun K1 hK1 => ?_
  refine gc_region ?_
  refine g_op (.free rfl) fun K3 hK3 => ?_
  refine go_box rfl rfl rfl rfl rfl ?_
  intro B2
  refine hK3 _ _ ?_
  refine g_op (.free rfl) fun K5 hK5 => ?_
  refine go_box rfl rfl rfl rfl rfl ?_
  intro B4
  refine hK5 _ _ ?_
  refine g_op (.free rfl) fun K7 hK7 => ?_
  refine go_alloc (z := (.agg #[.int .i64 0, .slice none 0 0, .slice none 0 0, .slice none 0 0, .slice none 0 0, .int .i64 0, .slice none 0 0, .slice none 0 0, .slice none 0 0, .slice none 0 0, .slice none 0 0, .slice none 0 0])) (cs := [.int .i64 0, .slice none 0 0, .slice none 0 0, .slice none 0 0, .slice none 0 0, .int .i64 0, .slice none 0 0, .slice none 0 0, .slice none 0 0, .slice none 0 0, .slice none 0 0, .slice none 0 0]) rfl rfl rfl (fun w => by kernel_rfl) rfl ?_
  intro B6
  refine hK7 _ _ ?_
  refine g_op (.free rfl) fun K9 hK9 => ?_
  refine go_alloc (z := (.agg #[.int .i64 0, .slice none 0 0, .slice none 0 0, .slice none 0 0, .slice none 0 0, .int .i64 0, .slice none 0 0, .slice none 0 0, .slice none 0 0, .slice none 0 0, .slice none 0 0, .slice none 0 0])) (cs := [.int .i64 0, .slice none 0 0, .slice none 0 0, .slice none 0 0, .slice none 0 0, .int .i64 0, .slice none 0 0, .slice none 0 0, .slice none 0 0, .slice none 0 0, .slice none 0 0, .slice none 0 0]) rfl rfl rfl (fun w => by kernel_rfl) rfl ?_
  intro B8
  refine hK9 _ _ ?_
  refine g_v (.free rfl) rfl rfl (qt_assign rfl rfl) ?_
  refine g_nil ?_
  refine gk_then (hK1 _ _ ?_)
  refine gc_seq fun K10 hK10 => ?_
  refine gc_region ?_
  refine g_v (.free rfl) rfl rfl (qt_loadS (n := 0) rfl rfl Tryz.underlying31 rfl (by kernel_rfl) rfl) ?_
  refine g_v (.free rfl) rfl rfl (qt_loadS (n := 1) rfl rfl Tryz.underlying31 rfl (by kernel_rfl) rfl) ?_
  refine g_op (.free rfl) fun K12 hK12 => ?_
  refine go_callFFI rfl rfl rfl Tryz.func143 rfl (by decide) rfl (fun w M => readBothF_any w _ _ (mem_rdF M h0) _ _ (mem_rdF M e0) (_) (fun w' hb v F h hF => callsV_f (bnd := []) (vs := [_]) (caps := []) Tryz.func105 rfl (by decide) (readFunctor_f w' v F h hF)) (fun w' hb v F h hF => callsV_f (bnd := []) (vs := [_]) (caps := []) Tryz.func105 rfl (by decide) (readFunctor_t w' v F h hF))) ?_
  intro fx1_11 fk1_11 fx2_11 fk2_11 fx3_11 fk3_11 fx4_11 fk4_11 fx5_11 fk5_11 fx6_11 fk6_11 fx7_11 fk7_11 fx8_11 fk8_11 fx9_11 fk9_11 fx10_11 fk10_11 us11 ut11 gy1_11 gj1_11 gy2_11 gj2_11 gy3_11 gj3_11 gy4_11 gj4_11 gy5_11 gj5_11 gy6_11 gj6_11 gy7_11 gj7_11 gy8_11 gj8_11 gy9_11 gj9_11 gy10_11 gj10_11 vs11 vt11
  refine hK12 _ _ ?_
  refine g_v (.free rfl) rfl rfl (qt_extract rfl rfl rfl) ?_
  refine g_v (.free rfl) rfl rfl (qt_extract rfl rfl rfl) ?_
  refine g_v (.free rfl) rfl rfl (qt_extract rfl rfl rfl) ?_
  refine g_op (.free rfl) fun K13 hK13 => ?_
  refine go_storeS (n := 2) rfl rfl rfl rfl (by kernel_rfl) rfl rfl rfl ?_
  refine hK13 _ _ ?_
  refine g_op (.free rfl) fun K14 hK14 => ?_
  refine go_storeS (n := 3) rfl rfl rfl rfl (by kernel_rfl) rfl rfl rfl ?_
  refine hK14 _ _ ?_
  refine g_v (.free rfl) rfl rfl (qt_assign rfl rfl) ?_
  refine g_nil ?_
  refine gk_then (hK10 _ _ ?_)
  refine gc_ret ?_
  refine ret_SSI (n := 2) (n' := 3) rfl rfl rfl rfl Tryz.underlying31 rfl (by kernel_rfl) rfl Tryz.underlying31 rfl (by kernel_rfl) rfl (fun w M => ?_)
  exact retFFI_star (mem_block 4 20 (M))
set_option maxHeartbeats 1000000 in
set_option maxRecDepth 100000 in
theorem specTwoF_any (w : World) (v : Value) (F : Fct) (h : RdF w v F) (u : Value) (E : Fct) (e : RdF w u E) :
    Calls Tryz.prog 73 #[v, u] w (RetI w (twoFE F E)) := by
  have h0 := h
  obtain ⟨vx1, vx2, vx3, vx4, vx5, vx6, vx7, vx8, vx9, vx10, vk1, vk2, vk3, vk4, vk5, vk6, vk7, vk8, vk9, vk10, rfl, h1, h2, h3, h4, h5, h6, h7, h8, h9, h10⟩ := h.lists
  have e0 := e
  obtain ⟨ux1, ux2, ux3, ux4, ux5, ux6, ux7, ux8, ux9, ux10, uk1, uk2, uk3, uk4, uk5, uk6, uk7, uk8, uk9, uk10, rfl, e1, e2, e3, e4, e5, e6, e7, e8, e9, e10⟩ := e.lists
  go_enter Tryz.func73, Tryz.ntmps73
  refine gc_enter (N := 13) rfl (look_cons (k := 0) rfl (look_cons (k := 1) rfl (look_nil _))) ?_
  refine gc_seq fun K1 hK1 => ?_
  refine gc_region ?_
  refine g_op (.free rfl) fun K3 hK3 => ?_
  refine go_box rfl rfl rfl rfl rfl ?_
  intro B2
  refine hK3 _ _ ?_
  refine g_op (.free rfl) fun K5 hK5 => ?_
  refine go_box rfl rfl rfl rfl rfl ?_
  intro B4
  refine hK5 _ _ ?_
  refine g_v (.free rfl) rfl rfl (qt_assign rfl rfl) ?_
  refine g_nil ?_
  refine gk_then (hK1 _ _ ?_)
  refine gc_seq fun K6 hK6 => ?_
  refine gc_seq fun K7 hK7 => ?_
  refine gc_region ?_
  refine g_v (.free rfl) rfl rfl (qt_loadS (n := 0) rfl rfl Tryz.underlying31 rfl (by kernel_rfl) rfl) ?_
  refine g_q (.free rfl) rfl rfl (qt_call rfl Tryz.func68 rfl (by decide) rfl (fun w M => specIsF_any w _ _ (mem_rdF M h0))) ?_
  refine g_v (.free rfl) rfl rfl (qt_not rfl rfl) ?_
  refine g_splitv (.free rfl) rfl rfl (qt_move rfl rfl) (fun hs1_3 => ?_) (fun hs1_3 => ?_)
  · try simp only [decide_eq_true_eq, decide_eq_false_iff_not, Bool.not_eq_true', Bool.not_eq_false', Bool.not_eq_eq_eq_not, Bool.not_true, Bool.not_false, ne_eq, Decidable.not_not, Classical.not_not] at hs1_3
    refine g_skip (.not _ _ _ _ rfl rfl rfl rfl) rfl rfl ?_
    refine g_skip (.not _ _ _ _ rfl rfl rfl rfl) rfl rfl ?_
    refine g_skip (.not _ _ _ _ rfl rfl rfl rfl) rfl rfl ?_
    refine g_v (.free rfl) rfl rfl (qt_pick_t rfl rfl rfl) ?_
    refine g_nil ?_
    refine gk_then (hK7 _ _ ?_)
    refine gc_cond_t rfl ?_
    refine gc_seq fun K8 hK8 => ?_
    refine gc_region ?_
    refine g_v (.free rfl) rfl rfl (qt_assign rfl rfl) ?_
    refine g_nil ?_
    refine gk_then (hK8 _ _ ?_)
    refine gc_ret ?_
    refine gk_then_ret ?_
    refine ret_1 rfl rfl  (fun w M => ?_)
    rw [twoFE_f (fun hh => by rw [hs1_3] at hh; simp at hh)]; exact ⟨rfl, M.1⟩
  · try simp only [decide_eq_true_eq, decide_eq_false_iff_not, Bool.not_eq_true', Bool.not_eq_false', Bool.not_eq_eq_eq_not, Bool.not_true, Bool.not_false, ne_eq, Decidable.not_not, Classical.not_not] at hs1_3
    refine g_v (.held _ _ _ rfl rfl rfl) rfl rfl (qt_loadS (n := 1) rfl rfl Tryz.underlying31 rfl (by kernel_rfl) rfl) ?_
    refine g_q (.held _ _ _ rfl rfl rfl) rfl rfl (qt_call rfl Tryz.func68 rfl (by decide) rfl (fun w M => specIsF_any w _ _ (mem_rdF M e0))) ?_
    refine g_v (.held _ _ _ rfl rfl rfl) rfl rfl (qt_not rfl rfl) ?_
    refine g_v (.free rfl) rfl rfl (qt_pick_f rfl rfl rfl) ?_
    refine g_nil ?_
    refine gk_then (hK7 _ _ ?_)
    refine gc_cond rfl (fun hc0 => ?_) (fun hc0 => ?_)
    · try simp only [decide_eq_true_eq, decide_eq_false_iff_not, Bool.not_eq_true', Bool.not_eq_false', Bool.not_eq_eq_eq_not, Bool.not_true, Bool.not_false, ne_eq, Decidable.not_not, Classical.not_not] at hc0
      refine gc_seq fun K9 hK9 => ?_
      refine gc_region ?_
      refine g_v (.free rfl) rfl rfl (qt_assign rfl rfl) ?_
      refine g_nil ?_
      refine gk_then (hK9 _ _ ?_)
      refine gc_ret ?_
      refine gk_then_ret ?_
      refine ret_1 rfl rfl  (fun w M => ?_)
      rw [twoFE_f (fun hh => by rw [hc0] at hh; simp at hh)]; exact ⟨rfl, M.1⟩
    · try simp only [decide_eq_true_eq, decide_eq_false_iff_not, Bool.not_eq_true', Bool.not_eq_false', Bool.not_eq_eq_eq_not, Bool.not_true, Bool.not_false, ne_eq, Decidable.not_not, Classical.not_not] at hc0
      refine gc_skip ?_
      refine gk_then (hK6 _ _ ?_)
      refine gc_seq fun K10 hK10 => ?_
      refine gc_region ?_
      refine g_v (.free rfl) rfl rfl (qt_assign rfl rfl) ?_
      refine g_nil ?_
      refine gk_then (hK10 _ _ ?_)
      refine gc_ret ?_
      refine ret_1 rfl rfl  (fun w M => ?_)
      rw [twoFE_t hs1_3 hc0]; exact ⟨rfl, M.1⟩
end Go.Proofs.YtpcabkdkdnchaaaGreat
