
/- Functors: what is read of one, the identity, and the program's reading of one and of two; the model's copies. -/
import Derived.Test.YtfnneogadciimabFunR
import Derived.Test.YtfnneogadciimabIsF
import Derived.Test.YtfnneogadciimabOwnL
import Derived.Test.YtfnneogadciimabTwo2
set_option linter.unusedSimpArgs false
set_option linter.unusedVariables false
set_option linter.unusedSectionVars false
namespace Go.Proofs.Ytfnneogadciimab
open Go.RowKit


noncomputable def fctErr (F : Fct) : Int := if fIsFunctor F = true then 0 else 1
noncomputable def fctF (F : Fct) : Fct := if fIsFunctor F = true then F else fct0
theorem fctErr_t {F : Fct} (h : fIsFunctor F = true) : fctErr F = 0 ∧ fctF F = F := ⟨if_pos h, if_pos h⟩
theorem fctErr_f {F : Fct} (h : fIsFunctor F = false) : fctErr F = 1 ∧ fctF F = fct0 := ⟨if_neg (by rw [h]; decide), if_neg (by rw [h]; decide)⟩
theorem fctErr_0 {F : Fct} (h : fctErr F = 0) : fIsFunctor F = true := by
  cases hh : fIsFunctor F with
  | true => rfl
  | false => rw [(fctErr_f hh).1] at h; omega
theorem fctErr_n {F : Fct} (h : ¬ fctErr F = 0) : fIsFunctor F = false ∧ fctErr F = 1 ∧ fctF F = fct0 := by
  cases hh : fIsFunctor F with
  | true => exact absurd (fctErr_t hh).1 h
  | false => exact ⟨rfl, fctErr_f hh⟩
noncomputable def twoFE (F G : Fct) : Int := if fIsFunctor F = true ∧ fIsFunctor G = true then 0 else 1
noncomputable def twoFD (F G : Fct) : Fct := if fIsFunctor F = true then fctF G else fct0
theorem twoFE_t {F G : Fct} (h : fIsFunctor F = true) (h' : fIsFunctor G = true) : twoFE F G = 0 := if_pos ⟨h, h'⟩
theorem twoFE_f {F G : Fct} (h : ¬ (fIsFunctor F = true ∧ fIsFunctor G = true)) : twoFE F G = 1 := if_neg h
theorem twoFE_0 {F G : Fct} (h : twoFE F G = 0) : fIsFunctor F = true ∧ fIsFunctor G = true := by
  by_cases hh : fIsFunctor F = true ∧ fIsFunctor G = true
  · exact hh
  · rw [twoFE_f hh] at h; omega
theorem twoFE_n {F G : Fct} (h : ¬ twoFE F G = 0) : ¬ (fIsFunctor F = true ∧ fIsFunctor G = true) ∧ twoFE F G = 1 := by
  by_cases hh : fIsFunctor F = true ∧ fIsFunctor G = true
  · exact absurd (twoFE_t hh.1 hh.2) h
  · exact ⟨hh, twoFE_f hh⟩
theorem twoF_c {F G : Fct} (h : twoFE F G = 0) : fctF F = F ∧ twoFD F G = G := by
  have h1 := twoFE_0 h
  exact ⟨if_pos h1.1, (if_pos h1.1).trans (if_pos h1.2)⟩
def numL (n : Nat) : List Int := tabTo (fun j => (j : Int)) n
theorem numL_up (n : Nat) : upTo 0 n = numL n := by simp [upTo, numL, tabTo]
theorem numL_len (n : Nat) : (numL n).length = n := tabTo_len _ _
theorem numL_succ (n : Nat) : numL n ++ [(n : Int)] = numL (n + 1) := tabTo_succ (fun j => (j : Int)) n
theorem numL_at {n k : Nat} (h : k < n) : at0 (numL n) (k : Int) = k := tabTo_at (fun j => (j : Int)) h
def selfF (c : Cat) : Fct := ⟨c, c, numL c.ob.toNat, numL c.s.length⟩
theorem mz_bnd {c : Cat} (h1 : c.s.length ≤ 40) (h2 : c.t.length ≤ 40) (h3 : c.e.length ≤ 40) (h4 : c.m.length ≤ 40) (h5 : ∀ i, i < c.m.length → (row2 c.m (i : Int)).length ≤ 40) : mzC c ≤ 1720 := by
  have h := offR_le (rows := c.m) (b := 40) c.m.length (Nat.le_refl _) h5
  have h6 : c.m.length * 40 ≤ 40 * 40 := Nat.mul_le_mul_right _ h4
  unfold mzC; omega
theorem mz_cat {c : Cat} (h : fIsCategory c = true) : mzC c ≤ 1720 := by
  have hS := (isCat_of h).toShapeP
  have htl := hS.tl; have hel := hS.el; have hob8 := hS.ob8; have hn40 := hS.n40; have hml := hS.ml
  refine mz_bnd hn40 (by omega) (by omega) (by omega) fun i hi => ?_
  have := hS.rl i hi
  simp only [row2, Int.toNat_natCast]; omega
theorem countL_any (w : World) (n : Int) (h0 : 0 ≤ n) (h1 : n ≤ 1000000) : Calls Try.prog 120 #[.int .i64 n] w (RetL w (numL n.toNat)) := by
  obtain ⟨k, rfl⟩ := Int.eq_ofNat_of_zero_le h0
  refine (counting_any w k (by omega)).mono fun e w' h => ?_
  obtain ⟨g, rfl, hs, hb⟩ := h
  rw [numL_up] at hs
  exact ⟨_, rfl, hs, hb⟩

set_option maxHeartbeats 1000000 in
set_option maxRecDepth 100000 in
theorem specMakeF_any (w : World) (v : Value) (c : Cat) (h : RdC w v c) (u : Value) (d : Cat) (e : RdC w u d) (p : Value) (xs : List Int) (q : Value) (ys : List Int) (hp : Rd w p xs) (hq : Rd w q ys) :
    Calls Try.prog 75 #[v, u, p, q] w (RetFn w ⟨c, d, xs, ys⟩) := by
  have h0 := h
  obtain ⟨va, vb, vc, vd, ve, vf, vg, vh, rfl, h1, h2, h3, h4, _⟩ := h.lists
  have e0 := e
  obtain ⟨ua, ub, uc, ud, ue, uf, ug, uh, rfl, e1, e2, e3, e4, _⟩ := e.lists
  obtain ⟨pa, pc, rfl⟩ := rd_form hp
  obtain ⟨qa, qc, rfl⟩ := rd_form hq
  go_enter Try.func75, Try.ntmps75
  refine gc_enter (N := 18) rfl (look_cons (k := 0) rfl (look_cons (k := 1) rfl (look_cons (k := 2) rfl (look_cons (k := 3) rfl (look_nil _))))) ?_
  refine gc_seq fun K1 hK1 => ?_
  refine gc_region ?_
  refine g_op (.free rfl) fun K3 hK3 => ?_
  refine go_box rfl rfl rfl rfl rfl ?_
  intro B2
  refine hK3 _ _ ?_
  refine g_op (.free rfl) fun K5 hK5 => ?_
  refine go_box rfl rfl rfl rfl rfl ?_
  intro B4
  refine hK5 _ _ ?_
  refine g_op (.free rfl) fun K7 hK7 => ?_
  refine go_alloc (z := (.agg #[.int .i64 0, .slice none 0 0, .slice none 0 0, .slice none 0 0, .slice none 0 0, .int .i64 0, .slice none 0 0, .slice none 0 0, .slice none 0 0, .slice none 0 0, .slice none 0 0, .slice none 0 0])) (cs := [.int .i64 0, .slice none 0 0, .slice none 0 0, .slice none 0 0, .slice none 0 0, .int .i64 0, .slice none 0 0, .slice none 0 0, .slice none 0 0, .slice none 0 0, .slice none 0 0, .slice none 0 0]) rfl rfl rfl (fun w => by kernel_rfl) rfl ?_
  intro B6
  refine hK7 _ _ ?_
  refine g_nil ?_
  refine gk_then (hK1 _ _ ?_)
  refine gc_seq fun K8 hK8 => ?_
  try simp only [List.nil_append, List.cons_append, List.append_assoc, List.set_cons_succ, List.set_cons_zero]
  refine ga_start _ (fun w M => mem_erase 2 (M)) ?_
  refine ga_v 0 rfl (by kernel_rfl) (by kernel_rfl) (by kernel_rfl) (.free rfl) rfl rfl (qt_loadS (n := 0) rfl rfl Try.underlying30 rfl (by kernel_rfl) rfl) (fun _ _ _ h => h) ?_
  refine ga_v 2 rfl (by kernel_rfl) (by kernel_rfl) (by kernel_rfl) (.free rfl) rfl rfl (qt_loadS (n := 1) rfl rfl Try.underlying30 rfl (by kernel_rfl) rfl) (fun _ _ _ h => h) ?_
  refine ga_v 4 rfl (by kernel_rfl) (by kernel_rfl) (by kernel_rfl) (.free rfl) rfl rfl (qt_move rfl rfl) (fun _ _ _ h => h) ?_
  refine ga_v 6 rfl (by kernel_rfl) (by kernel_rfl) (by kernel_rfl) (.free rfl) rfl rfl (qt_move rfl rfl) (fun _ _ _ h => h) ?_
  refine ga_op 1 (by kernel_rfl) rfl (.free rfl) fun K10 hK10 => ?_
  refine go_callC rfl rfl rfl Try.func124 rfl (by decide) rfl (fun w M => specOwnC_any w _ _ (mem_rdC M h0)) ?_
  intro ca9 cb9 cc9 cd9 ce9 cf9 cg9 ch9 cu9
  refine hK10 _ _ (fun w M => (mem_erase 2 (mem_take 3 M) :)) ?_
  refine ga_op 3 (by kernel_rfl) rfl (.free rfl) fun K12 hK12 => ?_
  refine go_callC rfl rfl rfl Try.func124 rfl (by decide) rfl (fun w M => specOwnC_any w _ _ (mem_rdC M e0)) ?_
  intro ca11 cb11 cc11 cd11 ce11 cf11 cg11 ch11 cu11
  refine hK12 _ _ (fun w M => (mem_erase 2 (mem_take 3 M) :)) ?_
  refine ga_op 5 (by kernel_rfl) rfl (.free rfl) fun K14 hK14 => ?_
  refine go_callL rfl rfl rfl Try.func125 rfl (by decide) rfl (fun w M => specOwn_any w _ _ (mem_rd M hp)) ?_
  intro va13 vc13
  refine hK14 _ _ (fun w M => (mem_erase 2 (mem_take 3 M) :)) ?_
  refine ga_op 7 (by kernel_rfl) rfl (.free rfl) fun K16 hK16 => ?_
  refine go_callL rfl rfl rfl Try.func125 rfl (by decide) rfl (fun w M => specOwn_any w _ _ (mem_rd M hq)) ?_
  intro va15 vc15
  refine hK16 _ _ (fun w M => (mem_erase 2 (mem_take 3 M) :)) ?_
  refine ga_v 8 rfl (by kernel_rfl) (by kernel_rfl) (by kernel_rfl) (.free rfl) rfl rfl (qt_build rfl rfl bt_Functor) (fun _ _ _ h => h) ?_
  refine ga_op 9 (by kernel_rfl) rfl (.free rfl) fun K17 hK17 => ?_
  refine go_storeS (n := 2) rfl rfl rfl rfl (by kernel_rfl) rfl rfl rfl ?_
  refine hK17 _ _ (fun w M => (mem_erase 2 (mem_take 3 M) :)) ?_
  refine ga_done (by kernel_rfl) ?_
  refine gk_then (hK8 _ _ ?_)
  refine gc_ret ?_
  refine ret_S (n := 2) rfl rfl Try.underlying32 rfl (by kernel_rfl) rfl (fun w M => ?_)
  exact retFn_star (F := ⟨c, d, xs, ys⟩) (mem_block 3 10 (M))

set_option maxHeartbeats 1000000 in
set_option maxRecDepth 100000 in
theorem copiedF_any (w : World) (v : Value) (F : Fct) (h : RdF w v F) :
    Calls Try.prog 145 #[v] w (RetFn w F) := by
  have h0 := h
  obtain ⟨vx1, vx2, vx3, vx4, vx5, vx6, vx7, vx8, vx9, vx10, vk1, vk2, vk3, vk4, vk5, vk6, vk7, vk8, vk9, vk10, rfl, h1, h2, h3, h4, h5, h6, h7, h8, h9, h10⟩ := h.lists
  go_enter Try.func145, Try.ntmps145
  refine gc_enter (N := 16) rfl (look_cons (k := 0) rfl (look_nil _)) ?_
  refine gc_seq fun K1 hK1 => ?_
  refine gc_region ?_
  refine g_op (.free rfl) fun K3 hK3 => ?_
  refine go_box rfl rfl rfl rfl rfl ?_
  intro B2
  refine hK3 _ _ ?_
  refine g_op (.free rfl) fun K5 hK5 => ?_
  refine go_alloc (z := (.agg #[.int .i64 0, .slice none 0 0, .slice none 0 0, .slice none 0 0, .slice none 0 0, .int .i64 0, .slice none 0 0, .slice none 0 0, .slice none 0 0, .slice none 0 0, .slice none 0 0, .slice none 0 0])) (cs := [.int .i64 0, .slice none 0 0, .slice none 0 0, .slice none 0 0, .slice none 0 0, .int .i64 0, .slice none 0 0, .slice none 0 0, .slice none 0 0, .slice none 0 0, .slice none 0 0, .slice none 0 0]) rfl rfl rfl (fun w => by kernel_rfl) rfl ?_
  intro B4
  refine hK5 _ _ ?_
  refine g_nil ?_
  refine gk_then (hK1 _ _ ?_)
  refine gc_seq fun K6 hK6 => ?_
  try simp only [List.nil_append, List.cons_append, List.append_assoc, List.set_cons_succ, List.set_cons_zero]
  refine ga_start _ (fun w M => mem_erase 1 (M)) ?_
  refine ga_v 0 rfl (by kernel_rfl) (by kernel_rfl) (by kernel_rfl) (.free rfl) rfl rfl (qt_field (z := 4) (off := 0) rfl rfl Try.underlying32 rfl (by kernel_rfl) rfl) (fun _ _ _ h => h) ?_
  refine ga_v 1 rfl (by kernel_rfl) (by kernel_rfl) (by kernel_rfl) (.free rfl) rfl rfl (qt_loadP (n := 0) (z := 5) rfl rfl Try.underlying30 rfl (by kernel_rfl) rfl (by first | decide | exact Nat.le_refl _ | simp)) (fun _ _ _ h => h) ?_
  refine ga_v 3 rfl (by kernel_rfl) (by kernel_rfl) (by kernel_rfl) (.free rfl) rfl rfl (qt_field (z := 4) (off := 5) rfl rfl Try.underlying32 rfl (by kernel_rfl) rfl) (fun _ _ _ h => h) ?_
  refine ga_v 4 rfl (by kernel_rfl) (by kernel_rfl) (by kernel_rfl) (.free rfl) rfl rfl (qt_loadP (n := 0) (z := 5) rfl rfl Try.underlying30 rfl (by kernel_rfl) rfl (by first | decide | exact Nat.le_refl _ | simp)) (fun _ _ _ h => h) ?_
  refine ga_v 6 rfl (by kernel_rfl) (by kernel_rfl) (by kernel_rfl) (.free rfl) rfl rfl (qt_field (z := 0) (off := 10) rfl rfl Try.underlying32 rfl (by kernel_rfl) rfl) (fun _ _ _ h => h) ?_
  refine ga_v 7 rfl (by kernel_rfl) (by kernel_rfl) (by kernel_rfl) (.free rfl) rfl rfl (qt_loadB (n := 0) rfl rfl Try.underlying22 rfl rfl rfl) (fun _ _ _ h => h) ?_
  refine ga_v 9 rfl (by kernel_rfl) (by kernel_rfl) (by kernel_rfl) (.free rfl) rfl rfl (qt_field (z := 0) (off := 11) rfl rfl Try.underlying32 rfl (by kernel_rfl) rfl) (fun _ _ _ h => h) ?_
  refine ga_v 10 rfl (by kernel_rfl) (by kernel_rfl) (by kernel_rfl) (.free rfl) rfl rfl (qt_loadB (n := 0) rfl rfl Try.underlying22 rfl rfl rfl) (fun _ _ _ h => h) ?_
  refine ga_op 2 (by kernel_rfl) rfl (.free rfl) fun K8 hK8 => ?_
  refine go_callC rfl rfl rfl Try.func164 rfl (by decide) rfl (fun w M => copied_any w _ _ (rdC_mk (mem_rd M h1) (mem_rd M h2) (mem_rd M h3) (mem_rd2 M h4))) ?_
  intro ca7 cb7 cc7 cd7 ce7 cf7 cg7 ch7 cu7
  refine hK8 _ _ (fun w M => (mem_erase 1 (mem_take 2 M) :)) ?_
  refine ga_op 5 (by kernel_rfl) rfl (.free rfl) fun K10 hK10 => ?_
  refine go_callC rfl rfl rfl Try.func164 rfl (by decide) rfl (fun w M => copied_any w _ _ (rdC_mk (mem_rd M h5) (mem_rd M h6) (mem_rd M h7) (mem_rd2 M h8))) ?_
  intro ca9 cb9 cc9 cd9 ce9 cf9 cg9 ch9 cu9
  refine hK10 _ _ (fun w M => (mem_erase 1 (mem_take 2 M) :)) ?_
  refine ga_op 8 (by kernel_rfl) rfl (.free rfl) fun K12 hK12 => ?_
  refine go_callL rfl rfl rfl Try.func98 rfl (by decide) rfl (fun w M => clone_any w _ _ (mem_rd M h9)) ?_
  intro va11 vc11
  refine hK12 _ _ (fun w M => (mem_erase 1 (mem_take 2 M) :)) ?_
  refine ga_op 11 (by kernel_rfl) rfl (.free rfl) fun K14 hK14 => ?_
  refine go_callL rfl rfl rfl Try.func98 rfl (by decide) rfl (fun w M => clone_any w _ _ (mem_rd M h10)) ?_
  intro va13 vc13
  refine hK14 _ _ (fun w M => (mem_erase 1 (mem_take 2 M) :)) ?_
  refine ga_v 12 rfl (by kernel_rfl) (by kernel_rfl) (by kernel_rfl) (.free rfl) rfl rfl (qt_build rfl rfl bt_Functor) (fun _ _ _ h => h) ?_
  refine ga_op 13 (by kernel_rfl) rfl (.free rfl) fun K15 hK15 => ?_
  refine go_storeS (n := 1) rfl rfl rfl rfl (by kernel_rfl) rfl rfl rfl ?_
  refine hK15 _ _ (fun w M => (mem_erase 1 (mem_take 2 M) :)) ?_
  refine ga_done (by kernel_rfl) ?_
  refine gk_then (hK6 _ _ ?_)
  refine gc_ret ?_
  refine ret_S (n := 1) rfl rfl Try.underlying32 rfl (by kernel_rfl) rfl (fun w M => ?_)
  exact retFn_star (F := F) (mem_block 2 10 (M))

set_option maxHeartbeats 1000000 in
set_option maxRecDepth 100000 in
theorem readFunctor_f (w : World) (v : Value) (F : Fct) (h : RdF w v F) (hF : fIsFunctor F = false) :
    Calls Try.prog 116 #[v] w (ZeroF w 1) := by
  have h0 := h
  obtain ⟨vx1, vx2, vx3, vx4, vx5, vx6, vx7, vx8, vx9, vx10, vk1, vk2, vk3, vk4, vk5, vk6, vk7, vk8, vk9, vk10, rfl, h1, h2, h3, h4, h5, h6, h7, h8, h9, h10⟩ := h.lists
  go_enter Try.func116, Try.ntmps116
  refine gc_enter (N := 10) rfl (look_cons (k := 0) rfl (look_nil _)) ?_
  refine gc_seq fun K1 hK1 => ?_
  refine gc_region ?_
  refine g_op (.free rfl) fun K3 hK3 => ?_
  refine go_box rfl rfl rfl rfl rfl ?_
  intro B2
  refine hK3 _ _ ?_
  refine g_op (.free rfl) fun K5 hK5 => ?_
  refine go_alloc (z := (.agg #[.int .i64 0, .slice none 0 0, .slice none 0 0, .slice none 0 0, .slice none 0 0, .int .i64 0, .slice none 0 0, .slice none 0 0, .slice none 0 0, .slice none 0 0, .slice none 0 0, .slice none 0 0])) (cs := [.int .i64 0, .slice none 0 0, .slice none 0 0, .slice none 0 0, .slice none 0 0, .int .i64 0, .slice none 0 0, .slice none 0 0, .slice none 0 0, .slice none 0 0, .slice none 0 0, .slice none 0 0]) rfl rfl rfl (fun w => by kernel_rfl) rfl ?_
  intro B4
  refine hK5 _ _ ?_
  refine g_v (.free rfl) rfl rfl (qt_assign rfl rfl) ?_
  refine g_nil ?_
  refine gk_then (hK1 _ _ ?_)
  refine gc_seq fun K6 hK6 => ?_
  refine gc_seq fun K7 hK7 => ?_
  refine gc_region ?_
  refine g_v (.free rfl) rfl rfl (qt_loadS (n := 0) rfl rfl Try.underlying32 rfl (by kernel_rfl) rfl) ?_
  refine g_q (.free rfl) rfl rfl (qt_call rfl Try.func144 rfl (by decide) rfl (fun w M => impl_IsFunctor w _ _ (mem_rdF M h0))) ?_
  refine g_v (.free rfl) rfl rfl (qt_not rfl rfl) ?_
  refine g_nil ?_
  refine gk_then (hK7 _ _ ?_)
  refine gc_cond rfl (fun hc0 => ?_) (fun hc0 => ?_)
  · try simp only [decide_eq_true_eq, decide_eq_false_iff_not, Bool.not_eq_true', Bool.not_eq_false', Bool.not_eq_eq_eq_not, Bool.not_true, Bool.not_false, ne_eq, Decidable.not_not, Classical.not_not] at hc0
    refine gc_seq fun K8 hK8 => ?_
    refine gc_region ?_
    refine g_v (.free rfl) rfl rfl (qt_build rfl rfl bt0_Functor) ?_
    refine g_op (.free rfl) fun K9 hK9 => ?_
    refine go_storeS (n := 1) rfl rfl rfl rfl (by kernel_rfl) rfl rfl rfl ?_
    refine hK9 _ _ ?_
    refine g_v (.free rfl) rfl rfl (qt_assign rfl rfl) ?_
    refine g_nil ?_
    refine gk_then (hK8 _ _ ?_)
    refine gc_ret ?_
    refine gk_then_ret ?_
    refine ret_SI (n := 1) rfl rfl rfl Try.underlying32 rfl (by kernel_rfl) rfl (fun w M => ?_)
    exact ⟨rfl, M.1⟩
  · try simp only [decide_eq_true_eq, decide_eq_false_iff_not, Bool.not_eq_true', Bool.not_eq_false', Bool.not_eq_eq_eq_not, Bool.not_true, Bool.not_false, ne_eq, Decidable.not_not, Classical.not_not] at hc0
    rw [hF] at hc0; cases hc0

set_option maxHeartbeats 1000000 in
set_option maxRecDepth 100000 in
theorem readFunctor_t (w : World) (v : Value) (F : Fct) (h : RdF w v F) (hF : fIsFunctor F = true) :
    Calls Try.prog 116 #[v] w (RetFI w F 0) := by
  have h0 := h
  obtain ⟨vx1, vx2, vx3, vx4, vx5, vx6, vx7, vx8, vx9, vx10, vk1, vk2, vk3, vk4, vk5, vk6, vk7, vk8, vk9, vk10, rfl, h1, h2, h3, h4, h5, h6, h7, h8, h9, h10⟩ := h.lists
  go_enter Try.func116, Try.ntmps116
  refine gc_enter (N := 10) rfl (look_cons (k := 0) rfl (look_nil _)) ?_
  refine gc_seq fun K1 hK1 => ?_
  refine gc_region ?_
  refine g_op (.free rfl) fun K3 hK3 => ?_
  refine go_box rfl rfl rfl rfl rfl ?_
  intro B2
  refine hK3 _ _ ?_
  refine g_op (.free rfl) fun K5 hK5 => ?_
  refine go_alloc (z := (.agg #[.int .i64 0, .slice none 0 0, .slice none 0 0, .slice none 0 0, .slice none 0 0, .int .i64 0, .slice none 0 0, .slice none 0 0, .slice none 0 0, .slice none 0 0, .slice none 0 0, .slice none 0 0])) (cs := [.int .i64 0, .slice none 0 0, .slice none 0 0, .slice none 0 0, .slice none 0 0, .int .i64 0, .slice none 0 0, .slice none 0 0, .slice none 0 0, .slice none 0 0, .slice none 0 0, .slice none 0 0]) rfl rfl rfl (fun w => by kernel_rfl) rfl ?_
  intro B4
  refine hK5 _ _ ?_
  refine g_v (.free rfl) rfl rfl (qt_assign rfl rfl) ?_
  refine g_nil ?_
  refine gk_then (hK1 _ _ ?_)
  refine gc_seq fun K6 hK6 => ?_
  refine gc_seq fun K7 hK7 => ?_
  refine gc_region ?_
  refine g_v (.free rfl) rfl rfl (qt_loadS (n := 0) rfl rfl Try.underlying32 rfl (by kernel_rfl) rfl) ?_
  refine g_q (.free rfl) rfl rfl (qt_call rfl Try.func144 rfl (by decide) rfl (fun w M => impl_IsFunctor w _ _ (mem_rdF M h0))) ?_
  refine g_v (.free rfl) rfl rfl (qt_not rfl rfl) ?_
  refine g_nil ?_
  refine gk_then (hK7 _ _ ?_)
  refine gc_cond rfl (fun hc0 => ?_) (fun hc0 => ?_)
  · try simp only [decide_eq_true_eq, decide_eq_false_iff_not, Bool.not_eq_true', Bool.not_eq_false', Bool.not_eq_eq_eq_not, Bool.not_true, Bool.not_false, ne_eq, Decidable.not_not, Classical.not_not] at hc0
    rw [hF] at hc0; cases hc0
  · try simp only [decide_eq_true_eq, decide_eq_false_iff_not, Bool.not_eq_true', Bool.not_eq_false', Bool.not_eq_eq_eq_not, Bool.not_true, Bool.not_false, ne_eq, Decidable.not_not, Classical.not_not] at hc0
    refine gc_skip ?_
    refine gk_then (hK6 _ _ ?_)
    refine gc_seq fun K8 hK8 => ?_
    refine gc_region ?_
    refine g_v (.free rfl) rfl rfl (qt_loadS (n := 0) rfl rfl Try.underlying32 rfl (by kernel_rfl) rfl) ?_
    refine g_op (.free rfl) fun K10 hK10 => ?_
    refine go_callFn rfl rfl rfl Try.func145 rfl (by decide) rfl (fun w M => copiedF_any w _ _ (mem_rdF M h0)) ?_
    intro fx1_9 fk1_9 fx2_9 fk2_9 fx3_9 fk3_9 fx4_9 fk4_9 fx5_9 fk5_9 fx6_9 fk6_9 fx7_9 fk7_9 fx8_9 fk8_9 fx9_9 fk9_9 fx10_9 fk10_9 us9 ut9
    refine hK10 _ _ ?_
    refine g_op (.free rfl) fun K11 hK11 => ?_
    refine go_storeS (n := 1) rfl rfl rfl rfl (by kernel_rfl) rfl rfl rfl ?_
    refine hK11 _ _ ?_
    refine g_v (.free rfl) rfl rfl (qt_assign rfl rfl) ?_
    refine g_nil ?_
    refine gk_then (hK8 _ _ ?_)
    refine gc_ret ?_
    refine ret_SI (n := 1) rfl rfl rfl Try.underlying32 rfl (by kernel_rfl) rfl (fun w M => ?_)
    exact retFI_star (F := F) (mem_block 2 10 (M))


theorem readFct_any (w : World) (v : Value) (F : Fct) (h : RdF w v F) : Calls Try.prog 116 #[v] w (RetFI w (fctF F) (fctErr F)) := by
  cases hI : fIsFunctor F with
  | false => rw [(fctErr_f hI).1, (fctErr_f hI).2]; exact (readFunctor_f w v F h hI).mono fun e w' h => retFI_of0 h
  | true => rw [(fctErr_t hI).1, (fctErr_t hI).2]; exact readFunctor_t w v F h hI

end Go.Proofs.Ytfnneogadciimab
