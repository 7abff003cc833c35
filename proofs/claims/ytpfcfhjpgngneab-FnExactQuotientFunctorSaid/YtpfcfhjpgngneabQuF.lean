
/- The functor to a quotient: both sides. -/
import Derived.Test.YtpfcfhjpgngneabSelF
import Derived.Test.YtpfcfhjpgngneabQuo
set_option linter.unusedSimpArgs false
set_option linter.unusedVariables false
set_option linter.unusedSectionVars false
namespace Go.Proofs.Ytpfcfhjpgngneab
open Go.RowKit


section
variable {w0 : World} {is : List Itm} {o : Oper} {e : Env} {v : Value}
theorem qt_fieldA {x : Operand} {s : TypeId} {n off : Nat} {cs : List Value} {fs : Array Field} {f : Field} (hs : Try.prog.underlying s = some (.struct fs)) (hop : o.op = .field s x n) (hx : evo e x = some (.agg cs.toArray)) (hf : fs[n]? = some f) (hz : (Try.prog.info? f.type).map (·.size) = some 1) (ho : f.offset = off) (hv : cs[off]? = some v) {td : TypeDesc} (hu : Try.prog.underlying f.type = some td) (hg : aggT td = false) : QV w0 is o e v := fun w ρ M F => by
  have hagg : (isAgg f.type).run Try.prog w = .ok false w := by
    unfold isAgg
    rw [Sem.run_bind, run_underlying hu w]
    cases td <;> simp_all [aggT]
  have hx := F _ _ hx
  obtain ⟨i, hi, hz'⟩ := Option.map_eq_some_iff.1 hz
  subst ho
  simp [execOp, hop, hx, Instr.field, Sem.run_bind, run_underlying hs, hf, part, sizeOf, typeInfo, hi, hz', asAgg, hv, hagg]
end
noncomputable def fQuotientFunctor (c : Cat) (p : List Int) : Fct × Int := if (fQuotientCategory c p).2 = 0 then (⟨c, (fQuotientCategory c p).1, numL c.ob.toNat, p⟩, 0) else (fct0, (fQuotientCategory c p).2)
theorem quf_t {c : Cat} {p : List Int} (h : (fQuotientCategory c p).2 = 0) : fQuotientFunctor c p = (⟨c, (fQuotientCategory c p).1, numL c.ob.toNat, p⟩, 0) := if_pos h
theorem quf_f {c : Cat} {p : List Int} (h : ¬ (fQuotientCategory c p).2 = 0) : fQuotientFunctor c p = (fct0, (fQuotientCategory c p).2) := if_neg h
theorem quf_0 {c : Cat} {p : List Int} (h : (fQuotientCategory c p).2 = 0) : fIsCategory c = true ∧ congM c p := by
  by_cases hh : fIsCategory c = true ∧ congM c p
  · exact hh
  · rw [quo_f hh] at h; exact absurd h (by decide)
theorem bound_QuotientFunctor (c : Cat) (p : List Int) : mzF (fQuotientFunctor c p).1 ≤ 3500000000000000 := by
  by_cases h : (fQuotientCategory c p).2 = 0
  · have hh := quf_0 h
    have h1 := mz_cat hh.1; have h2 := bound_QuotientCategory c p
    have hS := (isCat_of hh.1).toShapeP
    have hob8 := hS.ob8; have hn40 := hS.n40; have hl := hh.2.1.1
    rw [quf_t h]
    show mzC c + mzC (fQuotientCategory c p).1 + (numL c.ob.toNat).length + p.length ≤ _
    rw [numL_len]; omega
  · rw [quf_f h]; show mzF fct0 ≤ _; decide

set_option maxHeartbeats 1000000 in
set_option maxRecDepth 100000 in
theorem spec_QuotientFunctor (w : World) (v : Value) (c : Cat) (u : Value) (p : List Int) (h : RdC w v c) (hu : Rd w u p) :
    Calls Try.prog 39 #[v, u] w (RetFI w (fQuotientFunctor c p).1 (fQuotientFunctor c p).2) := by
  have h0 := h
  obtain ⟨va, vb, vc, vd, ve, vf, vg, vh, rfl, h1, h2, h3, h4, _⟩ := h.lists
  obtain ⟨ua, uc, rfl⟩ := rd_form hu
  go_enter Try.func39, Try.ntmps39
  refine gc_enter (N := 25) rfl (look_cons (k := 0) rfl (look_cons (k := 1) rfl (look_nil _))) ?_
  refine gc_seq fun K1 hK1 => ?_
  refine gc_region ?_
  refine g_op (.free rfl) fun K3 hK3 => ?_
  refine go_box rfl rfl rfl rfl rfl ?_
  intro B2
  refine hK3 _ _ ?_
  refine g_op (.free rfl) fun K5 hK5 => ?_
  refine go_alloc (z := (.agg #[.int .i64 0, .slice none 0 0, .slice none 0 0, .slice none 0 0, .slice none 0 0, .int .i64 0, .slice none 0 0, .slice none 0 0, .slice none 0 0, .slice none 0 0, .slice none 0 0, .slice none 0 0])) (cs := [.int .i64 0, .slice none 0 0, .slice none 0 0, .slice none 0 0, .slice none 0 0, .int .i64 0, .slice none 0 0, .slice none 0 0, .slice none 0 0, .slice none 0 0, .slice none 0 0, .slice none 0 0]) rfl rfl rfl (fun w => by kernel_rfl) rfl ?_
  intro B4
  refine hK5 _ _ ?_
  refine g_v (.free rfl) rfl rfl (qt_assign rfl rfl) ?_
  refine g_nil ?_
  refine gk_then (hK1 _ _ ?_)
  refine gc_seq fun K6 hK6 => ?_
  refine gc_region ?_
  refine g_v (.free rfl) rfl rfl (qt_loadS (n := 0) rfl rfl Try.underlying29 rfl (by kernel_rfl) rfl) ?_
  refine g_v (.free rfl) rfl rfl (qt_move rfl rfl) ?_
  refine g_op (.free rfl) fun K8 hK8 => ?_
  refine go_callCI rfl rfl rfl Try.func48 rfl (by decide) rfl (fun w M => spec_QuotientCategory w _ _ _ _ (mem_rdC M h0) (mem_rd M hu)) ?_
  intro ca7 cb7 cc7 cd7 ce7 cf7 cg7 ch7 cu7
  refine hK8 _ _ ?_
  refine g_v (.free rfl) rfl rfl (qt_move rfl rfl) ?_
  refine g_v (.free rfl) rfl rfl (qt_extract rfl rfl rfl) ?_
  refine g_v (.free rfl) rfl rfl (qt_extract rfl rfl rfl) ?_
  refine g_op (.free rfl) fun K10 hK10 => ?_
  refine go_alloc (z := (.agg #[.int .i64 0, .slice none 0 0, .slice none 0 0, .slice none 0 0, .slice none 0 0])) (cs := [.int .i64 0, .slice none 0 0, .slice none 0 0, .slice none 0 0, .slice none 0 0]) rfl rfl rfl (fun w => by kernel_rfl) rfl ?_
  intro B9
  refine hK10 _ _ ?_
  refine g_op (.free rfl) fun K11 hK11 => ?_
  refine go_storeS (n := 6) rfl rfl rfl rfl (by kernel_rfl) rfl rfl rfl ?_
  refine hK11 _ _ ?_
  refine g_v (.free rfl) rfl rfl (qt_assign rfl rfl) ?_
  refine g_nil ?_
  refine gk_then (hK6 _ _ ?_)
  refine gc_seq fun K12 hK12 => ?_
  refine gc_seq fun K13 hK13 => ?_
  refine gc_region ?_
  refine g_v (.free rfl) rfl rfl (qt_move rfl rfl) ?_
  refine g_v (.free rfl) rfl rfl (qt_neq rfl rfl rfl) ?_
  refine g_nil ?_
  refine gk_then (hK13 _ _ ?_)
  refine gc_cond rfl (fun hc0 => ?_) (fun hc0 => ?_)
  · try simp only [decide_eq_true_eq, decide_eq_false_iff_not, Bool.not_eq_true', Bool.not_eq_false', Bool.not_eq_eq_eq_not, Bool.not_true, Bool.not_false, ne_eq, Decidable.not_not, Classical.not_not] at hc0
    refine gc_seq fun K14 hK14 => ?_
    refine gc_region ?_
    refine g_v (.free rfl) rfl rfl (qt_build rfl rfl bt0_Functor) ?_
    refine g_v (.free rfl) rfl rfl (qt_move rfl rfl) ?_
    refine g_op (.free rfl) fun K15 hK15 => ?_
    refine go_storeS (n := 1) rfl rfl rfl rfl (by kernel_rfl) rfl rfl rfl ?_
    refine hK15 _ _ ?_
    refine g_v (.free rfl) rfl rfl (qt_assign rfl rfl) ?_
    refine g_nil ?_
    refine gk_then (hK14 _ _ ?_)
    refine gc_ret ?_
    refine gk_then_ret ?_
    refine ret_SI (n := 1) rfl rfl rfl Try.underlying31 rfl (by kernel_rfl) rfl (fun w M => ?_)
    rw [quf_f hc0]; exact retFI_zero M.1
  · try simp only [decide_eq_true_eq, decide_eq_false_iff_not, Bool.not_eq_true', Bool.not_eq_false', Bool.not_eq_eq_eq_not, Bool.not_true, Bool.not_false, ne_eq, Decidable.not_not, Classical.not_not] at hc0
    refine gc_skip ?_
    refine gk_then (hK12 _ _ ?_)
    refine gc_seq fun K16 hK16 => ?_
    have hh := quf_0 hc0
    have hS := (isCat_of hh.1).toShapeP
    have hob0 := hS.ob0; have hob8 := hS.ob8; have hn40 := hS.n40
    try simp only [List.nil_append, List.cons_append, List.append_assoc, List.set_cons_succ, List.set_cons_zero]
    refine ga_start _ (fun w M => mem_erase 1 (M)) ?_
    refine ga_v 0 rfl (by kernel_rfl) (by kernel_rfl) (by kernel_rfl) (.free rfl) rfl rfl (qt_loadS (n := 0) rfl rfl Try.underlying29 rfl (by kernel_rfl) rfl) (fun _ _ _ h => h) ?_
    refine ga_v 1 rfl (by kernel_rfl) (by kernel_rfl) (by kernel_rfl) (.free rfl) rfl rfl (qt_loadS (n := 5) rfl rfl Try.underlying29 rfl (by kernel_rfl) rfl) (fun _ _ _ h => h) ?_
    refine ga_v 2 rfl (by kernel_rfl) (by kernel_rfl) (by kernel_rfl) (.free rfl) rfl rfl (qt_loadS (n := 0) rfl rfl Try.underlying29 rfl (by kernel_rfl) rfl) (fun _ _ _ h => h) ?_
    refine ga_v 5 rfl (by kernel_rfl) (by kernel_rfl) (by kernel_rfl) (.free rfl) rfl rfl (qt_move rfl rfl) (fun _ _ _ h => h) ?_
    refine ga_op 3 (by kernel_rfl) rfl (.free rfl) fun K18 hK18 => ?_
    refine go_callFn rfl rfl rfl Try.func82 rfl (by decide) rfl (fun w M => specSelf_any w _ _ (mem_rdC M h0) (hS)) ?_
    intro fx1_17 fk1_17 fx2_17 fk2_17 fx3_17 fk3_17 fx4_17 fk4_17 fx5_17 fk5_17 fx6_17 fk6_17 fx7_17 fk7_17 fx8_17 fk8_17 fx9_17 fk9_17 fx10_17 fk10_17 us17 ut17
    refine hK18 _ _ (fun w M => (mem_erase 1 (mem_take 7 M) :)) ?_
    refine ga_v 4 rfl (by kernel_rfl) (by kernel_rfl) (by kernel_rfl) (.free rfl) rfl rfl (qt_fieldA (off := 10) Try.underlying31 rfl rfl rfl (by kernel_rfl) rfl rfl Try.underlying22 rfl) (fun _ _ _ h => h) ?_
    refine ga_op 6 (by kernel_rfl) rfl (.free rfl) fun K20 hK20 => ?_
    refine go_callFn rfl rfl rfl Try.func56 rfl (by decide) rfl (fun w M => specMakeF_any w _ (c) (mem_rdC M h0) _ (_) (rdC_mk ((mem_own1 (n := 2) M rfl).rd) ((mem_own1 (n := 3) M rfl).rd) ((mem_own1 (n := 4) M rfl).rd) (mem_rdU (n := 5) M rfl)) _ _ _ _ ((mem_own1 (n := 15) M rfl).rd) (mem_rd M hu)) ?_
    intro fx1_19 fk1_19 fx2_19 fk2_19 fx3_19 fk3_19 fx4_19 fk4_19 fx5_19 fk5_19 fx6_19 fk6_19 fx7_19 fk7_19 fx8_19 fk8_19 fx9_19 fk9_19 fx10_19 fk10_19 us19 ut19
    refine hK20 _ _ (fun w M => (mem_erase 1 (mem_take 7 M) :)) ?_
    refine ga_op 7 (by kernel_rfl) rfl (.free rfl) fun K21 hK21 => ?_
    refine go_storeS (n := 1) rfl rfl rfl rfl (by kernel_rfl) rfl rfl rfl ?_
    refine hK21 _ _ (fun w M => (mem_erase 1 (mem_take 7 M) :)) ?_
    refine ga_v 8 rfl (by kernel_rfl) (by kernel_rfl) (by kernel_rfl) (.free rfl) rfl rfl (qt_assign rfl rfl) (fun _ _ _ h => h) ?_
    refine ga_done (by kernel_rfl) ?_
    refine gk_then (hK16 _ _ ?_)
    refine gc_ret ?_
    refine ret_SI (n := 1) rfl rfl rfl Try.underlying31 rfl (by kernel_rfl) rfl (fun w M => ?_)
    rw [quf_t hc0]; exact retFI_star (mem_block 17 10 (M))

set_option maxHeartbeats 1000000 in
set_option maxRecDepth 100000 in
theorem impl_QuotientFunctor (w : World) (v : Value) (c : Cat) (u : Value) (p : List Int) (h : RdC w v c) (hu : Rd w u p) :
    Calls Try.prog 40 #[v, u] w (RetFI w (fQuotientFunctor c p).1 (fQuotientFunctor c p).2) := by
  have h0 := h
  obtain ⟨va, vb, vc, vd, ve, vf, vg, vh, rfl, h1, h2, h3, h4, _⟩ := h.lists
  obtain ⟨ua, uc, rfl⟩ := rd_form hu
  go_enter Try.func40, Try.ntmps40
  refine gc_enter (N := 27) rfl (look_cons (k := 0) rfl (look_cons (k := 1) rfl (look_nil _))) ?_
  refine gc_seq fun K1 hK1 => ?_
  refine gc_region ?_
  refine g_op (.free rfl) fun K3 hK3 => ?_
  refine go_box rfl rfl rfl rfl rfl ?_
  intro B2
  refine hK3 _ _ ?_
  refine g_op (.free rfl) fun K5 hK5 => ?_
  refine go_alloc (z := (.agg #[.int .i64 0, .slice none 0 0, .slice none 0 0, .slice none 0 0, .slice none 0 0, .int .i64 0, .slice none 0 0, .slice none 0 0, .slice none 0 0, .slice none 0 0, .slice none 0 0, .slice none 0 0])) (cs := [.int .i64 0, .slice none 0 0, .slice none 0 0, .slice none 0 0, .slice none 0 0, .int .i64 0, .slice none 0 0, .slice none 0 0, .slice none 0 0, .slice none 0 0, .slice none 0 0, .slice none 0 0]) rfl rfl rfl (fun w => by kernel_rfl) rfl ?_
  intro B4
  refine hK5 _ _ ?_
  refine g_v (.free rfl) rfl rfl (qt_assign rfl rfl) ?_
  refine g_nil ?_
  refine gk_then (hK1 _ _ ?_)
  refine gc_seq fun K6 hK6 => ?_
  refine gc_region ?_
  refine g_v (.free rfl) rfl rfl (qt_loadS (n := 0) rfl rfl Try.underlying29 rfl (by kernel_rfl) rfl) ?_
  refine g_v (.free rfl) rfl rfl (qt_move rfl rfl) ?_
  refine g_op (.free rfl) fun K8 hK8 => ?_
  refine go_callCI rfl rfl rfl Try.func49 rfl (by decide) rfl (fun w M => impl_QuotientCategory w _ _ _ _ (mem_rdC M h0) (mem_rd M hu)) ?_
  intro ca7 cb7 cc7 cd7 ce7 cf7 cg7 ch7 cu7
  refine hK8 _ _ ?_
  refine g_v (.free rfl) rfl rfl (qt_move rfl rfl) ?_
  refine g_v (.free rfl) rfl rfl (qt_extract rfl rfl rfl) ?_
  refine g_v (.free rfl) rfl rfl (qt_extract rfl rfl rfl) ?_
  refine g_op (.free rfl) fun K10 hK10 => ?_
  refine go_alloc (z := (.agg #[.int .i64 0, .slice none 0 0, .slice none 0 0, .slice none 0 0, .slice none 0 0])) (cs := [.int .i64 0, .slice none 0 0, .slice none 0 0, .slice none 0 0, .slice none 0 0]) rfl rfl rfl (fun w => by kernel_rfl) rfl ?_
  intro B9
  refine hK10 _ _ ?_
  refine g_op (.free rfl) fun K11 hK11 => ?_
  refine go_storeS (n := 6) rfl rfl rfl rfl (by kernel_rfl) rfl rfl rfl ?_
  refine hK11 _ _ ?_
  refine g_v (.free rfl) rfl rfl (qt_assign rfl rfl) ?_
  refine g_nil ?_
  refine gk_then (hK6 _ _ ?_)
  refine gc_seq fun K12 hK12 => ?_
  refine gc_seq fun K13 hK13 => ?_
  refine gc_region ?_
  refine g_v (.free rfl) rfl rfl (qt_move rfl rfl) ?_
  refine g_v (.free rfl) rfl rfl (qt_neq rfl rfl rfl) ?_
  refine g_nil ?_
  refine gk_then (hK13 _ _ ?_)
  refine gc_cond rfl (fun hc0 => ?_) (fun hc0 => ?_)
  · try simp only [decide_eq_true_eq, decide_eq_false_iff_not, Bool.not_eq_true', Bool.not_eq_false', Bool.not_eq_eq_eq_not, Bool.not_true, Bool.not_false, ne_eq, Decidable.not_not, Classical.not_not] at hc0
    refine gc_seq fun K14 hK14 => ?_
    refine gc_region ?_
    refine g_v (.free rfl) rfl rfl (qt_build rfl rfl bt0_Functor) ?_
    refine g_v (.free rfl) rfl rfl (qt_move rfl rfl) ?_
    refine g_op (.free rfl) fun K15 hK15 => ?_
    refine go_storeS (n := 1) rfl rfl rfl rfl (by kernel_rfl) rfl rfl rfl ?_
    refine hK15 _ _ ?_
    refine g_v (.free rfl) rfl rfl (qt_assign rfl rfl) ?_
    refine g_nil ?_
    refine gk_then (hK14 _ _ ?_)
    refine gc_ret ?_
    refine gk_then_ret ?_
    refine ret_SI (n := 1) rfl rfl rfl Try.underlying31 rfl (by kernel_rfl) rfl (fun w M => ?_)
    rw [quf_f hc0]; exact retFI_zero M.1
  · try simp only [decide_eq_true_eq, decide_eq_false_iff_not, Bool.not_eq_true', Bool.not_eq_false', Bool.not_eq_eq_eq_not, Bool.not_true, Bool.not_false, ne_eq, Decidable.not_not, Classical.not_not] at hc0
    refine gc_skip ?_
    refine gk_then (hK12 _ _ ?_)
    refine gc_seq fun K16 hK16 => ?_
    have hh := quf_0 hc0
    have hS := (isCat_of hh.1).toShapeP
    have hob0 := hS.ob0; have hob8 := hS.ob8; have hn40 := hS.n40
    try simp only [List.nil_append, List.cons_append, List.append_assoc, List.set_cons_succ, List.set_cons_zero]
    refine ga_start _ (fun w M => mem_erase 1 (M)) ?_
    refine ga_v 0 rfl (by kernel_rfl) (by kernel_rfl) (by kernel_rfl) (.free rfl) rfl rfl (qt_loadS (n := 0) rfl rfl Try.underlying29 rfl (by kernel_rfl) rfl) (fun _ _ _ h => h) ?_
    refine ga_v 2 rfl (by kernel_rfl) (by kernel_rfl) (by kernel_rfl) (.free rfl) rfl rfl (qt_loadS (n := 5) rfl rfl Try.underlying29 rfl (by kernel_rfl) rfl) (fun _ _ _ h => h) ?_
    refine ga_v 3 rfl (by kernel_rfl) (by kernel_rfl) (by kernel_rfl) (.free rfl) rfl rfl (qt_field (z := 0) (off := 0) rfl rfl Try.underlying29 rfl (by kernel_rfl) rfl) (fun _ _ _ h => h) ?_
    refine ga_v 4 rfl (by kernel_rfl) (by kernel_rfl) (by kernel_rfl) (.free rfl) rfl rfl (qt_loadB (n := 0) rfl rfl Try.underlying2 rfl rfl rfl) (fun _ _ _ h => h) ?_
    refine ga_v 6 rfl (by kernel_rfl) (by kernel_rfl) (by kernel_rfl) (.free rfl) rfl rfl (qt_move rfl rfl) (fun _ _ _ h => h) ?_
    refine ga_op 1 (by kernel_rfl) rfl (.free rfl) fun K18 hK18 => ?_
    refine go_callC rfl rfl rfl Try.func79 rfl (by decide) rfl (fun w M => copied_any w _ _ (mem_rdC M h0)) ?_
    intro ca17 cb17 cc17 cd17 ce17 cf17 cg17 ch17 cu17
    refine hK18 _ _ (fun w M => (mem_erase 1 (mem_take 7 M) :)) ?_
    refine ga_op 5 (by kernel_rfl) rfl (.free rfl) fun K20 hK20 => ?_
    refine go_callL rfl rfl rfl Try.func83 rfl (by decide) rfl (fun w M => countL_any w _ (by first | assumption | omega) (by first | assumption | omega)) ?_
    intro va19 vc19
    refine hK20 _ _ (fun w M => (mem_erase 1 (mem_take 7 M) :)) ?_
    refine ga_op 7 (by kernel_rfl) rfl (.free rfl) fun K22 hK22 => ?_
    refine go_callL rfl rfl rfl Try.func81 rfl (by decide) rfl (fun w M => clone_any w _ _ (mem_rd M hu)) ?_
    intro va21 vc21
    refine hK22 _ _ (fun w M => (mem_erase 1 (mem_take 7 M) :)) ?_
    refine ga_v 8 rfl (by kernel_rfl) (by kernel_rfl) (by kernel_rfl) (.free rfl) rfl rfl (qt_build rfl rfl bt_Functor) (fun _ _ _ h => h) ?_
    refine ga_op 9 (by kernel_rfl) rfl (.free rfl) fun K23 hK23 => ?_
    refine go_storeS (n := 1) rfl rfl rfl rfl (by kernel_rfl) rfl rfl rfl ?_
    refine hK23 _ _ (fun w M => (mem_erase 1 (mem_take 7 M) :)) ?_
    refine ga_v 10 rfl (by kernel_rfl) (by kernel_rfl) (by kernel_rfl) (.free rfl) rfl rfl (qt_assign rfl rfl) (fun _ _ _ h => h) ?_
    refine ga_done (by kernel_rfl) ?_
    refine gk_then (hK16 _ _ ?_)
    refine gc_ret ?_
    refine ret_SI (n := 1) rfl rfl rfl Try.underlying31 rfl (by kernel_rfl) rfl (fun w M => ?_)
    rw [quf_t hc0]; exact retFI_star (F := ⟨c, (fQuotientCategory c p).1, numL c.ob.toNat, p⟩) (mem_block 9 4 (mem_block 4 4 (mem_block 11 2 (M))))

end Go.Proofs.Ytpfcfhjpgngneab
