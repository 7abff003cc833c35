
/- Essentially surjective functors: both sides. -/
import Derived.Test.YtpfcfhjpgngneaaAsk
import Derived.Test.YtpfcfhjpgngneaaFunL
import Derived.Test.YtpfcfhjpgngneaaInv
set_option linter.unusedSimpArgs false
set_option linter.unusedVariables false
set_option linter.unusedSectionVars false
namespace Go.Proofs.Ytpfcfhjpgngneaa
open Go.RowKit


section
variable {w0 : World} {is : List Itm} {ops : Array Oper} {o : Oper} {N : Nat} {e : Env} {v r : Value} {d : Nat}
theorem qt_makeFB2 {f : Fn} {x : Operand} (hop : o.op = .makeFunc f #[x] #[]) (hx : evo e x = some r) : QV w0 is o e (.func f #[r] #[]) := fun w ρ M F => by
  have hx := F _ _ hx
  simp [execOp, hop, hx, Instr.makeFunc]
theorem qt_loadRQ {x : Operand} {t tb : TypeId} {B j z : Nat} {cs : List Value} {td : TypeDesc} (hb : BxV w0 B tb (.agg cs.toArray)) (hop : o.op = .load t x) (hx : evo e x = some (.pointer (some ⟨B, j, none⟩))) (ht : Try.prog.underlying t = some td) (hd : td.isRow = true)
    (hs : (Try.prog.info? t).map (·.size) = some z) (hl : j + z ≤ cs.length) : QV w0 is o e (.agg ((cs.drop j).take z).toArray) :=
  fun w ac M F => by
    have hx := F _ _ hx
    have hbx := mem_bxR M hb
    have hc : w.rangeAt B j ((cs.drop j).take z) := fun i u hu => by
      refine bx_cell hbx (j + i) ?_
      rw [List.getElem?_take] at hu
      split at hu
      · rw [List.getElem?_drop] at hu; exact hu
      · cases hu
    have hlen : ((cs.drop j).take z).length = z := by simp; omega
    simp only [execOp, hop, hx, Sem.run_bind, run_loadAt_mid w B j t _ td hc ht hd (by rw [hs, hlen]), Result.andThen_ok]
    rfl
end
noncomputable def idxG (p : Nat → Prop) (n : Nat) : Int := match firstN p n with
  | some k => (k : Int)
  | none => -1
theorem idxG_t {p : Nat → Prop} {n k : Nat} (hk : k < n) (h : p k) (h2 : ∀ j, j < k → ¬ p j) : idxG p n = (k : Int) := by unfold idxG; rw [firstN_some hk h h2]
theorem idxG_f {p : Nat → Prop} {n : Nat} (h2 : ∀ j, j < n → ¬ p j) : idxG p n = -1 := by unfold idxG; rw [firstN_none h2]
theorem idxG_ex {p : Nat → Prop} {n : Nat} : bP (∃ i, i < n ∧ p i) = decide (0 ≤ idxG p n) := by
  rw [← bP_dec]
  refine bP_congr ⟨fun ⟨i, hi, hp⟩ => ?_, fun h => ?_⟩
  · obtain ⟨k, hk, h1, h2⟩ : ∃ k, k < n ∧ p k ∧ ∀ j, j < k → ¬ p j := ⟨leastN p, Nat.lt_of_le_of_lt (leastN_spec hp).2 hi, (leastN_spec hp).1, fun j hj hpj => absurd (leastN_spec (p := p) hpj).2 (by omega)⟩
    rw [idxG_t hk h1 h2]; omega
  · refine Classical.byContradiction fun hn => ?_
    rw [idxG_f fun j hj hp => hn ⟨j, hj, hp⟩] at h; omega
theorem nn_inv {c : Cat} {f : Int} (h : 0 ≤ findGo c f (homTo c (at0 c.t f) (at0 c.s f) c.s.length)) : hasInv c f := Classical.byContradiction fun hn => by have := inv_neg.2 hn; omega
theorem inv_nn {c : Cat} {f : Int} (h : hasInv c f) : 0 ≤ findGo c f (homTo c (at0 c.t f) (at0 c.s f) c.s.length) := by
  refine Classical.byContradiction fun hn => ?_
  have := inv_neg.1 (show findGo c f (homTo c (at0 c.t f) (at0 c.s f) c.s.length) < 0 by omega)
  exact this h
def homXY (c : Cat) (x y : Int) : List Int := homTo c x y c.s.length
def isoXY (c : Cat) (x y : Int) : Prop := ∃ i, i < (homXY c x y).length ∧ hasInv c (at0 (homXY c x y) (i : Int))
theorem homXY_len (c : Cat) (x y : Int) : (homXY c x y).length ≤ c.s.length := homTo_len c x y c.s.length
theorem homXY_at {c : Cat} {x y : Int} {k : Nat} (h : k < (homXY c x y).length) : 0 ≤ at0 (homXY c x y) (k : Int) ∧ at0 (homXY c x y) (k : Int) < c.s.length := by
  have := homTo_at (c := c) (x := x) (y := y) (n := c.s.length) (k := k) h
  exact ⟨this.1, this.2.1⟩
def surP (F : Fct) : Prop := ∀ y : Nat, (y : Int) < F.T.ob → ∃ i, i < F.o.length ∧ isoXY F.T (at0 F.o (i : Int)) (y : Int)
noncomputable def fIsEssentiallySurjective (F : Fct) : Bool × Int := (askB F (bP (surP F)), fctErr F)
theorem ex_snoc {p : Nat → Prop} {j : Nat} : (∃ i, i < j + 1 ∧ p i) ↔ (∃ i, i < j ∧ p i) ∨ p j := by
  constructor
  · rintro ⟨i, hi, hp⟩
    by_cases e : i = j
    · subst e; exact .inr hp
    · exact .inl ⟨i, by omega, hp⟩
  · rintro (⟨i, hi, hp⟩ | hp)
    · exact ⟨i, by omega, hp⟩
    · exact ⟨j, by omega, hp⟩

set_option maxHeartbeats 1000000 in
set_option maxRecDepth 100000 in
theorem idxIntsG_any (w : World) (u : Value) (xs : List Int) (fv : Value) (p : Nat → Prop) (hu : Rd w u xs) (hf : ∀ w', Below w.heap.size w w' → ∀ i : Nat, i < xs.length → CallsV fv [.int .i64 (at0 xs (i : Int))] w' (RetB w' (bP (p i)))) :
    Calls Try.prog 153 #[u, fv] w (RetI w (idxG p xs.length)) := by
  obtain ⟨ua, uc, rfl⟩ := rd_form hu
  have hul : xs.length ≤ 17592186044415 := by obtain ⟨_, _, _, hl, _⟩ := hu; exact hl
  go_enter Try.func153, Try.ntmps153
  refine gc_enter (N := 19) rfl (look_cons (k := 0) rfl (look_cons (k := 1) rfl (look_nil _))) ?_
  refine gc_seq fun K1 hK1 => ?_
  refine gc_region ?_
  refine g_v (.free rfl) rfl rfl (qt_assign rfl rfl) ?_
  refine g_nil ?_
  refine gk_then (hK1 _ _ ?_)
  refine gc_seq fun K2 hK2 => ?_
  refine gc_seq fun K3 hK3 => ?_
  refine gc_region ?_
  refine g_v (.free rfl) rfl rfl (qt_move rfl rfl) ?_
  refine g_v (.free rfl) rfl rfl (qt_len rfl rfl ulE1 (fun w M => lenV_rd hu)) ?_
  refine g_v (.free rfl) rfl rfl (qt_move rfl rfl) ?_
  refine g_nil ?_
  refine gk_then (hK3 _ _ ?_)
  refine gc_block ?_
  try simp only [List.nil_append, List.cons_append, List.append_assoc, List.set_cons_succ, List.set_cons_zero]
  refine gc_loop ([(0, _), (1, _), (7, _)] : Env) (fun s : Nat => (fun (k : Nat) => ([(8, .int .i64 (k : Int))] : Env)) s) (fun s : Nat => (fun (k : Nat) => ([] : List (Nat × Itm))) s) (fun s : Nat => (fun (k : Nat) => k ≤ xs.length ∧ ∀ j : Nat, j < k → ¬ p j) s) (fun s : Nat => (fun (k : Nat) => xs.length - k) s) (0) (sub_cons rfl (sub_cons rfl (sub_cons rfl (sub_cons rfl sub_nil)))) rfl ⟨Nat.zero_le _, fun j hj => absurd hj (by omega)⟩ ?_
  rintro k hinv KL4 hKL4
  simp only [updL, List.foldl_cons, List.foldl_nil, List.set_cons_succ, List.set_cons_zero, List.cons_append, List.nil_append] at hinv hKL4 ⊢
  obtain ⟨hk, hno⟩ := hinv
  refine gc_seq fun K5 hK5 => ?_
  refine gc_region ?_
  refine g_v (.free rfl) rfl rfl (qt_lss rfl rfl rfl) ?_
  refine g_nil ?_
  refine gk_then (hK5 _ _ ?_)
  refine gc_seq fun K6 hK6 => ?_
  refine gc_cond rfl (fun hc0 => ?_) (fun hc0 => ?_)
  · try simp only [decide_eq_true_eq, decide_eq_false_iff_not, Bool.not_eq_true', Bool.not_eq_false', Bool.not_eq_eq_eq_not, Bool.not_true, Bool.not_false, ne_eq, Decidable.not_not, Classical.not_not] at hc0
    refine gc_skip ?_
    refine gk_then (hK6 _ _ ?_)
    refine gc_seq fun K7 hK7 => ?_
    refine gc_block ?_
    refine gc_seq fun K8 hK8 => ?_
    refine gc_region ?_
    refine g_v (.free rfl) rfl rfl (qt_move rfl rfl) ?_
    refine g_v (.free rfl) rfl rfl (qt_assign rfl rfl) ?_
    refine g_nil ?_
    refine gk_then (hK8 _ _ ?_)
    refine gc_seq fun K9 hK9 => ?_
    refine gc_region ?_
    refine g_v (.free rfl) rfl rfl (qt_move rfl rfl) ?_
    refine g_v (.free rfl) rfl rfl (qt_move rfl rfl) ?_
    refine g_v (.free rfl) rfl rfl (qt_move rfl rfl) ?_
    refine g_v (.free rfl) rfl rfl (qt_index rfl rfl rfl ulE1 szE1 (fun w M => lenA_rd hu) (by omega) (by omega)) ?_
    refine g_v (.free rfl) rfl rfl (qt_load1 rfl rfl Try.underlying2 rfl (fun w M => mem_rd M hu) (by omega) (by omega)) ?_
    refine g_q (.free rfl) rfl rfl (qt_callV rfl rfl rfl (fun w M => hf w M.1 k (by omega))) ?_
    refine g_nil ?_
    refine gk_then (hK9 _ _ ?_)
    refine gc_cond rfl (fun hc1 => ?_) (fun hc1 => ?_)
    · try simp only [decide_eq_true_eq, decide_eq_false_iff_not, Bool.not_eq_true', Bool.not_eq_false', Bool.not_eq_eq_eq_not, Bool.not_true, Bool.not_false, ne_eq, Decidable.not_not, Classical.not_not] at hc1
      refine gc_seq fun K10 hK10 => ?_
      refine gc_region ?_
      refine g_v (.free rfl) rfl rfl (qt_move rfl rfl) ?_
      refine g_v (.free rfl) rfl rfl (qt_assign rfl rfl) ?_
      refine g_nil ?_
      refine gk_then (hK10 _ _ ?_)
      refine gc_ret ?_
      refine gk_block_ret ?_
      refine gk_then_ret ?_
      refine gk_then_ret ?_
      refine gk_block_ret ?_
      refine gk_then_ret ?_
      refine ret_1 rfl rfl  (fun w M => ?_)
      rw [idxG_t (by omega) (bP_t' hc1) hno]; exact ⟨rfl, M.1⟩
    · try simp only [decide_eq_true_eq, decide_eq_false_iff_not, Bool.not_eq_true', Bool.not_eq_false', Bool.not_eq_eq_eq_not, Bool.not_true, Bool.not_false, ne_eq, Decidable.not_not, Classical.not_not] at hc1
      refine gc_skip ?_
      refine gk_block ?_
      refine gk_then (hK7 _ _ ?_)
      refine gc_region ?_
      refine g_v (.free rfl) rfl rfl (qt_add rfl rfl rfl (by omega)) ?_
      refine g_v (.free rfl) rfl rfl (qt_move rfl rfl) ?_
      refine g_nil ?_
      refine gk_then (gk_take 0 ?_)
      refine gk_sub ?hs_11 (hKL4 (k + 1) ?hi_11 ?hm_11)
      case hs_11 => exact (sub_cons rfl (sub_cons rfl (sub_cons rfl (sub_cons rfl sub_nil))))
      case hi_11 => exact ⟨by omega, all_next hno (bP_f' hc1)⟩
      case hm_11 => omega
  · try simp only [decide_eq_true_eq, decide_eq_false_iff_not, Bool.not_eq_true', Bool.not_eq_false', Bool.not_eq_eq_eq_not, Bool.not_true, Bool.not_false, ne_eq, Decidable.not_not, Classical.not_not] at hc0
    refine gc_exit ?_
    refine gk_then_exit ?_
    refine gk_then_exit ?_
    refine gk_block_hit ?_
    refine gk_then (hK2 _ _ ?_)
    refine gc_seq fun K12 hK12 => ?_
    refine gc_region ?_
    refine g_v (.free rfl) rfl rfl (qt_assign rfl rfl) ?_
    refine g_nil ?_
    refine gk_then (hK12 _ _ ?_)
    refine gc_ret ?_
    refine ret_1 rfl rfl  (fun w M => ?_)
    rw [idxG_f fun j hj => hno j (by omega)]; exact ⟨rfl, M.1⟩

set_option maxHeartbeats 1000000 in
set_option maxRecDepth 100000 in
theorem conIntsG_any (w : World) (u : Value) (xs : List Int) (fv : Value) (p : Nat → Prop) (hu : Rd w u xs) (hf : ∀ w', Below w.heap.size w w' → ∀ i : Nat, i < xs.length → CallsV fv [.int .i64 (at0 xs (i : Int))] w' (RetB w' (bP (p i)))) :
    Calls Try.prog 127 #[u, fv] w (RetB w (bP (∃ i, i < xs.length ∧ p i))) := by
  obtain ⟨ua, uc, rfl⟩ := rd_form hu
  go_enter Try.func127, Try.ntmps127
  refine gc_enter (N := 9) rfl (look_cons (k := 0) rfl (look_cons (k := 1) rfl (look_nil _))) ?_
  refine gc_seq fun K1 hK1 => ?_
  refine gc_region ?_
  refine g_v (.free rfl) rfl rfl (qt_assign rfl rfl) ?_
  refine g_nil ?_
  refine gk_then (hK1 _ _ ?_)
  refine gc_seq fun K2 hK2 => ?_
  refine gc_region ?_
  refine g_v (.free rfl) rfl rfl (qt_move rfl rfl) ?_
  refine g_v (.free rfl) rfl rfl (qt_move rfl rfl) ?_
  refine g_q (.free rfl) rfl rfl (qt_call rfl Try.func153 rfl (by decide) rfl (fun w M => idxIntsG_any w _ (xs) _ (p) (mem_rd M hu) (fun w' hb i hi => hf w' (M.1.trans (hb.mono M.1.size)) i hi))) ?_
  refine g_v (.free rfl) rfl rfl (qt_geq rfl rfl rfl) ?_
  refine g_v (.free rfl) rfl rfl (qt_assign rfl rfl) ?_
  refine g_nil ?_
  refine gk_then (hK2 _ _ ?_)
  refine gc_ret ?_
  refine ret_1 rfl rfl  (fun w M => ?_)
  rw [idxG_ex]; exact ⟨rfl, M.1⟩

set_option maxHeartbeats 1000000 in
set_option maxRecDepth 100000 in
theorem areIso_any (w : World) (v : Value) (c : Cat) (x y : Int) (h : RdC w v c) (hS : ShapeP c) :
    Calls Try.prog 126 #[v, .int .i64 x, .int .i64 y] w (RetB w (bP (isoXY c x y))) := by
  have h0 := h
  obtain ⟨va, vb, vc, vd, ve, vf, vg, vh, rfl, h1, h2, h3, h4, _⟩ := h.lists
  have hhl := homXY_len c x y
  go_enter Try.func126, Try.ntmps126
  refine gc_enter (N := 15) rfl (look_cons (k := 0) rfl (look_cons (k := 1) rfl (look_cons (k := 2) rfl (look_nil _)))) ?_
  refine gc_seq fun K1 hK1 => ?_
  refine gc_region ?_
  refine g_op (.free rfl) fun K3 hK3 => ?_
  refine go_box rfl rfl rfl rfl rfl ?_
  intro B2
  refine hK3 _ _ ?_
  refine g_v (.free rfl) rfl rfl (qt_assign rfl rfl) ?_
  refine g_nil ?_
  refine gk_then (hK1 _ _ ?_)
  refine gc_seq fun K4 hK4 => ?_
  try simp only [List.nil_append, List.cons_append, List.append_assoc, List.set_cons_succ, List.set_cons_zero]
  refine ga_start _ (fun w M => M) ?_
  refine ga_v 0 rfl (by kernel_rfl) (by kernel_rfl) (by kernel_rfl) (.free rfl) rfl rfl (qt_loadS (n := 0) rfl rfl Try.underlying30 rfl (by kernel_rfl) rfl) (fun _ _ _ h => h) ?_
  refine ga_v 1 rfl (by kernel_rfl) (by kernel_rfl) (by kernel_rfl) (.free rfl) rfl rfl (qt_move rfl rfl) (fun _ _ _ h => h) ?_
  refine ga_v 2 rfl (by kernel_rfl) (by kernel_rfl) (by kernel_rfl) (.free rfl) rfl rfl (qt_move rfl rfl) (fun _ _ _ h => h) ?_
  refine ga_v 3 rfl (by kernel_rfl) (by kernel_rfl) (by kernel_rfl) (.free rfl) rfl rfl (qt_build rfl rfl bt_arrowEnds) (fun _ _ _ h => h) ?_
  refine ga_v 5 rfl (by kernel_rfl) (by kernel_rfl) (by kernel_rfl) (.free rfl) rfl rfl (qt_loadS (n := 0) rfl rfl Try.underlying30 rfl (by kernel_rfl) rfl) (fun _ _ _ h => h) ?_
  refine ga_two 4 6 (by kernel_rfl) rfl rfl (.free rfl) (.free rfl) (fun K5 hK5 => ?_) (fun K5 hK5 => ?_)
  · refine go_callL rfl rfl rfl Try.func122 rfl (by decide) rfl (fun w M => arrowsBetween_any w _ _ _ _ (mem_rdC M h0) (by first | assumption | omega)) ?_
    intro va6 vc6
    refine hK5 _ _ (fun w M => (mem_take 1 M :)) ?_
    refine ga_op 6 (by kernel_rfl) rfl (.free rfl) fun K8 hK8 => ?_
    refine go_v rfl rfl (qt_makeFB2 rfl rfl) ?_
    refine hK8 _ _ (fun w M => (mem_take 1 M :)) ?_
    refine ga_op 7 (by kernel_rfl) rfl (.free rfl) fun K9 hK9 => ?_
    refine go_q rfl rfl (qt_call rfl Try.func127 rfl (by decide) rfl (fun w M => conIntsG_any w _ (homXY c x y) (_) (fun i => hasInv c (at0 (homXY c x y) (i : Int))) ((mem_own1 (n := 1) M rfl).rd) (fun w' hb i hi => callsV_f (bnd := [_]) (vs := [_]) (caps := []) Try.func152 rfl (by decide) (isInvertible_any w' _ c _ (rdC_below hb (mem_rdC M h0)) hS (homXY_at hi).1 (homXY_at hi).2)))) ?_
    refine hK9 _ _ (fun w M => (mem_take 1 M :)) ?_
    refine ga_v 8 rfl (by kernel_rfl) (by kernel_rfl) (by kernel_rfl) (.free rfl) rfl rfl (qt_assign rfl rfl) (fun _ _ _ h => h) ?_
    refine ga_done (by kernel_rfl) ?_
    refine gk_then (hK4 _ _ ?_)
    refine gc_ret ?_
    refine ret_1 rfl rfl  (fun w M => ?_)
    exact ⟨rfl, M.1⟩
  · refine go_v rfl rfl (qt_makeFB2 rfl rfl) ?_
    refine hK5 _ _ (fun w M => (mem_take 1 M :)) ?_
    refine ga_op 4 (by kernel_rfl) rfl (.free rfl) fun K12 hK12 => ?_
    refine go_callL rfl rfl rfl Try.func122 rfl (by decide) rfl (fun w M => arrowsBetween_any w _ _ _ _ (mem_rdC M h0) (by first | assumption | omega)) ?_
    intro va11 vc11
    refine hK12 _ _ (fun w M => (mem_take 1 M :)) ?_
    refine ga_op 7 (by kernel_rfl) rfl (.free rfl) fun K13 hK13 => ?_
    refine go_q rfl rfl (qt_call rfl Try.func127 rfl (by decide) rfl (fun w M => conIntsG_any w _ (homXY c x y) (_) (fun i => hasInv c (at0 (homXY c x y) (i : Int))) ((mem_own1 (n := 1) M rfl).rd) (fun w' hb i hi => callsV_f (bnd := [_]) (vs := [_]) (caps := []) Try.func152 rfl (by decide) (isInvertible_any w' _ c _ (rdC_below hb (mem_rdC M h0)) hS (homXY_at hi).1 (homXY_at hi).2)))) ?_
    refine hK13 _ _ (fun w M => (mem_take 1 M :)) ?_
    refine ga_v 8 rfl (by kernel_rfl) (by kernel_rfl) (by kernel_rfl) (.free rfl) rfl rfl (qt_assign rfl rfl) (fun _ _ _ h => h) ?_
    refine ga_done (by kernel_rfl) ?_
    refine gk_then (hK4 _ _ ?_)
    refine gc_ret ?_
    refine ret_1 rfl rfl  (fun w M => ?_)
    exact ⟨rfl, M.1⟩

set_option maxHeartbeats 1000000 in
set_option maxRecDepth 100000 in
theorem specAlike_any (w : World) (v : Value) (c : Cat) (x y : Int) (h : RdC w v c) (hS : ShapeP c) :
    Calls Try.prog 124 #[v, .int .i64 x, .int .i64 y] w (RetB w (bP (isoXY c x y))) := by
  have h0 := h
  obtain ⟨va, vb, vc, vd, ve, vf, vg, vh, rfl, h1, h2, h3, h4, _⟩ := h.lists
  have hl : (homXY c x y).length ≤ c.s.length := homXY_len c x y
  have hn40 := hS.n40
  go_enter Try.func124, Try.ntmps124
  refine gc_enter (N := 26) rfl (look_cons (k := 0) rfl (look_cons (k := 1) rfl (look_cons (k := 2) rfl (look_nil _)))) ?_
  refine gc_seq fun K1 hK1 => ?_
  refine gc_region ?_
  refine g_op (.free rfl) fun K3 hK3 => ?_
  refine go_box rfl rfl rfl rfl rfl ?_
  intro B2
  refine hK3 _ _ ?_
  refine g_v (.free rfl) rfl rfl (qt_assign rfl rfl) ?_
  refine g_nil ?_
  refine gk_then (hK1 _ _ ?_)
  refine gc_seq fun K4 hK4 => ?_
  refine gc_region ?_
  refine g_v (.free rfl) rfl rfl (qt_loadS (n := 0) rfl rfl Try.underlying30 rfl (by kernel_rfl) rfl) ?_
  refine g_v (.free rfl) rfl rfl (qt_move rfl rfl) ?_
  refine g_v (.free rfl) rfl rfl (qt_move rfl rfl) ?_
  refine g_op (.free rfl) fun K6 hK6 => ?_
  refine go_callL rfl rfl rfl Try.func119 rfl (by decide) rfl (fun w M => specHom_any w _ _ _ _ (mem_rdC M h0) (by first | assumption | omega)) ?_
  intro va5 vc5
  refine hK6 _ _ ?_
  refine g_v (.free rfl) rfl rfl (qt_assign rfl rfl) ?_
  refine g_nil ?_
  refine gk_then (hK4 _ _ ?_)
  refine gc_seq fun K7 hK7 => ?_
  refine gc_seq fun K8 hK8 => ?_
  refine gc_region ?_
  refine g_v (.free rfl) rfl rfl (qt_assign rfl rfl) ?_
  refine g_nil ?_
  refine gk_then (hK8 _ _ ?_)
  refine gc_block ?_
  simp only [show homTo c x y c.s.length = homXY c x y from rfl]
  try simp only [List.nil_append, List.cons_append, List.append_assoc, List.set_cons_succ, List.set_cons_zero]
  refine gc_loop ([(0, _), (1, _), (2, _), (3, _), (7, _)] : Env) (fun s : Nat => (fun (k : Nat) => ([(8, .int .i64 (k : Int))] : Env)) s) (fun s : Nat => (fun (k : Nat) => ([] : List (Nat × Itm))) s) (fun s : Nat => (fun (k : Nat) => k ≤ (homXY c x y).length ∧ ∀ j : Nat, j < k → ¬ hasInv c (at0 (homXY c x y) (j : Int))) s) (fun s : Nat => (fun (k : Nat) => (homXY c x y).length - k) s) (0) (sub_cons rfl (sub_cons rfl (sub_cons rfl (sub_cons rfl (sub_cons rfl (sub_cons rfl sub_nil)))))) rfl ⟨Nat.zero_le _, fun j hj => absurd hj (by omega)⟩ ?_
  rintro k hinv KL9 hKL9
  simp only [updL, List.foldl_cons, List.foldl_nil, List.set_cons_succ, List.set_cons_zero, List.cons_append, List.nil_append] at hinv hKL9 ⊢
  obtain ⟨hk, hno⟩ := hinv
  refine gc_seq fun K10 hK10 => ?_
  refine gc_seq fun K11 hK11 => ?_
  refine gc_region ?_
  refine g_v (.free rfl) rfl rfl (qt_move rfl rfl) ?_
  refine g_v (.free rfl) rfl rfl (qt_move rfl rfl) ?_
  refine g_v (.free rfl) rfl rfl (qt_len rfl rfl ulE1 (fun w M => lenV_own1 (n := 1) rfl M)) ?_
  refine g_v (.free rfl) rfl rfl (qt_lss rfl rfl rfl) ?_
  refine g_nil ?_
  refine gk_then (hK11 _ _ ?_)
  refine gc_cond rfl (fun hc0 => ?_) (fun hc0 => ?_)
  · try simp only [decide_eq_true_eq, decide_eq_false_iff_not, Bool.not_eq_true', Bool.not_eq_false', Bool.not_eq_eq_eq_not, Bool.not_true, Bool.not_false, ne_eq, Decidable.not_not, Classical.not_not] at hc0
    refine gc_skip ?_
    refine gk_then (hK10 _ _ ?_)
    refine gc_seq fun K12 hK12 => ?_
    refine gc_block ?_
    refine gc_seq fun K13 hK13 => ?_
    have hg := homXY_at (c := c) (x := x) (y := y) (k := k) (by omega)
    have g0 := hg.1; have g1 := hg.2
    refine gc_draw (by kernel_rfl) ?_
    refine gd_v (.free rfl) rfl rfl (qt_loadS (n := 0) rfl rfl Try.underlying30 rfl (by kernel_rfl) rfl) ?_
    refine gd_v (.free rfl) rfl rfl (qt_move rfl rfl) ?_
    refine gd_v (.free rfl) rfl rfl (qt_move rfl rfl) ?_
    refine gd_v (.free rfl) rfl rfl (qt_index rfl rfl rfl ulE1 szE1 (fun w M => lenA_own1 (n := 1) rfl M) (by omega) (by omega)) ?_
    refine gd_v (.free rfl) rfl rfl (qt_load1 rfl rfl Try.underlying2 rfl (fun w M => (mem_own1 (n := 1) M rfl).rd) (by omega) (by omega)) ?_
    refine gd_q (.free rfl) rfl rfl (qt_call rfl Try.func151 rfl (by decide) rfl (fun w M => specInverse_any w _ _ _ (mem_rdC M h0) (by first | assumption | omega) (by first | assumption | omega) (by first | assumption | omega))) ?_
    refine gd_v (.free rfl) rfl rfl (qt_geq rfl rfl rfl) ?_
    refine gd_nil ?_
    refine gk_then (hK13 _ _ ?_)
    refine gc_cond rfl (fun hc1 => ?_) (fun hc1 => ?_)
    · try simp only [decide_eq_true_eq, decide_eq_false_iff_not, Bool.not_eq_true', Bool.not_eq_false', Bool.not_eq_eq_eq_not, Bool.not_true, Bool.not_false, ne_eq, Decidable.not_not, Classical.not_not] at hc1
      refine gc_seq fun K14 hK14 => ?_
      refine gc_region ?_
      refine g_v (.free rfl) rfl rfl (qt_assign rfl rfl) ?_
      refine g_nil ?_
      refine gk_then (hK14 _ _ ?_)
      refine gc_ret ?_
      refine gk_block_ret ?_
      refine gk_then_ret ?_
      refine gk_then_ret ?_
      refine gk_block_ret ?_
      refine gk_then_ret ?_
      refine ret_1 rfl rfl  (fun w M => ?_)
      rw [bP_t ⟨k, by omega, nn_inv hc1⟩]; exact ⟨rfl, M.1⟩
    · try simp only [decide_eq_true_eq, decide_eq_false_iff_not, Bool.not_eq_true', Bool.not_eq_false', Bool.not_eq_eq_eq_not, Bool.not_true, Bool.not_false, ne_eq, Decidable.not_not, Classical.not_not] at hc1
      refine gc_skip ?_
      refine gk_block ?_
      refine gk_then (hK12 _ _ ?_)
      refine gc_region ?_
      refine g_v (.free rfl) rfl rfl (qt_move rfl rfl) ?_
      refine g_v (.free rfl) rfl rfl (qt_add rfl rfl rfl (by omega)) ?_
      refine g_v (.free rfl) rfl rfl (qt_assign rfl rfl) ?_
      refine g_nil ?_
      refine gk_then (gk_take 2 ?_)
      refine gk_sub ?hs_15 (hKL9 (k + 1) ?hi_15 ?hm_15)
      case hs_15 => exact (sub_cons rfl (sub_cons rfl (sub_cons rfl (sub_cons rfl (sub_cons rfl (sub_cons rfl sub_nil))))))
      case hi_15 => exact ⟨by omega, all_next hno (fun hh => absurd (inv_nn hh) (by omega))⟩
      case hm_15 => omega
  · try simp only [decide_eq_true_eq, decide_eq_false_iff_not, Bool.not_eq_true', Bool.not_eq_false', Bool.not_eq_eq_eq_not, Bool.not_true, Bool.not_false, ne_eq, Decidable.not_not, Classical.not_not] at hc0
    refine gc_exit ?_
    refine gk_then_exit ?_
    refine gk_then_exit ?_
    refine gk_block_hit ?_
    refine gk_then (hK7 _ _ ?_)
    refine gc_seq fun K16 hK16 => ?_
    refine gc_region ?_
    refine g_v (.free rfl) rfl rfl (qt_assign rfl rfl) ?_
    refine g_nil ?_
    refine gk_then (hK16 _ _ ?_)
    refine gc_ret ?_
    refine ret_1 rfl rfl  (fun w M => ?_)
    rw [bP_f fun ⟨i, hi, hh⟩ => hno i (by omega) hh]; exact ⟨rfl, M.1⟩

set_option maxHeartbeats 1000000 in
set_option maxRecDepth 100000 in
theorem near_any (w : World) (x : Int) (B D : Nat) (v : Value) (F : Fct) (y : Int) (h : RdF w v F) (hbB : BxV w B 32 v) (hbD : BxV w D 2 (.agg [Value.int .i64 y].toArray)) (hT : ShapeP F.T) :
    Calls Try.prog 125 #[.int .i64 x, .pointer (some ⟨B, 0, none⟩), .pointer (some ⟨D, 0, none⟩)] w (RetB w (bP (isoXY F.T x y))) := by
  obtain ⟨vx1, vx2, vx3, vx4, vx5, vx6, vx7, vx8, vx9, vx10, vk1, vk2, vk3, vk4, vk5, vk6, vk7, vk8, vk9, vk10, rfl, h1, h2, h3, h4, h5, h6, h7, h8, h9, h10⟩ := h.lists
  go_enter Try.func125, Try.ntmps125
  refine gc_enter (N := 10) rfl (look_cons (k := 0) rfl (look_cons (k := 1) rfl (look_cons (k := 2) rfl (look_nil _)))) ?_
  refine gc_seq fun K1 hK1 => ?_
  refine gc_region ?_
  refine g_v (.free rfl) rfl rfl (qt_assign rfl rfl) ?_
  refine g_nil ?_
  refine gk_then (hK1 _ _ ?_)
  refine gc_seq fun K2 hK2 => ?_
  refine gc_region ?_
  refine g_v (.free rfl) rfl rfl (qt_field (z := 4) (off := 5) rfl rfl Try.underlying32 rfl (by kernel_rfl) rfl) ?_
  refine g_v (.free rfl) rfl rfl (qt_loadRQ hbB (z := 5) rfl rfl Try.underlying30 rfl (by kernel_rfl) (by simp)) ?_
  refine g_v (.free rfl) rfl rfl (qt_move rfl rfl) ?_
  refine g_v (.free rfl) rfl rfl (qt_loadRB hbD rfl rfl Try.underlying2 rfl rfl) ?_
  refine g_q (.free rfl) rfl rfl (qt_call rfl Try.func126 rfl (by decide) rfl (fun w M => areIso_any w _ (F.T) _ _ (rdC_mk (mem_rd M h5) (mem_rd M h6) (mem_rd M h7) (mem_rd2 M h8)) (by first | assumption | omega))) ?_
  refine g_v (.free rfl) rfl rfl (qt_assign rfl rfl) ?_
  refine g_nil ?_
  refine gk_then (hK2 _ _ ?_)
  refine gc_ret ?_
  refine ret_1 rfl rfl  (fun w M => ?_)
  exact ⟨rfl, M.1⟩

set_option maxHeartbeats 1000000 in
set_option maxRecDepth 100000 in
theorem isSurF_any (w : World) (v : Value) (F : Fct) (h : RdF w v F) (hI : fIsFunctor F = true) :
    Calls Try.prog 85 #[v] w (RetB w (bP (surP F))) := by
  have h0 := h
  obtain ⟨vx1, vx2, vx3, vx4, vx5, vx6, vx7, vx8, vx9, vx10, vk1, vk2, vk3, vk4, vk5, vk6, vk7, vk8, vk9, vk10, rfl, h1, h2, h3, h4, h5, h6, h7, h8, h9, h10⟩ := h.lists
  have hF := isf_of hI
  have hT := (isCat_of hF.ct).toShapeP
  have hob0 := hT.ob0; have hob8 := hT.ob8
  have hlo := hF.lo; have hs8 := (isCat_of hF.cs).toShapeP.ob8
  go_enter Try.func85, Try.ntmps85
  refine gc_enter (N := 18) rfl (look_cons (k := 0) rfl (look_nil _)) ?_
  refine gc_seq fun K1 hK1 => ?_
  refine gc_region ?_
  refine g_op (.free rfl) fun K3 hK3 => ?_
  refine go_box rfl rfl rfl rfl rfl ?_
  intro B2
  refine hK3 _ _ ?_
  refine g_v (.free rfl) rfl rfl (qt_assign rfl rfl) ?_
  refine g_nil ?_
  refine gk_then (hK1 _ _ ?_)
  refine gc_seq fun K4 hK4 => ?_
  refine gc_seq fun K5 hK5 => ?_
  refine gc_region ?_
  refine g_v (.free rfl) rfl rfl (qt_field (z := 4) (off := 5) rfl rfl Try.underlying32 rfl (by kernel_rfl) rfl) ?_
  refine g_v (.free rfl) rfl rfl (qt_field (z := 0) (off := 0) rfl rfl Try.underlying30 rfl (by kernel_rfl) rfl) ?_
  refine g_v (.free rfl) rfl rfl (qt_loadB (n := 0) rfl rfl Try.underlying2 rfl rfl rfl) ?_
  refine g_v (.free rfl) rfl rfl (qt_move rfl rfl) ?_
  refine g_nil ?_
  refine gk_then (hK5 _ _ ?_)
  refine gc_block ?_
  try simp only [List.nil_append, List.cons_append, List.append_assoc, List.set_cons_succ, List.set_cons_zero]
  refine gc_loop ([(0, _), (1, _), (7, _)] : Env) (fun s : Nat => (fun (k : Nat) => ([(8, .int .i64 (k : Int))] : Env)) s) (fun s : Nat => (fun (k : Nat) => ([] : List (Nat × Itm))) s) (fun s : Nat => (fun (k : Nat) => (k : Int) ≤ F.T.ob ∧ ∀ j : Nat, j < k → (fun y : Nat => ∃ i, i < F.o.length ∧ isoXY F.T (at0 F.o (i : Int)) (y : Int)) j) s) (fun s : Nat => (fun (k : Nat) => (F.T.ob - (k : Int)).toNat) s) (0) (sub_cons rfl (sub_cons rfl (sub_cons rfl (sub_cons rfl sub_nil)))) rfl ⟨by omega, fun j hj => absurd hj (by omega)⟩ ?_
  rintro k hinv KL6 hKL6
  simp only [updL, List.foldl_cons, List.foldl_nil, List.set_cons_succ, List.set_cons_zero, List.cons_append, List.nil_append] at hinv hKL6 ⊢
  obtain ⟨hk, hj⟩ := hinv
  refine gc_seq fun K7 hK7 => ?_
  refine gc_region ?_
  refine g_v (.free rfl) rfl rfl (qt_lss rfl rfl rfl) ?_
  refine g_nil ?_
  refine gk_then (hK7 _ _ ?_)
  refine gc_seq fun K8 hK8 => ?_
  refine gc_cond rfl (fun hc0 => ?_) (fun hc0 => ?_)
  · try simp only [decide_eq_true_eq, decide_eq_false_iff_not, Bool.not_eq_true', Bool.not_eq_false', Bool.not_eq_eq_eq_not, Bool.not_true, Bool.not_false, ne_eq, Decidable.not_not, Classical.not_not] at hc0
    refine gc_skip ?_
    refine gk_then (hK8 _ _ ?_)
    refine gc_seq fun K9 hK9 => ?_
    refine gc_block ?_
    refine gc_seq fun K10 hK10 => ?_
    refine gc_region ?_
    refine g_v (.free rfl) rfl rfl (qt_move rfl rfl) ?_
    refine g_op (.free rfl) fun K12 hK12 => ?_
    refine go_alloc (z := (.int .i64 0)) (cs := [.int .i64 0]) rfl rfl rfl (fun w => by kernel_rfl) rfl ?_
    intro B11
    refine hK12 _ _ ?_
    refine g_op (.free rfl) fun K13 hK13 => ?_
    refine go_storeB (n := 1) rfl rfl rfl rfl (by kernel_rfl) rfl rfl rfl (by first | decide | simp) ?_
    refine hK13 _ _ ?_
    refine g_nil ?_
    refine gk_then (hK10 _ _ ?_)
    refine gc_seq fun K14 hK14 => ?_
    refine gc_region ?_
    refine g_v (.free rfl) rfl rfl (qt_makeF rfl rfl) ?_
    refine g_v (.free rfl) rfl rfl (qt_assign rfl rfl) ?_
    refine g_nil ?_
    refine gk_then (hK14 _ _ ?_)
    refine gc_seq fun K15 hK15 => ?_
    refine gc_region ?_
    refine g_v (.free rfl) rfl rfl (qt_field (z := 0) (off := 10) rfl rfl Try.underlying32 rfl (by kernel_rfl) rfl) ?_
    refine g_v (.free rfl) rfl rfl (qt_loadB (n := 0) rfl rfl Try.underlying22 rfl rfl rfl) ?_
    refine g_v (.free rfl) rfl rfl (qt_move rfl rfl) ?_
    refine g_q (.free rfl) rfl rfl (qt_call rfl Try.func127 rfl (by decide) rfl (fun w M => conIntsG_any w _ (F.o) (_) (fun i => isoXY F.T (at0 F.o (i : Int)) (k : Int)) (mem_rd M h9) (fun w' hb i hi => callsV_f (bnd := []) (vs := [_]) (caps := [_, _]) Try.func125 rfl (by decide) (near_any w' _ _ _ _ F _ (rdF_below hb (mem_rdF M h0)) (bxV_below hb (bxV_of (n := 0) M rfl)) (bxV_below hb (bxV_of (n := 1) M rfl)) hT)))) ?_
    refine g_v (.free rfl) rfl rfl (qt_not rfl rfl) ?_
    refine g_nil ?_
    refine gk_then (hK15 _ _ ?_)
    refine gc_cond rfl (fun hc1 => ?_) (fun hc1 => ?_)
    · try simp only [decide_eq_true_eq, decide_eq_false_iff_not, Bool.not_eq_true', Bool.not_eq_false', Bool.not_eq_eq_eq_not, Bool.not_true, Bool.not_false, ne_eq, Decidable.not_not, Classical.not_not] at hc1
      refine gc_seq fun K16 hK16 => ?_
      refine gc_region ?_
      refine g_v (.free rfl) rfl rfl (qt_assign rfl rfl) ?_
      refine g_nil ?_
      refine gk_then (hK16 _ _ ?_)
      refine gc_ret ?_
      refine gk_block_ret ?_
      refine gk_then_ret ?_
      refine gk_then_ret ?_
      refine gk_block_ret ?_
      refine gk_then_ret ?_
      refine ret_1 rfl rfl  (fun w M => ?_)
      rw [bP_f fun hq => bP_f' hc1 (hq k (by omega))]; exact ⟨rfl, M.1⟩
    · try simp only [decide_eq_true_eq, decide_eq_false_iff_not, Bool.not_eq_true', Bool.not_eq_false', Bool.not_eq_eq_eq_not, Bool.not_true, Bool.not_false, ne_eq, Decidable.not_not, Classical.not_not] at hc1
      refine gc_skip ?_
      refine gk_block ?_
      refine gk_then (hK9 _ _ ?_)
      refine gc_region ?_
      refine g_v (.free rfl) rfl rfl (qt_add rfl rfl rfl (by omega)) ?_
      refine g_v (.free rfl) rfl rfl (qt_move rfl rfl) ?_
      refine g_nil ?_
      refine gk_then (gk_take 1 ?_)
      refine gk_sub ?hs_17 (hKL6 (k + 1) ?hi_17 ?hm_17)
      case hs_17 => exact (sub_cons rfl (sub_cons rfl (sub_cons rfl (sub_cons rfl sub_nil))))
      case hi_17 => exact ⟨by omega, all_next0 hj (bP_t' hc1)⟩
      case hm_17 => omega
  · try simp only [decide_eq_true_eq, decide_eq_false_iff_not, Bool.not_eq_true', Bool.not_eq_false', Bool.not_eq_eq_eq_not, Bool.not_true, Bool.not_false, ne_eq, Decidable.not_not, Classical.not_not] at hc0
    refine gc_exit ?_
    refine gk_then_exit ?_
    refine gk_then_exit ?_
    refine gk_block_hit ?_
    refine gk_then (hK4 _ _ ?_)
    refine gc_seq fun K18 hK18 => ?_
    refine gc_region ?_
    refine g_v (.free rfl) rfl rfl (qt_assign rfl rfl) ?_
    refine g_nil ?_
    refine gk_then (hK18 _ _ ?_)
    refine gc_ret ?_
    refine ret_1 rfl rfl  (fun w M => ?_)
    rw [bP_t (p := surP F) fun y hy => hj y (by omega)]; exact ⟨rfl, M.1⟩

set_option maxHeartbeats 1000000 in
set_option maxRecDepth 100000 in
theorem specSurF_any (w : World) (v : Value) (F : Fct) (h : RdF w v F) (hI : fIsFunctor F = true) :
    Calls Try.prog 84 #[v] w (RetB w (bP (surP F))) := by
  have h0 := h
  obtain ⟨vx1, vx2, vx3, vx4, vx5, vx6, vx7, vx8, vx9, vx10, vk1, vk2, vk3, vk4, vk5, vk6, vk7, vk8, vk9, vk10, rfl, h1, h2, h3, h4, h5, h6, h7, h8, h9, h10⟩ := h.lists
  have hF := isf_of hI
  have hT := (isCat_of hF.ct).toShapeP
  have hob0 := hT.ob0; have hob8 := hT.ob8
  have hlo := hF.lo; have hs8 := (isCat_of hF.cs).toShapeP.ob8
  go_enter Try.func84, Try.ntmps84
  refine gc_enter (N := 34) rfl (look_cons (k := 0) rfl (look_nil _)) ?_
  refine gc_seq fun K1 hK1 => ?_
  refine gc_region ?_
  refine g_op (.free rfl) fun K3 hK3 => ?_
  refine go_box rfl rfl rfl rfl rfl ?_
  intro B2
  refine hK3 _ _ ?_
  refine g_v (.free rfl) rfl rfl (qt_assign rfl rfl) ?_
  refine g_nil ?_
  refine gk_then (hK1 _ _ ?_)
  refine gc_seq fun K4 hK4 => ?_
  refine gc_seq fun K5 hK5 => ?_
  refine gc_region ?_
  refine g_v (.free rfl) rfl rfl (qt_assign rfl rfl) ?_
  refine g_nil ?_
  refine gk_then (hK5 _ _ ?_)
  refine gc_block ?_
  try simp only [List.nil_append, List.cons_append, List.append_assoc, List.set_cons_succ, List.set_cons_zero]
  refine gc_loop ([(0, _), (1, _)] : Env) (fun s : Nat => (fun (k : Nat) => ([(3, .int .i64 (k : Int))] : Env)) s) (fun s : Nat => (fun (k : Nat) => ([] : List (Nat × Itm))) s) (fun s : Nat => (fun (k : Nat) => (k : Int) ≤ F.T.ob ∧ ∀ j : Nat, j < k → (fun y : Nat => ∃ i, i < F.o.length ∧ isoXY F.T (at0 F.o (i : Int)) (y : Int)) j) s) (fun s : Nat => (fun (k : Nat) => (F.T.ob - (k : Int)).toNat) s) (0) (sub_cons rfl (sub_cons rfl (sub_cons rfl sub_nil))) rfl ⟨by omega, fun j hj => absurd hj (by omega)⟩ ?_
  rintro k hinv KL6 hKL6
  simp only [updL, List.foldl_cons, List.foldl_nil, List.set_cons_succ, List.set_cons_zero, List.cons_append, List.nil_append] at hinv hKL6 ⊢
  obtain ⟨hk, hj⟩ := hinv
  refine gc_seq fun K7 hK7 => ?_
  refine gc_seq fun K8 hK8 => ?_
  refine gc_region ?_
  refine g_v (.free rfl) rfl rfl (qt_move rfl rfl) ?_
  refine g_v (.free rfl) rfl rfl (qt_field (z := 4) (off := 5) rfl rfl Try.underlying32 rfl (by kernel_rfl) rfl) ?_
  refine g_v (.free rfl) rfl rfl (qt_field (z := 0) (off := 0) rfl rfl Try.underlying30 rfl (by kernel_rfl) rfl) ?_
  refine g_v (.free rfl) rfl rfl (qt_loadB (n := 0) rfl rfl Try.underlying2 rfl rfl rfl) ?_
  refine g_v (.free rfl) rfl rfl (qt_lss rfl rfl rfl) ?_
  refine g_nil ?_
  refine gk_then (hK8 _ _ ?_)
  refine gc_cond rfl (fun hc0 => ?_) (fun hc0 => ?_)
  · try simp only [decide_eq_true_eq, decide_eq_false_iff_not, Bool.not_eq_true', Bool.not_eq_false', Bool.not_eq_eq_eq_not, Bool.not_true, Bool.not_false, ne_eq, Decidable.not_not, Classical.not_not] at hc0
    refine gc_skip ?_
    refine gk_then (hK7 _ _ ?_)
    refine gc_seq fun K9 hK9 => ?_
    refine gc_block ?_
    refine gc_seq fun K10 hK10 => ?_
    refine gc_region ?_
    refine g_v (.free rfl) rfl rfl (qt_assign rfl rfl) ?_
    refine g_nil ?_
    refine gk_then (hK10 _ _ ?_)
    refine gc_seq fun K11 hK11 => ?_
    refine gc_seq fun K12 hK12 => ?_
    refine gc_region ?_
    refine g_v (.free rfl) rfl rfl (qt_assign rfl rfl) ?_
    refine g_nil ?_
    refine gk_then (hK12 _ _ ?_)
    refine gc_block ?_
    try simp only [List.nil_append, List.cons_append, List.append_assoc, List.set_cons_succ, List.set_cons_zero]
    refine gc_loop ([(0, _), (1, _), (3, _), (10, _)] : Env) (fun s : Nat × Bool => (fun (j : Nat) (b : Bool) => ([(4, .bool b), (5, .int .i64 (j : Int))] : Env)) s.1 s.2) (fun s : Nat × Bool => (fun (j : Nat) (b : Bool) => ([] : List (Nat × Itm))) s.1 s.2) (fun s : Nat × Bool => (fun (j : Nat) (b : Bool) => j ≤ F.o.length ∧ b = bP (∃ i, i < j ∧ isoXY F.T (at0 F.o (i : Int)) (k : Int))) s.1 s.2) (fun s : Nat × Bool => (fun (j : Nat) (b : Bool) => F.o.length - j) s.1 s.2) (0, false) (sub_cons rfl (sub_cons rfl (sub_cons rfl (sub_cons rfl (sub_cons rfl (sub_cons rfl sub_nil)))))) rfl ⟨Nat.zero_le _, (bP_f fun ⟨i, hi, _⟩ => absurd hi (by omega)).symm⟩ ?_
    rintro ⟨j, b⟩ hinv KL13 hKL13
    simp only [updL, List.foldl_cons, List.foldl_nil, List.set_cons_succ, List.set_cons_zero, List.cons_append, List.nil_append] at hinv hKL13 ⊢
    obtain ⟨hjl, hb⟩ := hinv
    refine gc_seq fun K14 hK14 => ?_
    refine gc_seq fun K15 hK15 => ?_
    refine gc_region ?_
    refine g_v (.free rfl) rfl rfl (qt_move rfl rfl) ?_
    refine g_v (.free rfl) rfl rfl (qt_field (z := 0) (off := 10) rfl rfl Try.underlying32 rfl (by kernel_rfl) rfl) ?_
    refine g_v (.free rfl) rfl rfl (qt_loadB (n := 0) rfl rfl Try.underlying22 rfl rfl rfl) ?_
    refine g_v (.free rfl) rfl rfl (qt_len rfl rfl ulE1 (fun w M => lenV_rd h9)) ?_
    refine g_v (.free rfl) rfl rfl (qt_lss rfl rfl rfl) ?_
    refine g_nil ?_
    refine gk_then (hK15 _ _ ?_)
    refine gc_cond rfl (fun hc1 => ?_) (fun hc1 => ?_)
    · try simp only [decide_eq_true_eq, decide_eq_false_iff_not, Bool.not_eq_true', Bool.not_eq_false', Bool.not_eq_eq_eq_not, Bool.not_true, Bool.not_false, ne_eq, Decidable.not_not, Classical.not_not] at hc1
      refine gc_skip ?_
      refine gk_then (hK14 _ _ ?_)
      refine gc_seq fun K16 hK16 => ?_
      refine gc_block ?_
      refine gc_draw (by kernel_rfl) ?_
      refine gd_v (.free rfl) rfl rfl (qt_move rfl rfl) ?_
      refine gd_splitv (.free rfl) rfl rfl (qt_move rfl rfl) (fun hs8_1 => ?_) (fun hs8_1 => ?_)
      · try simp only [decide_eq_true_eq, decide_eq_false_iff_not, Bool.not_eq_true', Bool.not_eq_false', Bool.not_eq_eq_eq_not, Bool.not_true, Bool.not_false, ne_eq, Decidable.not_not, Classical.not_not] at hs8_1
        refine gd_skip (.not _ _ _ _ rfl rfl rfl rfl) rfl rfl ?_
        refine gd_skip (.not _ _ _ _ rfl rfl rfl rfl) rfl rfl ?_
        refine gd_skip (.not _ _ _ _ rfl rfl rfl rfl) rfl rfl ?_
        refine gd_skip (.not _ _ _ _ rfl rfl rfl rfl) rfl rfl ?_
        refine gd_skip (.not _ _ _ _ rfl rfl rfl rfl) rfl rfl ?_
        refine gd_skip (.not _ _ _ _ rfl rfl rfl rfl) rfl rfl ?_
        refine gd_skip (.not _ _ _ _ rfl rfl rfl rfl) rfl rfl ?_
        refine gd_skip (.not _ _ _ _ rfl rfl rfl rfl) rfl rfl ?_
        refine gd_skip (.not _ _ _ _ rfl rfl rfl rfl) rfl rfl ?_
        refine gd_v (.free rfl) rfl rfl (qt_pick_t rfl rfl rfl) ?_
        refine gd_v (.free rfl) rfl rfl (qt_assign rfl rfl) ?_
        refine gd_nil ?_
        refine gk_block ?_
        refine gk_then (hK16 _ _ ?_)
        refine gc_region ?_
        refine g_v (.free rfl) rfl rfl (qt_move rfl rfl) ?_
        refine g_v (.free rfl) rfl rfl (qt_add rfl rfl rfl (by omega)) ?_
        refine g_v (.free rfl) rfl rfl (qt_assign rfl rfl) ?_
        refine g_nil ?_
        refine gk_then (gk_take 1 ?_)
        refine gk_sub ?hs_17 (hKL13 (j + 1, true) ?hi_17 ?hm_17)
        case hs_17 => exact (sub_cons rfl (sub_cons rfl (sub_cons rfl (sub_cons rfl (sub_cons rfl (sub_cons rfl sub_nil))))))
        case hi_17 => exact ⟨by omega, (bP_t (ex_snoc.2 (.inl (bP_t' (by rw [← hb]; exact hs8_1))))).symm⟩
        case hm_17 => omega
      · try simp only [decide_eq_true_eq, decide_eq_false_iff_not, Bool.not_eq_true', Bool.not_eq_false', Bool.not_eq_eq_eq_not, Bool.not_true, Bool.not_false, ne_eq, Decidable.not_not, Classical.not_not] at hs8_1
        refine gd_v (.held _ _ _ rfl rfl rfl) rfl rfl (qt_field (z := 4) (off := 5) rfl rfl Try.underlying32 rfl (by kernel_rfl) rfl) ?_
        refine gd_v (.held _ _ _ rfl rfl rfl) rfl rfl (qt_loadP (n := 0) (z := 5) rfl rfl Try.underlying30 rfl (by kernel_rfl) rfl (by first | decide | exact Nat.le_refl _ | simp)) ?_
        refine gd_v (.held _ _ _ rfl rfl rfl) rfl rfl (qt_field (z := 0) (off := 10) rfl rfl Try.underlying32 rfl (by kernel_rfl) rfl) ?_
        refine gd_v (.held _ _ _ rfl rfl rfl) rfl rfl (qt_loadB (n := 0) rfl rfl Try.underlying22 rfl rfl rfl) ?_
        refine gd_v (.held _ _ _ rfl rfl rfl) rfl rfl (qt_move rfl rfl) ?_
        refine gd_v (.held _ _ _ rfl rfl rfl) rfl rfl (qt_index rfl rfl rfl ulE1 szE1 (fun w M => lenA_rd h9) (by omega) (by omega)) ?_
        refine gd_v (.held _ _ _ rfl rfl rfl) rfl rfl (qt_load1 rfl rfl Try.underlying2 rfl (fun w M => mem_rd M h9) (by omega) (by omega)) ?_
        refine gd_v (.held _ _ _ rfl rfl rfl) rfl rfl (qt_move rfl rfl) ?_
        refine gd_q (.held _ _ _ rfl rfl rfl) rfl rfl (qt_call rfl Try.func124 rfl (by decide) rfl (fun w M => specAlike_any w _ (F.T) _ _ (rdC_mk (mem_rd M h5) (mem_rd M h6) (mem_rd M h7) (mem_rd2 M h8)) (by first | assumption | omega))) ?_
        refine gd_v (.free rfl) rfl rfl (qt_pick_f rfl rfl rfl) ?_
        refine gd_v (.free rfl) rfl rfl (qt_assign rfl rfl) ?_
        refine gd_nil ?_
        refine gk_block ?_
        refine gk_then (hK16 _ _ ?_)
        refine gc_region ?_
        refine g_v (.free rfl) rfl rfl (qt_move rfl rfl) ?_
        refine g_v (.free rfl) rfl rfl (qt_add rfl rfl rfl (by omega)) ?_
        refine g_v (.free rfl) rfl rfl (qt_assign rfl rfl) ?_
        refine g_nil ?_
        refine gk_then (gk_take 1 ?_)
        refine gk_sub ?hs_18 (hKL13 (j + 1, bP (isoXY F.T (at0 F.o (j : Int)) (k : Int))) ?hi_18 ?hm_18)
        case hs_18 => exact (sub_cons rfl (sub_cons rfl (sub_cons rfl (sub_cons rfl (sub_cons rfl (sub_cons rfl sub_nil))))))
        case hi_18 => exact ⟨by omega, bP_congr ⟨fun hp => ex_snoc.2 (.inr hp), fun hp => (ex_snoc.1 hp).elim (fun h => absurd h (bP_f' (by rw [← hb]; exact hs8_1))) id⟩⟩
        case hm_18 => omega
    · try simp only [decide_eq_true_eq, decide_eq_false_iff_not, Bool.not_eq_true', Bool.not_eq_false', Bool.not_eq_eq_eq_not, Bool.not_true, Bool.not_false, ne_eq, Decidable.not_not, Classical.not_not] at hc1
      refine gc_exit ?_
      refine gk_then_exit ?_
      refine gk_then_exit ?_
      refine gk_block_hit ?_
      refine gk_then (hK11 _ _ ?_)
      refine gc_seq fun K19 hK19 => ?_
      refine gc_region ?_
      refine g_v (.free rfl) rfl rfl (qt_move rfl rfl) ?_
      refine g_v (.free rfl) rfl rfl (qt_not rfl rfl) ?_
      refine g_nil ?_
      refine gk_then (hK19 _ _ ?_)
      refine gc_cond rfl (fun hc2 => ?_) (fun hc2 => ?_)
      · try simp only [decide_eq_true_eq, decide_eq_false_iff_not, Bool.not_eq_true', Bool.not_eq_false', Bool.not_eq_eq_eq_not, Bool.not_true, Bool.not_false, ne_eq, Decidable.not_not, Classical.not_not] at hc2
        refine gc_seq fun K20 hK20 => ?_
        refine gc_region ?_
        refine g_v (.free rfl) rfl rfl (qt_assign rfl rfl) ?_
        refine g_nil ?_
        refine gk_then (hK20 _ _ ?_)
        refine gc_ret ?_
        refine gk_block_ret ?_
        refine gk_then_ret ?_
        refine gk_then_ret ?_
        refine gk_block_ret ?_
        refine gk_then_ret ?_
        refine ret_1 rfl rfl  (fun w M => ?_)
        rw [bP_f fun hq => bP_f' (hb.symm.trans hc2) (by obtain ⟨i, hi, hh⟩ := hq k (by omega); exact ⟨i, by omega, hh⟩)]; exact ⟨rfl, M.1⟩
      · try simp only [decide_eq_true_eq, decide_eq_false_iff_not, Bool.not_eq_true', Bool.not_eq_false', Bool.not_eq_eq_eq_not, Bool.not_true, Bool.not_false, ne_eq, Decidable.not_not, Classical.not_not] at hc2
        have hbt := bP_t' (hb.symm.trans hc2)
        refine gc_skip ?_
        refine gk_block ?_
        refine gk_then (hK9 _ _ ?_)
        refine gc_region ?_
        refine g_v (.free rfl) rfl rfl (qt_move rfl rfl) ?_
        refine g_v (.free rfl) rfl rfl (qt_add rfl rfl rfl (by omega)) ?_
        refine g_v (.free rfl) rfl rfl (qt_assign rfl rfl) ?_
        refine g_nil ?_
        refine gk_then (gk_take 1 ?_)
        refine gk_sub ?hs_21 (hKL6 (k + 1) ?hi_21 ?hm_21)
        case hs_21 => exact (sub_cons rfl (sub_cons rfl (sub_cons rfl sub_nil)))
        case hi_21 => exact ⟨by omega, all_next0 hj (by obtain ⟨i, hi, hh⟩ := hbt; exact ⟨i, by omega, hh⟩)⟩
        case hm_21 => omega
  · try simp only [decide_eq_true_eq, decide_eq_false_iff_not, Bool.not_eq_true', Bool.not_eq_false', Bool.not_eq_eq_eq_not, Bool.not_true, Bool.not_false, ne_eq, Decidable.not_not, Classical.not_not] at hc0
    refine gc_exit ?_
    refine gk_then_exit ?_
    refine gk_then_exit ?_
    refine gk_block_hit ?_
    refine gk_then (hK4 _ _ ?_)
    refine gc_seq fun K22 hK22 => ?_
    refine gc_region ?_
    refine g_v (.free rfl) rfl rfl (qt_assign rfl rfl) ?_
    refine g_nil ?_
    refine gk_then (hK22 _ _ ?_)
    refine gc_ret ?_
    refine ret_1 rfl rfl  (fun w M => ?_)
    rw [bP_t (p := surP F) fun y hy => hj y (by omega)]; exact ⟨rfl, M.1⟩

set_option maxHeartbeats 1000000 in
set_option maxRecDepth 100000 in
theorem spec_IsEssentiallySurjective (w : World) (v : Value) (F : Fct) (h : RdF w v F) :
    Calls Try.prog 36 #[v] w (RetBI w (fIsEssentiallySurjective F).1 (fIsEssentiallySurjective F).2) := by
  have h0 := h
  obtain ⟨vx1, vx2, vx3, vx4, vx5, vx6, vx7, vx8, vx9, vx10, vk1, vk2, vk3, vk4, vk5, vk6, vk7, vk8, vk9, vk10, rfl, h1, h2, h3, h4, h5, h6, h7, h8, h9, h10⟩ := h.lists
  go_enter Try.func36, Try.ntmps36
  refine gc_enter (N := 9) rfl (look_cons (k := 0) rfl (look_nil _)) ?_
  refine gc_seq fun K1 hK1 => ?_
  refine gc_region ?_
  refine g_op (.free rfl) fun K3 hK3 => ?_
  refine go_box rfl rfl rfl rfl rfl ?_
  intro B2
  refine hK3 _ _ ?_
  refine g_v (.free rfl) rfl rfl (qt_assign rfl rfl) ?_
  refine g_v (.free rfl) rfl rfl (qt_assign rfl rfl) ?_
  refine g_nil ?_
  refine gk_then (hK1 _ _ ?_)
  refine gc_seq fun K4 hK4 => ?_
  refine gc_seq fun K5 hK5 => ?_
  refine gc_region ?_
  refine g_v (.free rfl) rfl rfl (qt_loadS (n := 0) rfl rfl Try.underlying32 rfl (by kernel_rfl) rfl) ?_
  refine g_q (.free rfl) rfl rfl (qt_call rfl Try.func52 rfl (by decide) rfl (fun w M => specIsF_any w _ _ (mem_rdF M h0))) ?_
  refine g_v (.free rfl) rfl rfl (qt_not rfl rfl) ?_
  refine g_nil ?_
  refine gk_then (hK5 _ _ ?_)
  refine gc_cond rfl (fun hc0 => ?_) (fun hc0 => ?_)
  · try simp only [decide_eq_true_eq, decide_eq_false_iff_not, Bool.not_eq_true', Bool.not_eq_false', Bool.not_eq_eq_eq_not, Bool.not_true, Bool.not_false, ne_eq, Decidable.not_not, Classical.not_not] at hc0
    refine gc_seq fun K6 hK6 => ?_
    refine gc_region ?_
    refine g_v (.free rfl) rfl rfl (qt_assign rfl rfl) ?_
    refine g_v (.free rfl) rfl rfl (qt_assign rfl rfl) ?_
    refine g_nil ?_
    refine gk_then (hK6 _ _ ?_)
    refine gc_ret ?_
    refine gk_then_ret ?_
    refine ret_2 rfl rfl rfl  (fun w M => ?_)
    rw [show fIsEssentiallySurjective F = (false, 1) from by unfold fIsEssentiallySurjective; rw [askB_f hc0, (fctErr_f hc0).1]]; exact ⟨rfl, M.1⟩
  · try simp only [decide_eq_true_eq, decide_eq_false_iff_not, Bool.not_eq_true', Bool.not_eq_false', Bool.not_eq_eq_eq_not, Bool.not_true, Bool.not_false, ne_eq, Decidable.not_not, Classical.not_not] at hc0
    refine gc_skip ?_
    refine gk_then (hK4 _ _ ?_)
    refine gc_seq fun K7 hK7 => ?_
    refine gc_region ?_
    refine g_v (.free rfl) rfl rfl (qt_loadS (n := 0) rfl rfl Try.underlying32 rfl (by kernel_rfl) rfl) ?_
    refine g_q (.free rfl) rfl rfl (qt_call rfl Try.func84 rfl (by decide) rfl (fun w M => specSurF_any w _ _ (mem_rdF M h0) (hc0))) ?_
    refine g_v (.free rfl) rfl rfl (qt_assign rfl rfl) ?_
    refine g_v (.free rfl) rfl rfl (qt_assign rfl rfl) ?_
    refine g_nil ?_
    refine gk_then (hK7 _ _ ?_)
    refine gc_ret ?_
    refine ret_2 rfl rfl rfl  (fun w M => ?_)
    rw [show fIsEssentiallySurjective F = (bP (surP F), 0) from by unfold fIsEssentiallySurjective; rw [askB_t hc0, (fctErr_t hc0).1]]; exact ⟨rfl, M.1⟩

set_option maxHeartbeats 1000000 in
set_option maxRecDepth 100000 in
theorem impl_IsEssentiallySurjective (w : World) (v : Value) (F : Fct) (h : RdF w v F) :
    Calls Try.prog 37 #[v] w (RetBI w (fIsEssentiallySurjective F).1 (fIsEssentiallySurjective F).2) := by
  have h0 := h
  obtain ⟨vx1, vx2, vx3, vx4, vx5, vx6, vx7, vx8, vx9, vx10, vk1, vk2, vk3, vk4, vk5, vk6, vk7, vk8, vk9, vk10, rfl, h1, h2, h3, h4, h5, h6, h7, h8, h9, h10⟩ := h.lists
  go_enter Try.func37, Try.ntmps37
  refine gc_enter (N := 8) rfl (look_cons (k := 0) rfl (look_nil _)) ?_
  refine gc_seq fun K1 hK1 => ?_
  refine gc_region ?_
  refine g_op (.free rfl) fun K3 hK3 => ?_
  refine go_box rfl rfl rfl rfl rfl ?_
  intro B2
  refine hK3 _ _ ?_
  refine g_v (.free rfl) rfl rfl (qt_assign rfl rfl) ?_
  refine g_v (.free rfl) rfl rfl (qt_assign rfl rfl) ?_
  refine g_nil ?_
  refine gk_then (hK1 _ _ ?_)
  refine gc_seq fun K4 hK4 => ?_
  refine gc_region ?_
  refine g_v (.free rfl) rfl rfl (qt_loadS (n := 0) rfl rfl Try.underlying32 rfl (by kernel_rfl) rfl) ?_
  refine g_q (.free rfl) rfl rfl (qt_call rfl Try.func80 rfl (by decide) rfl (fun w M => askB_any w _ _ (mem_rdF M h0) (_) (bP (surP F)) (fun hI w' hb v h => callsV_f (bnd := []) (vs := [_]) (caps := []) Try.func85 rfl (by decide) (isSurF_any w' v F h hI)))) ?_
  refine g_v (.free rfl) rfl rfl (qt_extract rfl rfl rfl) ?_
  refine g_v (.free rfl) rfl rfl (qt_extract rfl rfl rfl) ?_
  refine g_v (.free rfl) rfl rfl (qt_assign rfl rfl) ?_
  refine g_v (.free rfl) rfl rfl (qt_assign rfl rfl) ?_
  refine g_nil ?_
  refine gk_then (hK4 _ _ ?_)
  refine gc_ret ?_
  refine ret_2 rfl rfl rfl  (fun w M => ?_)
  exact ⟨rfl, M.1⟩

end Go.Proofs.Ytpfcfhjpgngneaa
