import Derived.Test.YtfnneogadciimaaDoorA15
import Derived.Test.YtfnneogadciimaaDoorA11
import Derived.Test.YtfnneogadciimaaDoorA6
import Derived.Test.YtfnneogadciimaaDoorA9
import Derived.Test.YtfnneogadciimaaDoorA13
set_option linter.unusedSimpArgs false
set_option linter.unusedVariables false
set_option linter.unusedSectionVars false
namespace Go.Proofs.YtfnneogadciimaaDoor
open Go.RowKit
theorem produce_all {w0 : World} {C Cx : List LV → Itm} {l : Nat} {vn : Value} {H : Itm} {V : List Int → Prop} {L : List (List Int)} {n : Nat} (hT : TabW w0) (hv : IsFn vn) (hNF : NarF w0 vn H n V) (Y : YieldC w0 C Cx l valL TL decL L) (hn9 : n ≤ 1000) : ∀ (m : Nat) (ss : List Nat), ss.sum < m → PrdOK w0 C Cx l vn H V L n ss
  | 0, _, h => absurd h (by omega)
  | m + 1, ss, h => fun w v pre R hlen hF hpf M => produce_step w0 w C Cx l vn H V L n hT hv hNF Y ss (fun ss2 h2 => produce_all hT hv hNF Y hn9 m ss2 (by omega)) v pre R hlen hF hpf hn9 M
abbrev listB (B1 B2 : Nat) (v vn : Value) (ss : List Nat) (H : Itm) : List Itm := [bxI B1 68 [v], bxI B2 71 [vn], ownGI elW v ss, H]
def LisSeq (w0 : World) (B1 B2 : Nat) (v vn : Value) (ss : List Nat) (H : Itm) (V : List Int → Prop) : Prop := SeqC w0 (listB B1 B2 v vn ss H) 60 [.pointer (some ⟨B1, 0, none⟩), .pointer (some ⟨B2, 0, none⟩)] valL TL decL (sols V ss)
set_option maxHeartbeats 1000000 in
set_option maxRecDepth 100000 in
theorem lists_run (w0 w : World) (C Cx : List LV → Itm) (l B1 B2 : Nat) (v vn : Value) (H : Itm) (V : List Int → Prop) (n : Nat) (hT : TabW w0) (hv : IsFn vn) (hNF : NarF w0 vn H n V) (ss : List Nat) (hlen : ss.length = n) (hF : AllF ss) (hn9 : n ≤ 1000) (Y : YieldC w0 C Cx l valL TL decL (sols V ss)) (M : Mem w0 w [C [], bxI B1 68 [v], bxI B2 71 [vn], ownGI elW v ss, H]) :
    Calls Tryd.prog 60 #[.func (.yield l) #[] #[], .pointer (some ⟨B1, 0, none⟩), .pointer (some ⟨B2, 0, none⟩)] w (fun e W' => (∃ v, e = .returned v) ∧ ((∃ xs : List LV, xs.map decL = sols V ss ∧ Mem w0 W' (C xs :: listB B1 B2 v vn ss H)) ∨ (∃ pre : List LV, (pre.map decL) <+: sols V ss ∧ Mem w0 W' (Cx pre :: listB B1 B2 v vn ss H)))) := by
  go_enter Tryd.func60, Tryd.ntmps60
  refine gc_enterM M (N := 8) rfl (look_cons (k := 0) rfl (look_cons (k := 1) rfl (look_cons (k := 2) rfl (look_nil _)))) ?_
  clear M
  refine gc_region ?_
  refine g_v (.free rfl) rfl rfl (qt_loadB (n := 1) rfl rfl Tryd.underlying68 rfl rfl rfl) ?_
  refine g_v (.free rfl) rfl rfl (qt_loadB (n := 2) rfl rfl Tryd.underlying71 rfl rfl rfl) ?_
  refine g_v (.free rfl) rfl rfl (qt_move rfl rfl) ?_
  refine g_callTF (X := List LV) (Y := List LV) (n := 0) (m := 2) (p := 2) (i := C []) (A := fun zs => C zs) (B := fun zs => Cx zs) (PX := fun zs => zs.map decL = sols V ss) (PY := fun zs => (zs.map decL) <+: sols V ss) (.free rfl) rfl rfl rfl Tryd.func61 rfl (by decide) rfl rfl rfl rfl (fun R w M => (produce_all hT hv hNF Y hn9 (ss.sum + 1) ss (by omega) w v [] R hlen hF (by simp) M).mono (fun e w' h => by simpa only [PrdE, List.nil_append] using h)) ?_ ?_
  · skip
    intro zs hzs
    refine g_nil ?_
    refine ret_0n rfl (fun w M => ?_)
    exact ⟨⟨_, rfl⟩, .inl ⟨zs, hzs, M⟩⟩
  · skip
    intro zs hzs
    refine g_nil ?_
    refine ret_0n rfl (fun w M => ?_)
    exact ⟨⟨_, rfl⟩, .inr ⟨zs, hzs, M⟩⟩
theorem lists_seq {w0 : World} {B1 B2 n : Nat} {v vn : Value} {H : Itm} {V : List Int → Prop} {ss : List Nat} (hT : TabW w0) (hv : IsFn vn) (hNF : NarF w0 vn H n V) (hlen : ss.length = n) (hF : AllF ss) (hn9 : n ≤ 1000) : LisSeq w0 B1 B2 v vn ss H V := fun C Cx l Y W M =>
  lists_run w0 W C Cx l B1 B2 v vn H V n hT hv hNF ss hlen hF hn9 Y M
def RetLis (W : World) (v vn : Value) (e : Ending) (w' : World) : Prop := ∃ B1 B2, e = .returned (.func (.func 60) #[] #[.pointer (some ⟨B1, 0, none⟩), .pointer (some ⟨B2, 0, none⟩)]) ∧ Star [bxI B1 68 [v], bxI B2 71 [vn]] w' (fun k => W.heap.size ≤ k) ∧ Below W.heap.size W w'
section
variable {w0 : World} {is : List Itm} {Q : Exit → Act → World → Prop} {o : Oper} {N : Frm} {e : Env} {d : Nat} {K : Act → World → Prop} {f : FuncId} {fn : Func} {ags : Array Operand} {ts : Array TypeId} {vs : List Value}
theorem go_callLis {v vn : Value} (hd : o.dst = some d) (hN : Nat.blt d N = true) (hop : o.op = .call { callee := .value (.func f), args := ags, argTypes := ts }) (hfn : Tryd.prog.funcs[f]? = some fn) (hb : fn.body.isNone = false) (hn : (fn.name == "runtime.NumGoroutine") = false)
    (hargs : evoL e ags.toList = some vs) (hc : ∀ w, Mem w0 w is → Calls Tryd.prog f vs.toArray w (RetLis w v vn)) (hk : ∀ B1 B2, GK w0 (is ++ [bxI B1 68 [v], bxI B2 71 [vn]]) N K ((d, .func (.func 60) #[] #[.pointer (some ⟨B1, 0, none⟩), .pointer (some ⟨B2, 0, none⟩)]) :: e)) : GO w0 is N o e Q K := by
  intro w a M F
  refine go_call hd hN F hop hfn hb hn hargs (hc w M) fun e' w' hR => ?_
  obtain ⟨B1, B2, rfl, hs, hbl⟩ := hR
  exact ⟨_, rfl, fun a F => hk B1 B2 w' a (mem_news M hbl hs) F⟩
end
set_option maxHeartbeats 1000000 in
set_option maxRecDepth 100000 in
theorem lists_any (w : World) (v vn : Value) (hv : v.cells = #[v]) (hf : IsFn vn) :
    Calls Tryd.prog 42 #[v, vn] w (RetLis w v vn) := by
  go_enter Tryd.func42, Tryd.ntmps42
  refine gc_enter (N := 6) rfl (look_cons (k := 0) rfl (look_cons (k := 1) rfl (look_nil _))) ?_
  refine gc_seq fun K1 hK1 => ?_
  refine gc_region ?_
  refine g_op (.free rfl) fun K3 hK3 => ?_
  refine go_box rfl rfl rfl rfl (by first | exact hv | exact hf.cells) ?_
  intro B2
  refine hK3 _ _ ?_
  refine g_op (.free rfl) fun K5 hK5 => ?_
  refine go_box rfl rfl rfl rfl (by first | exact hv | exact hf.cells) ?_
  intro B4
  refine hK5 _ _ ?_
  refine g_v (.free rfl) rfl rfl (qt_assign rfl rfl) ?_
  refine g_nil ?_
  refine gk_then (hK1 _ _ ?_)
  refine gc_seq fun K6 hK6 => ?_
  refine gc_region ?_
  refine g_v (.free rfl) rfl rfl (qt_makeF rfl rfl) ?_
  refine g_v (.free rfl) rfl rfl (qt_assign rfl rfl) ?_
  refine g_nil ?_
  refine gk_then (hK6 _ _ ?_)
  refine gc_ret ?_
  refine ret_1 rfl rfl  (fun w M => ?_)
  exact ⟨_, _, rfl, M.2, M.1⟩
end Go.Proofs.YtfnneogadciimaaDoor
set_option linter.unusedSimpArgs false
set_option linter.unusedVariables false
set_option linter.unusedSectionVars false
namespace Go.Proofs.YtfnneogadciimaaDoor
open Go.RowKit
structure NarQ (c : Cat) (fs ss ss' : List Nat) : Prop where
  sub : SubW ss' ss
  F : AllF ss'
  keep : ∀ l, FitsW c fs l → InW ss l → InW ss' l
def FixW (c : Cat) (fs ss : List Nat) (n : Nat) : Prop := ∀ a : Nat, a < n → lesS c fs ss (a : Int) = false ∧ lesT c fs ss (a : Int) = false
theorem narQ_refl {c : Cat} {fs ss : List Nat} (h : AllF ss) : NarQ c fs ss ss := ⟨subW_refl _, h, fun _ _ h => h⟩
theorem narQ_step {c : Cat} {fs ss ss2 : List Nat} {k : Nat} (hS : ShapeP c) (hss : (ss.length : Int) = c.ob) (h : NarQ c fs ss ss2) (hk : k < c.s.length) : NarQ c fs ss (nsq2 c fs ss2 (k : Int)) ∧ (nsq2 c fs ss2 (k : Int)).sum ≤ ss2.sum ∧
    ((lesS c fs ss2 k || lesT c fs ss2 k) = true → (nsq2 c fs ss2 k).sum < ss2.sum) ∧ ((lesS c fs ss2 k || lesT c fs ss2 k) = false → nsq2 c fs ss2 k = ss2) := by
  have hs := allP_at hS.sa (k := k) hk
  have ht := allP_at hS.ta (k := k) (by have := hS.tl; omega)
  have hl := h.sub.1
  have := nsq_sum (c := c) (fs := fs) (ss := ss2) (a := (k : Int)) hs.1 (by omega) ht.1 (by omega)
  exact ⟨⟨(nsq_sub hs.1 (by omega) ht.1 (by omega)).trans h.sub, nsq_F h.F, fun l hf hi => nsq_keep h.F hs.1 (by omega) ht.1 (by omega) (h.keep l hf hi) (hf k hk)⟩, this⟩
def NarL (c : Cat) (fs ss ss1 : List Nat) (k : Nat) (ss2 : List Nat) (g : Bool) : Prop := k ≤ c.s.length ∧ NarQ c fs ss ss2 ∧ ss2.sum ≤ ss1.sum ∧ (g = true → ss2.sum < ss1.sum) ∧ (g = false → ss2 = ss1 ∧ FixW c fs ss1 k)
theorem narL_zero {c : Cat} {fs ss ss1 : List Nat} (h : NarQ c fs ss ss1) : NarL c fs ss ss1 0 ss1 false := ⟨Nat.zero_le _, h, Nat.le_refl _, (fun h => by cases h), fun _ => ⟨rfl, fun a ha => absurd ha (by omega)⟩⟩
theorem narL_t {c : Cat} {fs ss ss1 ss2 : List Nat} {k : Nat} {g : Bool} (hS : ShapeP c) (hss : (ss.length : Int) = c.ob) (h : NarL c fs ss ss1 k ss2 g) (hk : k < c.s.length) (e : (lesS c fs ss2 k || lesT c fs ss2 k) = true) : NarL c fs ss ss1 (k + 1) (nsq2 c fs ss2 (k : Int)) true := by
  obtain ⟨h1, h2, h3, h4, h5⟩ := h
  have hst := narQ_step hS hss h2 hk
  have := hst.2.2.1 e
  exact ⟨by omega, hst.1, by omega, fun _ => by omega, fun h => by cases h⟩
theorem narL_f {c : Cat} {fs ss ss1 ss2 : List Nat} {k : Nat} {g : Bool} (hS : ShapeP c) (hss : (ss.length : Int) = c.ob) (h : NarL c fs ss ss1 k ss2 g) (hk : k < c.s.length) (e : ¬ (lesS c fs ss2 k || lesT c fs ss2 k) = true) : NarL c fs ss ss1 (k + 1) (nsq2 c fs ss2 (k : Int)) g := by
  obtain ⟨h1, h2, h3, h4, h5⟩ := h
  have hst := narQ_step hS hss h2 hk
  have e0 : (lesS c fs ss2 k || lesT c fs ss2 k) = false := by simpa using e
  have e2 := hst.2.2.2 e0
  rw [e2]
  refine ⟨by omega, h2, h3, h4, fun e => ?_⟩
  obtain ⟨rfl, hf2⟩ := h5 e
  refine ⟨rfl, fun a ha => ?_⟩
  rcases Nat.lt_succ_iff_lt_or_eq.1 ha with ha | rfl
  · exact hf2 a ha
  · exact Bool.or_eq_false_iff.1 e0
theorem narL_end {c : Cat} {fs ss ss1 ss2 : List Nat} {k : Nat} {g : Bool} (h : NarL c fs ss ss1 k ss2 g) (hk : ¬ k < c.s.length) : NarQ c fs ss ss2 ∧ (g = false → FixW c fs ss2 c.s.length) ∧ 2 * ss2.sum + (if g then 1 else 0) < 2 * ss1.sum + 1 := by
  obtain ⟨h1, h2, h3, h4, h5⟩ := h
  obtain rfl : k = c.s.length := by omega
  refine ⟨h2, fun e => by obtain ⟨rfl, hf2⟩ := h5 e; exact hf2, ?_⟩
  cases g
  · simp; omega
  · have := h4 rfl; simp; omega
def NarE (c : Cat) (fs ss : List Nat) (w0 : World) (v : Value) (J : List Itm) (e : Ending) (w' : World) : Prop := ∃ ss', e = .returned (.bool (!decide (0 ≤ idxZ ss' 0))) ∧ NarQ c fs ss ss' ∧ FixW c fs ss' c.s.length ∧ Mem w0 w' (ownGI elW v ss' :: J)
set_option maxHeartbeats 1000000 in
set_option maxRecDepth 100000 in
theorem narrow_any (w0 w : World) (c : Cat) (v1 v2 v3 v4 vf : Value) (fs : List Nat) (v : Value) (ss : List Nat) (R : Itm) (hT : TabW w0) (hS : ShapeP c) (hss : (ss.length : Int) = c.ob) (hs : AllF ss) (hf : AllW fs) (M : Mem w0 w [ownGI elW v ss, fvI w0 (TabP c v1 v2 v3 v4 vf fs), R]) :
    Calls Tryd.prog 73 #[.agg #[.int .i64 c.ob, v1, v2, v3, v4, vf], v] w (NarE c fs ss w0 v [fvI w0 (TabP c v1 v2 v3 v4 vf fs), R]) := by
  obtain ⟨va, vc, rfl⟩ := rdG_form (mem_ownG (n := 0) rfl M)
  have n40 := hS.n40
  go_enter Tryd.func73, Tryd.ntmps73
  refine gc_enterM M (N := 22) rfl (look_cons (k := 0) rfl (look_cons (k := 1) rfl (look_nil _))) ?_
  clear M
  refine gc_seq fun K1 hK1 => ?_
  refine gc_region ?_
  refine g_op (.free rfl) fun K3 hK3 => ?_
  refine go_box rfl rfl rfl rfl rfl ?_
  intro B2
  refine hK3 _ _ ?_
  refine g_v (.free rfl) rfl rfl (qt_assign rfl rfl) ?_
  refine g_nil ?_
  refine gk_then (hK1 _ _ ?_)
  refine gc_seq fun K4 hK4 => ?_
  refine gc_seq fun K5 hK5 => ?_
  refine gc_region ?_
  refine g_v (.free rfl) rfl rfl (qt_assign rfl rfl) ?_
  refine g_nil ?_
  refine gk_then (hK5 _ _ ?_)
  refine gc_block ?_
  try simp only [List.nil_append, List.cons_append, List.append_assoc, List.set_cons_succ, List.set_cons_zero]
  refine gc_loop ([(0, _), (1, _), (2, _), (4, _)] : Env) (fun s : (List Nat) × Bool => (fun (ss1 : List Nat) (h : Bool) => ([(5, .bool h)] : Env)) s.1 s.2) (fun s : (List Nat) × Bool => (fun (ss1 : List Nat) (h : Bool) => ([(0, ownGI elW (.slice va ss.length vc) ss1)] : List (Nat × Itm))) s.1 s.2) (fun s : (List Nat) × Bool => (fun (ss1 : List Nat) (h : Bool) => NarQ c fs ss ss1 ∧ (h = false → FixW c fs ss1 c.s.length)) s.1 s.2) (fun s : (List Nat) × Bool => (fun (ss1 : List Nat) (h : Bool) => 2 * ss1.sum + (if h then 1 else 0)) s.1 s.2) (ss, true) (sub_cons rfl (sub_cons rfl (sub_cons rfl (sub_cons rfl (sub_cons rfl sub_nil))))) rfl ⟨narQ_refl hs, (fun h => by cases h)⟩ ?_
  rintro ⟨ss1, h⟩ hinv KL6 hKL6
  simp only [updL, List.foldl_cons, List.foldl_nil, List.set_cons_succ, List.set_cons_zero, List.cons_append, List.nil_append] at hinv hKL6 ⊢
  obtain ⟨hq1, hx1⟩ := hinv
  refine gc_seq fun K7 hK7 => ?_
  refine gc_seq fun K8 hK8 => ?_
  refine gc_region ?_
  refine g_v (.free rfl) rfl rfl (qt_move rfl rfl) ?_
  refine g_nil ?_
  refine gk_then (hK8 _ _ ?_)
  refine gc_cond rfl (fun hc0 => ?_) (fun hc0 => ?_)
  · try simp only [decide_eq_true_eq, decide_eq_false_iff_not, Bool.not_eq_true', Bool.not_eq_false', Bool.not_eq_eq_eq_not, Bool.not_true, Bool.not_false, ne_eq, Decidable.not_not, Classical.not_not] at hc0
    refine gc_skip ?_
    refine gk_then (hK7 _ _ ?_)
    refine gc_block ?_
    refine gc_seq fun K9 hK9 => ?_
    refine gc_region ?_
    refine g_v (.free rfl) rfl rfl (qt_assign rfl rfl) ?_
    refine g_nil ?_
    refine gk_then (hK9 _ _ ?_)
    refine gc_seq fun K10 hK10 => ?_
    refine gc_region ?_
    refine g_v (.free rfl) rfl rfl (qt_field (z := 4) (off := 0) rfl rfl Tryd.underlying98 rfl (by kernel_rfl) rfl) ?_
    refine g_v (.free rfl) rfl rfl (qt_loadP (n := 3) (z := 5) rfl rfl Tryd.underlying30 rfl (by kernel_rfl) rfl (by first | decide | exact Nat.le_refl _ | simp)) ?_
    refine g_q (.free rfl) rfl rfl (qt_call rfl Tryd.func40 rfl (by decide) rfl (fun w M => arrows_any w _ _ ((mem_fv0 (n := 1) M rfl).1))) ?_
    refine g_v (.free rfl) rfl rfl (qt_move rfl rfl) ?_
    refine g_nil ?_
    refine gk_then (hK10 _ _ ?_)
    refine gc_block ?_
    try simp only [List.nil_append, List.cons_append, List.append_assoc, List.set_cons_succ, List.set_cons_zero]
    refine gc_loop ([(0, _), (1, _), (2, _), (4, _), (7, _), (10, _)] : Env) (fun s : Nat × (List Nat) × Bool => (fun (k : Nat) (ss2 : List Nat) (g : Bool) => ([(5, .bool g), (11, .int .i64 (k : Int))] : Env)) s.1 s.2.1 s.2.2) (fun s : Nat × (List Nat) × Bool => (fun (k : Nat) (ss2 : List Nat) (g : Bool) => ([(0, ownGI elW (.slice va ss.length vc) ss2)] : List (Nat × Itm))) s.1 s.2.1 s.2.2) (fun s : Nat × (List Nat) × Bool => (fun (k : Nat) (ss2 : List Nat) (g : Bool) => NarL c fs ss ss1 k ss2 g) s.1 s.2.1 s.2.2) (fun s : Nat × (List Nat) × Bool => (fun (k : Nat) (ss2 : List Nat) (g : Bool) => c.s.length - k) s.1 s.2.1 s.2.2) (0, ss1, false) (sub_cons rfl (sub_cons rfl (sub_cons rfl (sub_cons rfl (sub_cons rfl (sub_cons rfl (sub_cons rfl (sub_cons rfl sub_nil)))))))) rfl (narL_zero hq1) ?_
    rintro ⟨k, ss2, g⟩ hinv KL11 hKL11
    simp only [updL, List.foldl_cons, List.foldl_nil, List.set_cons_succ, List.set_cons_zero, List.cons_append, List.nil_append] at hinv hKL11 ⊢
    have hL := hinv
    have hk := hL.1
    have hq2 := hL.2.1
    refine gc_seq fun K12 hK12 => ?_
    refine gc_region ?_
    refine g_v (.free rfl) rfl rfl (qt_lss rfl rfl rfl) ?_
    refine g_nil ?_
    refine gk_then (hK12 _ _ ?_)
    refine gc_seq fun K13 hK13 => ?_
    refine gc_cond rfl (fun hc1 => ?_) (fun hc1 => ?_)
    · try simp only [decide_eq_true_eq, decide_eq_false_iff_not, Bool.not_eq_true', Bool.not_eq_false', Bool.not_eq_eq_eq_not, Bool.not_true, Bool.not_false, ne_eq, Decidable.not_not, Classical.not_not] at hc1
      refine gc_skip ?_
      refine gk_then (hK13 _ _ ?_)
      refine gc_seq fun K14 hK14 => ?_
      refine gc_block ?_
      refine gc_seq fun K15 hK15 => ?_
      refine gc_region ?_
      refine g_v (.free rfl) rfl rfl (qt_move rfl rfl) ?_
      refine g_v (.free rfl) rfl rfl (qt_assign rfl rfl) ?_
      refine g_nil ?_
      refine gk_then (hK15 _ _ ?_)
      refine gc_seq fun K16 hK16 => ?_
      refine gc_region ?_
      refine g_v (.free rfl) rfl rfl (qt_loadS (n := 3) rfl rfl Tryd.underlying98 rfl (by kernel_rfl) rfl) ?_
      refine g_v (.free rfl) rfl rfl (qt_move rfl rfl) ?_
      refine g_v (.free rfl) rfl rfl (qt_move rfl rfl) ?_
      refine g_op (.free rfl) fun K18 hK18 => ?_
      refine go_two (n := 0) (m := 1) (m' := 0) (σ := Unit) (i' := fun _ => ownGI elW (.slice va ss.length vc) (nsq2 c fs ss2 (k : Int))) (j' := fun _ => fvI w0 (TabP c v1 v2 v3 v4 vf fs)) (r := .bool (lesS c fs ss2 (k : Int) || lesT c fs ss2 (k : Int))) rfl rfl rfl Tryd.func107 rfl (by decide) rfl rfl rfl (fun z => rfl) (fun R w M => (narrowSq_any _ w c _ _ _ _ _ fs _ ss2 (k : Int) R hT hS (by rw [hq2.sub.1]; exact hss) hq2.F hf (by omega) (by omega) M).mono fun e w' h => ⟨(), h.1, h.2⟩) ?_
      intro _
      refine hK18 _ _ ?_
      refine g_nil ?_
      refine gk_then (hK16 _ _ ?_)
      refine gc_cond rfl (fun hc2 => ?_) (fun hc2 => ?_)
      · try simp only [decide_eq_true_eq, decide_eq_false_iff_not, Bool.not_eq_true', Bool.not_eq_false', Bool.not_eq_eq_eq_not, Bool.not_true, Bool.not_false, ne_eq, Decidable.not_not, Classical.not_not] at hc2
        refine gc_region ?_
        refine g_v (.free rfl) rfl rfl (qt_assign rfl rfl) ?_
        refine g_nil ?_
        refine gk_block ?_
        refine gk_then (hK14 _ _ ?_)
        refine gc_region ?_
        refine g_v (.free rfl) rfl rfl (qt_add rfl rfl rfl (by omega)) ?_
        refine g_v (.free rfl) rfl rfl (qt_move rfl rfl) ?_
        refine g_nil ?_
        refine gk_then (gk_take 4 ?_)
        refine gk_sub ?hs_19 (hKL11 (k + 1, nsq2 c fs ss2 (k : Int), true) ?hi_19 ?hm_19)
        case hs_19 => exact (sub_cons rfl (sub_cons rfl (sub_cons rfl (sub_cons rfl (sub_cons rfl (sub_cons rfl (sub_cons rfl (sub_cons rfl sub_nil))))))))
        case hi_19 => exact narL_t hS hss hL (by omega) hc2
        case hm_19 => omega
      · try simp only [decide_eq_true_eq, decide_eq_false_iff_not, Bool.not_eq_true', Bool.not_eq_false', Bool.not_eq_eq_eq_not, Bool.not_true, Bool.not_false, ne_eq, Decidable.not_not, Classical.not_not] at hc2
        refine gc_skip ?_
        refine gk_block ?_
        refine gk_then (hK14 _ _ ?_)
        refine gc_region ?_
        refine g_v (.free rfl) rfl rfl (qt_add rfl rfl rfl (by omega)) ?_
        refine g_v (.free rfl) rfl rfl (qt_move rfl rfl) ?_
        refine g_nil ?_
        refine gk_then (gk_take 4 ?_)
        refine gk_sub ?hs_20 (hKL11 (k + 1, nsq2 c fs ss2 (k : Int), g) ?hi_20 ?hm_20)
        case hs_20 => exact (sub_cons rfl (sub_cons rfl (sub_cons rfl (sub_cons rfl (sub_cons rfl (sub_cons rfl (sub_cons rfl (sub_cons rfl sub_nil))))))))
        case hi_20 => exact narL_f hS hss hL (by omega) (by simpa using hc2)
        case hm_20 => omega
    · try simp only [decide_eq_true_eq, decide_eq_false_iff_not, Bool.not_eq_true', Bool.not_eq_false', Bool.not_eq_eq_eq_not, Bool.not_true, Bool.not_false, ne_eq, Decidable.not_not, Classical.not_not] at hc1
      refine gc_exit ?_
      refine gk_then_exit ?_
      refine gk_then_exit ?_
      refine gk_block_hit ?_
      refine gk_block ?_
      refine gk_then (gk_take 4 ?_)
      refine gk_sub ?hs_21 (hKL6 (ss2, g) ?hi_21 ?hm_21)
      case hs_21 => exact (sub_cons rfl (sub_cons rfl (sub_cons rfl (sub_cons rfl (sub_cons rfl sub_nil)))))
      case hi_21 => exact ⟨(narL_end hL (by omega)).1, (narL_end hL (by omega)).2.1⟩
      case hm_21 => subst hc0; simpa using (narL_end hL (by omega)).2.2
  · try simp only [decide_eq_true_eq, decide_eq_false_iff_not, Bool.not_eq_true', Bool.not_eq_false', Bool.not_eq_eq_eq_not, Bool.not_true, Bool.not_false, ne_eq, Decidable.not_not, Classical.not_not] at hc0
    refine gc_exit ?_
    refine gk_then_exit ?_
    refine gk_then_exit ?_
    refine gk_block_hit ?_
    refine gk_then (hK4 _ _ ?_)
    refine gc_seq fun K22 hK22 => ?_
    refine gc_region ?_
    refine g_v (.free rfl) rfl rfl (qt_move rfl rfl) ?_
    refine g_q (.free rfl) rfl rfl (qt_call rfl Tryd.func62 rfl (by decide) rfl (fun w M => containsW_any w _ _ _ (mem_ownG (n := 0) rfl M))) ?_
    refine g_v (.free rfl) rfl rfl (qt_not rfl rfl) ?_
    refine g_v (.free rfl) rfl rfl (qt_assign rfl rfl) ?_
    refine g_nil ?_
    refine gk_then (hK22 _ _ ?_)
    refine gc_ret ?_
    refine ret_1 rfl rfl  (fun w M => ?_)
    exact ⟨_, rfl, hq1, hx1 (by simpa using hc0), mem_take 3 M⟩
end Go.Proofs.YtfnneogadciimaaDoor
set_option linter.unusedSimpArgs false
set_option linter.unusedVariables false
set_option linter.unusedSectionVars false
namespace Go.Proofs.YtfnneogadciimaaDoor
open Go.RowKit
structure Tra where
  S : Fct
  T : Fct
  c : List Int
inductive TrL (w : World) (v : Value) (T : Tra) : Prop where
  | mk (x1 x2 x3 x4 x5 x6 x7 x8 x9 x10 x11 x12 x13 x14 x15 x16 x17 x18 x19 x20 x21 : Option Addr) (k1 k2 k3 k4 k5 k6 k7 k8 k9 k10 k11 k12 k13 k14 k15 k16 k17 k18 k19 k20 k21 : Nat) (hv : v = .agg #[.int .i64 T.S.S.ob, .slice x1 T.S.S.s.length k1, .slice x2 T.S.S.t.length k2, .slice x3 T.S.S.e.length k3, .slice x4 T.S.S.m.length k4, .int .i64 T.S.T.ob, .slice x5 T.S.T.s.length k5, .slice x6 T.S.T.t.length k6, .slice x7 T.S.T.e.length k7, .slice x8 T.S.T.m.length k8, .slice x9 T.S.o.length k9, .slice x10 T.S.a.length k10, .int .i64 T.T.S.ob, .slice x11 T.T.S.s.length k11, .slice x12 T.T.S.t.length k12, .slice x13 T.T.S.e.length k13, .slice x14 T.T.S.m.length k14, .int .i64 T.T.T.ob, .slice x15 T.T.T.s.length k15, .slice x16 T.T.T.t.length k16, .slice x17 T.T.T.e.length k17, .slice x18 T.T.T.m.length k18, .slice x19 T.T.o.length k19, .slice x20 T.T.a.length k20, .slice x21 T.c.length k21]) (h1 : Rd w (.slice x1 T.S.S.s.length k1) T.S.S.s) (h2 : Rd w (.slice x2 T.S.S.t.length k2) T.S.S.t) (h3 : Rd w (.slice x3 T.S.S.e.length k3) T.S.S.e) (h4 : Rd2 w (.slice x4 T.S.S.m.length k4) T.S.S.m) (h5 : Rd w (.slice x5 T.S.T.s.length k5) T.S.T.s) (h6 : Rd w (.slice x6 T.S.T.t.length k6) T.S.T.t) (h7 : Rd w (.slice x7 T.S.T.e.length k7) T.S.T.e) (h8 : Rd2 w (.slice x8 T.S.T.m.length k8) T.S.T.m) (h9 : Rd w (.slice x9 T.S.o.length k9) T.S.o) (h10 : Rd w (.slice x10 T.S.a.length k10) T.S.a) (h11 : Rd w (.slice x11 T.T.S.s.length k11) T.T.S.s) (h12 : Rd w (.slice x12 T.T.S.t.length k12) T.T.S.t) (h13 : Rd w (.slice x13 T.T.S.e.length k13) T.T.S.e) (h14 : Rd2 w (.slice x14 T.T.S.m.length k14) T.T.S.m) (h15 : Rd w (.slice x15 T.T.T.s.length k15) T.T.T.s) (h16 : Rd w (.slice x16 T.T.T.t.length k16) T.T.T.t) (h17 : Rd w (.slice x17 T.T.T.e.length k17) T.T.T.e) (h18 : Rd2 w (.slice x18 T.T.T.m.length k18) T.T.T.m) (h19 : Rd w (.slice x19 T.T.o.length k19) T.T.o) (h20 : Rd w (.slice x20 T.T.a.length k20) T.T.a) (h21 : Rd w (.slice x21 T.c.length k21) T.c) : TrL w v T
inductive TrN (w : World) (v : Value) (T : Tra) : Prop where
  | mk (x1 x2 x3 x4 x5 x6 x7 x8 x9 x10 x11 x12 x13 x14 x15 x16 x17 x18 x19 x20 x21 : Option Addr) (k1 k2 k3 k4 k5 k6 k7 k8 k9 k10 k11 k12 k13 k14 k15 k16 k17 k18 k19 k20 k21 : Nat) (hv : v = .agg #[.int .i64 T.S.S.ob, .slice x1 T.S.S.s.length k1, .slice x2 T.S.S.t.length k2, .slice x3 T.S.S.e.length k3, .slice x4 T.S.S.m.length k4, .int .i64 T.S.T.ob, .slice x5 T.S.T.s.length k5, .slice x6 T.S.T.t.length k6, .slice x7 T.S.T.e.length k7, .slice x8 T.S.T.m.length k8, .slice x9 T.S.o.length k9, .slice x10 T.S.a.length k10, .int .i64 T.T.S.ob, .slice x11 T.T.S.s.length k11, .slice x12 T.T.S.t.length k12, .slice x13 T.T.S.e.length k13, .slice x14 T.T.S.m.length k14, .int .i64 T.T.T.ob, .slice x15 T.T.T.s.length k15, .slice x16 T.T.T.t.length k16, .slice x17 T.T.T.e.length k17, .slice x18 T.T.T.m.length k18, .slice x19 T.T.o.length k19, .slice x20 T.T.a.length k20, .slice x21 T.c.length k21]) (h1 : InF w (.agg #[.int .i64 T.S.S.ob, .slice x1 T.S.S.s.length k1, .slice x2 T.S.S.t.length k2, .slice x3 T.S.S.e.length k3, .slice x4 T.S.S.m.length k4, .int .i64 T.S.T.ob, .slice x5 T.S.T.s.length k5, .slice x6 T.S.T.t.length k6, .slice x7 T.S.T.e.length k7, .slice x8 T.S.T.m.length k8, .slice x9 T.S.o.length k9, .slice x10 T.S.a.length k10]) T.S) (h2 : InF w (.agg #[.int .i64 T.T.S.ob, .slice x11 T.T.S.s.length k11, .slice x12 T.T.S.t.length k12, .slice x13 T.T.S.e.length k13, .slice x14 T.T.S.m.length k14, .int .i64 T.T.T.ob, .slice x15 T.T.T.s.length k15, .slice x16 T.T.T.t.length k16, .slice x17 T.T.T.e.length k17, .slice x18 T.T.T.m.length k18, .slice x19 T.T.o.length k19, .slice x20 T.T.a.length k20]) T.T) (h3 : In w (.slice x21 T.c.length k21) T.c) : TrN w v T
section
variable {w0 : World} {is : List Itm} {ops : Array Oper} {Q : Exit → Act → World → Prop} {o : Oper} {rest : List Oper} {N : Frm} {n m : Nat} {e : Env} {v : Value} {d : Nat} {K : Act → World → Prop} {f : FuncId} {fn : Func} {ags : Array Operand} {ts : Array TypeId} {vs : List Value}
end
end Go.Proofs.YtfnneogadciimaaDoor
set_option linter.unusedSimpArgs false
set_option linter.unusedVariables false
set_option linter.unusedSectionVars false
namespace Go.Proofs.YtfnneogadciimaaDoor
open Go.RowKit
section
variable {w0 : World} {is : List Itm} {ops : Array Oper} {Q : Exit → Act → World → Prop} {o : Oper} {rest : List Oper} {N : Frm} {e : Env} {v : Value} {d : Nat} {K : Act → World → Prop}
theorem go_appendA {s x : Operand} {t : TypeId} {n : Nat} {xs ys : List Int} {ua : Option Addr} {un uc : Nat} (hd : o.dst = some d) (hN : Nat.blt d N = true) (hop : o.op = .call { callee := .builtin .append, args := #[s, x], argTypes := #[t, t] }) (ht : Tryd.prog.underlying t = some (.slice 2))
  (hs : evo e s = some v) (hx : evo e x = some (.slice ua un uc)) (hi : is[n]? = some (own1I v xs)) (hj : ∀ w, Mem w0 w is → Rd w (.slice ua un uc) ys) (hn : xs.length + ys.length ≤ 17592186044415)
  (hk : ∀ a cap, GK w0 (is.set n (own1I (.slice a (xs ++ ys).length cap) (xs ++ ys))) N K ((d, .slice a (xs ++ ys).length cap) :: e)) : GO w0 is N o e Q K := by
 cases ua with
 | some q => exact go_appendL hd hN hop ht hs hx hi hj rfl hn hk
 | none =>
  intro w ac M F
  obtain ⟨ad, cap, hv, _, hc⟩ := hj w M
  have hy : ys = [] := by
   rcases Nat.eq_zero_or_pos ys.length with h0 | h0
   ·exact List.eq_nil_of_length_eq_zero h0
   ·obtain ⟨b, off, ha, _⟩ := hc 0 h0
    subst ha; cases hv
  subst hy
  simp only [Value.slice.injEq, List.length_nil] at hv
  obtain ⟨_, rfl, _⟩ := hv
  simp only [List.append_nil] at hk
  obtain ⟨S, hS, hp, hset⟩ := mem_set M hi
  have hp : Own1 v xs w S := hp
  obtain ⟨va, vc, hvf, _⟩ := sl_form hp.1
  obtain ⟨i, hi', hz, hs1, hb⟩ := info_parts info64
  have hr : (Builtin.append_ #[t, t] o.type #[v, .slice none 0 uc]).run Tryd.prog w = .ok v w := by
   rcases hp.1.1.2 with ⟨rfl, _⟩ | ⟨g, cap, cur, rfl, _, _, hnc, _⟩
   ·simp [Builtin.append_, run_underlying ht, sizeOf, typeInfo, hi', Builtin.lenOf, Builtin.firstCells]
   ·simp [Builtin.append_, run_underlying ht, sizeOf, typeInfo, hi', Builtin.lenOf, Builtin.firstCells, hnc, storeCells]
  subst hvf
  have hM : Mem w0 w (is.set n (own1I (.slice va xs.length vc) xs)) := by
   have : is.set n (own1I (.slice va xs.length vc) xs) = is := by
    have h1 := (List.getElem?_eq_some_iff.1 hi)
    obtain ⟨hlt, he⟩ := h1
    rw [← he, List.set_getElem_self]
   rw [this]; exact M
  refine go_val (v := .slice va xs.length vc) (w' := w) hd hN F ?_ fun ac F => hk va vc w ac hM F
  intro ρ F; have hs := F _ _ hs; have hx := F _ _ hx
  simp only [execOp, hop, resolve, invoke, builtin, Sem.run_bind, Sem.run_pure, Result.andThen_ok, List.map_toArray, List.map_cons, List.map_nil, hs, hx]
  rw [hr]
  rfl
end
set_option maxHeartbeats 1000000 in
set_option maxRecDepth 100000 in
theorem specOwn_any (w : World) (v : Value) (xs : List Int) (h : Rd w v xs) :
  Calls Tryd.prog 84 #[v] w (RetL w xs) := by
 obtain ⟨va, vc, rfl⟩ := rd_form h
 have hxl : xs.length ≤ 17592186044415 := by obtain ⟨_, _, _, hl, _⟩ := h; exact hl
 go_enter Tryd.func84, Tryd.ntmps84
 refine gc_enter (N := 6) rfl (look_cons (k := 0) rfl (look_nil _)) ?_
 refine gc_sr fun K1 hK1 => ?_
 refine gas ?_
 refine gnt (hK1 _ _ ?_)
 refine gc_sr fun K2 hK2 => ?_
 refine gop fun K4 hK4 => ?_
 refine go_slice0 rfl rfl rfl Tryd.underlying22 ?_
 intro B3
 refine hK4 _ _ ?_
 refine gm ?_
 refine gop fun K6 hK6 => ?_
 refine go_appendA (n := 0) rfl rfl rfl Tryd.underlying22 rfl rfl rfl (fun w M => mem_rd M h) (by first | simp; omega | omega) ?_
 intro va5 vc5
 refine hK6 _ _ ?_
 refine gas ?_
 refine gnt (hK2 _ _ ?_)
 refine gc_ret ?_
 refine ret_1 rfl rfl  (fun w M => ?_)
 exact ⟨_, rfl, mem_own1 (n := 0) M rfl, M.1⟩
end Go.Proofs.YtfnneogadciimaaDoor
set_option linter.unusedSimpArgs false
set_option linter.unusedVariables false
set_option linter.unusedSectionVars false
namespace Go.Proofs.YtfnneogadciimaaDoor
open Go.RowKit
end Go.Proofs.YtfnneogadciimaaDoor
set_option linter.unusedSimpArgs false
set_option linter.unusedVariables false
set_option linter.unusedSectionVars false
namespace Go.Proofs.YtfnneogadciimaaDoor
open Go.RowKit
end Go.Proofs.YtfnneogadciimaaDoor
set_option linter.unusedSimpArgs false
set_option linter.unusedVariables false
set_option linter.unusedSectionVars false
namespace Go.Proofs.YtfnneogadciimaaDoor
open Go.RowKit
end Go.Proofs.YtfnneogadciimaaDoor
set_option linter.unusedSimpArgs false
set_option linter.unusedVariables false
set_option linter.unusedSectionVars false
namespace Go.Proofs.YtfnneogadciimaaDoor
open Go.RowKit
end Go.Proofs.YtfnneogadciimaaDoor
set_option linter.unusedSimpArgs false
set_option linter.unusedVariables false
set_option linter.unusedSectionVars false
namespace Go.Proofs.YtfnneogadciimaaDoor
open Go.RowKit
end Go.Proofs.YtfnneogadciimaaDoor
set_option linter.unusedSimpArgs false
set_option linter.unusedVariables false
set_option linter.unusedSectionVars false
namespace Go.Proofs.YtfnneogadciimaaDoor
open Go.RowKit
section
variable {w0 : World} {is : List Itm} {ops : Array Oper} {o : Oper} {N : Frm} {e : Env} {v r : Value} {d : Nat}
theorem qt_makeFB2 {f : Fn} {x : Operand} (hop : o.op = .makeFunc f #[x] #[]) (hx : evo e x = some r) : QV w0 is o e (.func f #[r] #[]) := fun w ρ M F => by
  have hx := F _ _ hx
  simp [execOp, hop, hx, Instr.makeFunc]
theorem qt_loadRQ {x : Operand} {t tb : TypeId} {B j z : Nat} {cs : List Value} {td : TypeDesc} (hb : BxV w0 B tb (.agg cs.toArray)) (hop : o.op = .load t x) (hx : evo e x = some (.pointer (some ⟨B, j, none⟩))) (ht : Tryd.prog.underlying t = some td) (hd : td.isRow = true)
    (hs : (Tryd.prog.info? t).map (·.size) = some z) (hl : j + z ≤ cs.length) : QV w0 is o e (.agg ((cs.drop j).take z).toArray) :=
  fun w ac M F => by
    have hx := F _ _ hx
    have hbx := mem_bxR M hb
    have hc : w.rangeAt B j ((cs.drop j).take z) := fun i u hu => by
      refine bx_cell hbx (j + i) ?_
      rw [List.getElem?_take] at hu
      split at hu
      · rw [List.getElem?_drop] at hu; exact hu
      · cases hu
    have hlen : ((cs.drop j).take z).length = z := by simp; omega
    simp only [execOp, hop, hx, Sem.run_bind, run_loadAt_mid w B j t _ td hc ht hd (by rw [hs, hlen]), Result.andThen_ok]
    rfl
end
end Go.Proofs.YtfnneogadciimaaDoor
set_option linter.unusedSimpArgs false
set_option linter.unusedVariables false
set_option linter.unusedSectionVars false
namespace Go.Proofs.YtfnneogadciimaaDoor
open Go.RowKit
theorem ext_at0 {xs ys : List Int} (hl : xs.length = ys.length) (h : ∀ j : Nat, j < xs.length → at0 xs (j : Int) = at0 ys (j : Int)) : xs = ys := by
  refine List.ext_getElem hl fun j h1 h2 => ?_
  have := h j h1
  rw [at0_nat, at0_nat, List.getD_eq_getElem?_getD, List.getD_eq_getElem?_getD, List.getElem?_eq_getElem h1, List.getElem?_eq_getElem h2] at this
  exact this
set_option maxHeartbeats 1000000 in
set_option maxRecDepth 100000 in
theorem slEqual_any (w : World) (v : Value) (xs : List Int) (u : Value) (ys : List Int) (hv : Rd w v xs) (hu : Rd w u ys) :
    Calls Tryd.prog 123 #[v, u] w (RetB w (decide (xs = ys))) := by
  obtain ⟨va, vc, rfl⟩ := rd_form hv
  obtain ⟨ua, uc, rfl⟩ := rd_form hu
  have hxl : xs.length ≤ 17592186044415 := by obtain ⟨_, _, _, hl, _⟩ := hv; exact hl
  go_enter Tryd.func123, Tryd.ntmps123
  refine gc_enter (N := 26) rfl (look_cons (k := 0) rfl (look_cons (k := 1) rfl (look_nil _))) ?_
  refine gc_seq fun K1 hK1 => ?_
  refine gc_region ?_
  refine g_v (.free rfl) rfl rfl (qt_assign rfl rfl) ?_
  refine g_nil ?_
  refine gk_then (hK1 _ _ ?_)
  refine gc_seq fun K2 hK2 => ?_
  refine gc_seq fun K3 hK3 => ?_
  refine gc_region ?_
  refine g_v (.free rfl) rfl rfl (qt_move rfl rfl) ?_
  refine g_v (.free rfl) rfl rfl (qt_len rfl rfl ulE1 (fun w M => lenV_rd hv)) ?_
  refine g_v (.free rfl) rfl rfl (qt_move rfl rfl) ?_
  refine g_v (.free rfl) rfl rfl (qt_len rfl rfl ulE1 (fun w M => lenV_rd hu)) ?_
  refine g_v (.free rfl) rfl rfl (qt_neq rfl rfl rfl) ?_
  refine g_nil ?_
  refine gk_then (hK3 _ _ ?_)
  refine gc_cond rfl (fun hc0 => ?_) (fun hc0 => ?_)
  · try simp only [decide_eq_true_eq, decide_eq_false_iff_not, Bool.not_eq_true', Bool.not_eq_false', Bool.not_eq_eq_eq_not, Bool.not_true, Bool.not_false, ne_eq, Decidable.not_not, Classical.not_not] at hc0
    refine gc_seq fun K4 hK4 => ?_
    refine gc_region ?_
    refine g_v (.free rfl) rfl rfl (qt_assign rfl rfl) ?_
    refine g_nil ?_
    refine gk_then (hK4 _ _ ?_)
    refine gc_ret ?_
    refine gk_then_ret ?_
    refine ret_1 rfl rfl  (fun w M => ?_)
    rw [decide_eq_false fun h => hc0 (by rw [h])]; exact ⟨rfl, M.1⟩
  · try simp only [decide_eq_true_eq, decide_eq_false_iff_not, Bool.not_eq_true', Bool.not_eq_false', Bool.not_eq_eq_eq_not, Bool.not_true, Bool.not_false, ne_eq, Decidable.not_not, Classical.not_not] at hc0
    refine gc_skip ?_
    refine gk_then (hK2 _ _ ?_)
    refine gc_seq fun K5 hK5 => ?_
    refine gc_seq fun K6 hK6 => ?_
    refine gc_region ?_
    refine g_v (.free rfl) rfl rfl (qt_move rfl rfl) ?_
    refine g_v (.free rfl) rfl rfl (qt_len rfl rfl ulE1 (fun w M => lenV_rd hv)) ?_
    refine g_v (.free rfl) rfl rfl (qt_move rfl rfl) ?_
    refine g_nil ?_
    refine gk_then (hK6 _ _ ?_)
    refine gc_block ?_
    try simp only [List.nil_append, List.cons_append, List.append_assoc, List.set_cons_succ, List.set_cons_zero]
    refine gc_loop ([(0, _), (1, _), (10, _), (12, _)] : Env) (fun s : Nat => (fun (k : Nat) => ([(13, .int .i64 (k : Int))] : Env)) s) (fun s : Nat => (fun (k : Nat) => ([] : List (Nat × Itm))) s) (fun s : Nat => (fun (k : Nat) => k ≤ xs.length ∧ ∀ j : Nat, j < k → at0 xs (j : Int) = at0 ys (j : Int)) s) (fun s : Nat => (fun (k : Nat) => xs.length - k) s) (0) (sub_cons rfl (sub_cons rfl (sub_cons rfl (sub_cons rfl (sub_cons rfl sub_nil))))) rfl ⟨Nat.zero_le _, fun j hj => absurd hj (by omega)⟩ ?_
    rintro k hinv KL7 hKL7
    simp only [updL, List.foldl_cons, List.foldl_nil, List.set_cons_succ, List.set_cons_zero, List.cons_append, List.nil_append] at hinv hKL7 ⊢
    obtain ⟨hk, hj⟩ := hinv
    refine gc_seq fun K8 hK8 => ?_
    refine gc_region ?_
    refine g_v (.free rfl) rfl rfl (qt_lss rfl rfl rfl) ?_
    refine g_nil ?_
    refine gk_then (hK8 _ _ ?_)
    refine gc_seq fun K9 hK9 => ?_
    refine gc_cond rfl (fun hc1 => ?_) (fun hc1 => ?_)
    · try simp only [decide_eq_true_eq, decide_eq_false_iff_not, Bool.not_eq_true', Bool.not_eq_false', Bool.not_eq_eq_eq_not, Bool.not_true, Bool.not_false, ne_eq, Decidable.not_not, Classical.not_not] at hc1
      refine gc_skip ?_
      refine gk_then (hK9 _ _ ?_)
      refine gc_seq fun K10 hK10 => ?_
      refine gc_block ?_
      refine gc_seq fun K11 hK11 => ?_
      refine gc_region ?_
      refine g_v (.free rfl) rfl rfl (qt_move rfl rfl) ?_
      refine g_v (.free rfl) rfl rfl (qt_assign rfl rfl) ?_
      refine g_nil ?_
      refine gk_then (hK11 _ _ ?_)
      refine gc_seq fun K12 hK12 => ?_
      refine gc_draw (by kernel_rfl) ?_
      refine gd_v (.free rfl) rfl rfl (qt_move rfl rfl) ?_
      refine gd_v (.free rfl) rfl rfl (qt_move rfl rfl) ?_
      refine gd_v (.free rfl) rfl rfl (qt_index rfl rfl rfl ulE1 szE1 (fun w M => lenA_rd hv) (by omega) (by omega)) ?_
      refine gd_v (.free rfl) rfl rfl (qt_load1 rfl rfl Tryd.underlying2 rfl (fun w M => mem_rd M hv) (by omega) (by omega)) ?_
      refine gd_v (.free rfl) rfl rfl (qt_move rfl rfl) ?_
      refine gd_v (.free rfl) rfl rfl (qt_move rfl rfl) ?_
      refine gd_v (.free rfl) rfl rfl (qt_index rfl rfl rfl ulE1 szE1 (fun w M => lenA_rd hu) (by omega) (by omega)) ?_
      refine gd_v (.free rfl) rfl rfl (qt_load1 rfl rfl Tryd.underlying2 rfl (fun w M => mem_rd M hu) (by omega) (by omega)) ?_
      refine gd_v (.free rfl) rfl rfl (qt_neq rfl rfl rfl) ?_
      refine gd_nil ?_
      refine gk_then (hK12 _ _ ?_)
      refine gc_cond rfl (fun hc2 => ?_) (fun hc2 => ?_)
      · try simp only [decide_eq_true_eq, decide_eq_false_iff_not, Bool.not_eq_true', Bool.not_eq_false', Bool.not_eq_eq_eq_not, Bool.not_true, Bool.not_false, ne_eq, Decidable.not_not, Classical.not_not] at hc2
        refine gc_seq fun K13 hK13 => ?_
        refine gc_region ?_
        refine g_v (.free rfl) rfl rfl (qt_assign rfl rfl) ?_
        refine g_nil ?_
        refine gk_then (hK13 _ _ ?_)
        refine gc_ret ?_
        refine gk_block_ret ?_
        refine gk_then_ret ?_
        refine gk_then_ret ?_
        refine gk_block_ret ?_
        refine gk_then_ret ?_
        refine ret_1 rfl rfl  (fun w M => ?_)
        rw [decide_eq_false fun h => hc2 (by rw [h])]; exact ⟨rfl, M.1⟩
      · try simp only [decide_eq_true_eq, decide_eq_false_iff_not, Bool.not_eq_true', Bool.not_eq_false', Bool.not_eq_eq_eq_not, Bool.not_true, Bool.not_false, ne_eq, Decidable.not_not, Classical.not_not] at hc2
        refine gc_skip ?_
        refine gk_block ?_
        refine gk_then (hK10 _ _ ?_)
        refine gc_region ?_
        refine g_v (.free rfl) rfl rfl (qt_add rfl rfl rfl (by omega)) ?_
        refine g_v (.free rfl) rfl rfl (qt_move rfl rfl) ?_
        refine g_nil ?_
        refine gk_then (gk_take 0 ?_)
        refine gk_sub ?hs_14 (hKL7 (k + 1) ?hi_14 ?hm_14)
        case hs_14 => exact (sub_cons rfl (sub_cons rfl (sub_cons rfl (sub_cons rfl (sub_cons rfl sub_nil)))))
        case hi_14 => exact ⟨by omega, all_next0 hj hc2⟩
        case hm_14 => omega
    · try simp only [decide_eq_true_eq, decide_eq_false_iff_not, Bool.not_eq_true', Bool.not_eq_false', Bool.not_eq_eq_eq_not, Bool.not_true, Bool.not_false, ne_eq, Decidable.not_not, Classical.not_not] at hc1
      refine gc_exit ?_
      refine gk_then_exit ?_
      refine gk_then_exit ?_
      refine gk_block_hit ?_
      refine gk_then (hK5 _ _ ?_)
      refine gc_seq fun K15 hK15 => ?_
      refine gc_region ?_
      refine g_v (.free rfl) rfl rfl (qt_assign rfl rfl) ?_
      refine g_nil ?_
      refine gk_then (hK15 _ _ ?_)
      refine gc_ret ?_
      refine ret_1 rfl rfl  (fun w M => ?_)
      rw [decide_eq_true (ext_at0 (by omega) fun j h => hj j (by omega))]; exact ⟨rfl, M.1⟩
end Go.Proofs.YtfnneogadciimaaDoor
