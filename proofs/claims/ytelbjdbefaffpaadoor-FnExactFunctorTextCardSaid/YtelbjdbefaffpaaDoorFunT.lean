
/- The text of a functor: both sides. -/
import Derived.Test.YtelbjdbefaffpaaDoorIsF
import Derived.Test.YtelbjdbefaffpaaDoorCatT
set_option linter.unusedSimpArgs false
set_option linter.unusedVariables false
set_option linter.unusedSectionVars false
namespace Go.Proofs.YtelbjdbefaffpaaDoor
open Go.RowKit


theorem fill2 (f : Nat → Value) (a b : Value) : ((Array.map f (Array.range 2)).setIfInBounds 0 a).setIfInBounds 1 b = #[a, b] := by
  apply Array.ext'
  simp only [Array.toList_setIfInBounds, Array.toList_map, Array.toList_range]
  rfl
theorem rdTT_2 {w : World} {B : Nat} {v1 v2 : Value} {l1 l2 : List (List UInt8)} (hb : Bx w B 58 [v1, v2]) (h1 : RdTx w v1 l1) (h2 : RdTx w v2 l2) : RdTT w (.slice (some ⟨B, 0, none⟩) 2 2) [l1, l2] := by
  have hc : w.heap[B]? = some (.cells #[v1, v2] 58 (0, 0)) := hb
  refine ⟨_, _, rfl, by simp, fun _ => ⟨B, 0, rfl, (Array.getElem?_eq_some_iff.1 hc).1, fun j hj => ?_⟩⟩
  match j, hj with
  | 0, _ => exact ⟨v1, by simp [World.cell?, hc], h1⟩
  | 1, _ => exact ⟨v2, by simp [World.cell?, hc], h2⟩
  | n + 2, hj => simp at hj; omega
section
variable {w0 : World} {is : List Itm} {ops : Array Oper} {Q : Exit → Act → World → Prop} {o : Oper} {rest : List Oper} {N n m : Nat} {e : Env} {v : Value} {d : Nat} {K : Act → World → Prop}
theorem go_sliceTT2 {t : TypeId} {x1 x2 : Operand} {a1 a2 : Option Addr} {n1 n2 c1 c2 : Nat} (hd : o.dst = some d) (hN : Nat.blt d N = true) (hop : o.op = .buildSlice t 2 #[(0, x1), (1, x2)]) (h1 : evo e x1 = some (.slice a1 n1 c1)) (h2 : evo e x2 = some (.slice a2 n2 c2)) (ht : t = 73)
    (hk : ∀ B : Nat, GK w0 (is ++ [bxI B 58 [.slice a1 n1 c1, .slice a2 n2 c2]]) N K ((d, .slice (some ⟨B, 0, none⟩) 2 2) :: e)) : GO w0 is N o e Q K := by
  subst ht
  intro w ac M F
  refine go_val (v := .slice (some ⟨w.heap.size, 0, none⟩) 2 2) (w' := w.alloc (.cells #[.slice a1 n1 c1, .slice a2 n2 c2] 58)) hd hN F ?_ fun ac F => hk _ _ ac (mem_new M (below_alloc w _) ⟨heap_alloc_new w _, Nat.le_refl _⟩) F
  intro ρ F; have h1 := F _ _ h1; have h2 := F _ _ h2
  obtain ⟨i, hi, hz, hs, hb⟩ := info_parts infoTx
  simp [execOp, hop, h1, h2, Instr.buildSlice, run_underlying ulTT, sizeOf, typeInfo, hi, hs, Instr.fill, newRow, zeroValue, hz, Value.cells, Sem.run_bind]
  rw [fill2]
end
def objT (F : Fct) : List (List UInt8) := tabT (fun j => dec (at0 F.o (j : Int))) F.o.length
def arrT (F : Fct) : List (List UInt8) := tabT (fun j => dec (at0 F.a (j : Int))) F.a.length
def ftextT (F : Fct) : List UInt8 := joinT [objT F, arrT F]
theorem ftextT_eq (F : Fct) : ftextT F = cat (cat (partT (objT F)) [32, 124, 32]) (partT (arrT F)) := by
  have e : tabT (fun j => partT (atT [objT F, arrT F] (j : Int))) [objT F, arrT F].length = [partT (objT F), partT (arrT F)] := rfl
  unfold ftextT joinT
  rw [e, Lib.join_cons]
  simp [Lib.joinTail, cat]
theorem allP_100 {n : Int} {xs : List Int} (h : AllP n xs) (hn : n ≤ 100) : AllP 100 xs := fun x hx => ⟨(h x hx).1, by have := (h x hx).2; omega⟩
theorem isf_o {F : Fct} (h : IsFct F) : AllP 100 F.o := allP_100 h.io (by have := (isCat_of h.ct).toShapeP.ob8; omega)
theorem isf_a {F : Fct} (h : IsFct F) : AllP 100 F.a := allP_100 h.ia (by have := (isCat_of h.ct).toShapeP.n40; omega)
theorem tabD_len {xs : List Int} (h : AllP 100 xs) (hl : xs.length ≤ 100) : (partT (tabT (fun j => dec (at0 xs (j : Int))) xs.length)).length ≤ 301 := by
  have := partT_len (tabT (fun j => dec (at0 xs (j : Int))) xs.length) 2 (fun l hl => by
    obtain ⟨j, hj, rfl⟩ := tabT_mem hl
    have h := allP_at h (k := j) (by omega)
    exact dec_len h.1 h.2)
  rw [tabT_len] at this; omega
theorem isf_ol {F : Fct} (h : IsFct F) : F.o.length ≤ 100 := by have := (isCat_of h.cs).toShapeP.ob8; have := h.lo; omega
theorem isf_al {F : Fct} (h : IsFct F) : F.a.length ≤ 100 := by have := (isCat_of h.cs).toShapeP.n40; have := h.la; omega
theorem objT_len {F : Fct} (h : IsFct F) : (partT (objT F)).length ≤ 301 := tabD_len (isf_o h) (isf_ol h)
theorem arrT_len {F : Fct} (h : IsFct F) : (partT (arrT F)).length ≤ 301 := tabD_len (isf_a h) (isf_al h)
theorem ftext_len {F : Fct} (h : IsFct F) : (joinT [objT F, arrT F]).length ≤ 1000000 := by
  have h1 := objT_len h; have h2 := arrT_len h
  have e := ftextT_eq F
  unfold ftextT at e
  rw [e]; simp only [cat_len, List.length_cons, List.length_nil]; omega
theorem fparts_len {F : Fct} (h : IsFct F) : ∀ j : Nat, j < [objT F, arrT F].length → (partT (atT [objT F, arrT F] (j : Int))).length ≤ 1000000 := by
  intro j hj
  have h1 := objT_len h; have h2 := arrT_len h
  match j, hj with
  | 0, _ => show (partT (objT F)).length ≤ _; omega
  | 1, _ => show (partT (arrT F)).length ≤ _; omega
  | n + 2, hj => simp at hj; omega
noncomputable def fFunctorText (F : Fct) : List UInt8 × Int := if fIsFunctor F = true then (ftextT F, 0) else ([], 1)
theorem ft_t {F : Fct} (h : fIsFunctor F = true) : fFunctorText F = (ftextT F, 0) := if_pos h
theorem ft_f {F : Fct} (h : fIsFunctor F = false) : fFunctorText F = ([], 1) := if_neg (by rw [h]; decide)

set_option maxHeartbeats 1000000 in
set_option maxRecDepth 100000 in
theorem specFun_any (w : World) (v : Value) (F : Fct) (h : RdF w v F) (hf : fIsFunctor F = true) :
    Calls Tryd.prog 29 #[v] w (RetS w (ftextT F)) := by
  have h0 := h
  obtain ⟨vx1, vx2, vx3, vx4, vx5, vx6, vx7, vx8, vx9, vx10, vk1, vk2, vk3, vk4, vk5, vk6, vk7, vk8, vk9, vk10, rfl, h1, h2, h3, h4, h5, h6, h7, h8, h9, h10⟩ := h.lists
  go_enter Tryd.func29, Tryd.ntmps29
  refine gc_enter (N := 11) rfl (look_cons (k := 0) rfl (look_nil _)) ?_
  refine gc_seq fun K1 hK1 => ?_
  refine gc_region ?_
  refine g_op (.free rfl) fun K3 hK3 => ?_
  refine go_box rfl rfl rfl rfl rfl ?_
  intro B2
  refine hK3 _ _ ?_
  refine g_v (.free rfl) rfl rfl (qt_assign rfl rfl) ?_
  refine g_nil ?_
  refine gk_then (hK1 _ _ ?_)
  refine gc_seq fun K4 hK4 => ?_
  have hF := isf_of hf
  have ho := isf_o hF; have ha := isf_a hF; have hol := isf_ol hF; have hal := isf_al hF
  have q1 := objT_len hF; have q2 := arrT_len hF
  have q3 : (partT (tabT (fun j => dec (at0 F.o (j : Int))) F.o.length)).length ≤ 301 := q1
  have q4 : (partT (tabT (fun j => dec (at0 F.a (j : Int))) F.a.length)).length ≤ 301 := q2
  refine gc_draw (by kernel_rfl) ?_
  refine gd_v (.free rfl) rfl rfl (qt_field (z := 0) (off := 10) rfl rfl Tryd.underlying38 rfl (by kernel_rfl) rfl) ?_
  refine gd_v (.free rfl) rfl rfl (qt_loadB (n := 0) rfl rfl Tryd.underlying22 rfl rfl rfl) ?_
  refine gd_q (.free rfl) rfl rfl (qt_call rfl Tryd.func42 rfl (by decide) rfl (fun w M => specList_any w _ _ (mem_rd M h9) (by first | assumption | omega) (by first | assumption | omega))) ?_
  refine gd_v (.free rfl) rfl rfl (qt_addS rfl rfl rfl (by simp only [cat_len, List.length_cons, List.length_nil]; omega)) ?_
  refine gd_v (.free rfl) rfl rfl (qt_field (z := 0) (off := 11) rfl rfl Tryd.underlying38 rfl (by kernel_rfl) rfl) ?_
  refine gd_v (.free rfl) rfl rfl (qt_loadB (n := 0) rfl rfl Tryd.underlying22 rfl rfl rfl) ?_
  refine gd_q (.free rfl) rfl rfl (qt_call rfl Tryd.func42 rfl (by decide) rfl (fun w M => specList_any w _ _ (mem_rd M h10) (by first | assumption | omega) (by first | assumption | omega))) ?_
  refine gd_v (.free rfl) rfl rfl (qt_addS rfl rfl rfl (by simp only [cat_len, List.length_cons, List.length_nil]; omega)) ?_
  refine gd_v (.free rfl) rfl rfl (qt_assign rfl rfl) ?_
  refine gd_nil ?_
  refine gk_then (hK4 _ _ ?_)
  refine gc_ret ?_
  refine ret_1 rfl rfl  (fun w M => ?_)
  rw [ftextT_eq]; exact ⟨rfl, M.1⟩

set_option maxHeartbeats 1000000 in
set_option maxRecDepth 100000 in
theorem spec_FunctorText (w : World) (v : Value) (F : Fct) (h : RdF w v F) :
    Calls Tryd.prog 12 #[v] w (RetSI w (fFunctorText F).1 (fFunctorText F).2) := by
  have h0 := h
  obtain ⟨vx1, vx2, vx3, vx4, vx5, vx6, vx7, vx8, vx9, vx10, vk1, vk2, vk3, vk4, vk5, vk6, vk7, vk8, vk9, vk10, rfl, h1, h2, h3, h4, h5, h6, h7, h8, h9, h10⟩ := h.lists
  go_enter Tryd.func12, Tryd.ntmps12
  refine gc_enter (N := 9) rfl (look_cons (k := 0) rfl (look_nil _)) ?_
  refine gc_seq fun K1 hK1 => ?_
  refine gc_region ?_
  refine g_op (.free rfl) fun K3 hK3 => ?_
  refine go_box rfl rfl rfl rfl rfl ?_
  intro B2
  refine hK3 _ _ ?_
  refine g_v (.free rfl) rfl rfl (qt_assign rfl rfl) ?_
  refine g_v (.free rfl) rfl rfl (qt_assign rfl rfl) ?_
  refine g_nil ?_
  refine gk_then (hK1 _ _ ?_)
  refine gc_seq fun K4 hK4 => ?_
  refine gc_seq fun K5 hK5 => ?_
  refine gc_region ?_
  refine g_v (.free rfl) rfl rfl (qt_loadS (n := 0) rfl rfl Tryd.underlying38 rfl (by kernel_rfl) rfl) ?_
  refine g_q (.free rfl) rfl rfl (qt_call rfl Tryd.func28 rfl (by decide) rfl (fun w M => specIsF_any w _ (by first | assumption | omega) (mem_rdF M h0))) ?_
  refine g_v (.free rfl) rfl rfl (qt_not rfl rfl) ?_
  refine g_nil ?_
  refine gk_then (hK5 _ _ ?_)
  refine gc_cond rfl (fun hc0 => ?_) (fun hc0 => ?_)
  · try simp only [decide_eq_true_eq, decide_eq_false_iff_not, Bool.not_eq_true', Bool.not_eq_false', Bool.not_eq_eq_eq_not, Bool.not_true, Bool.not_false, ne_eq, Decidable.not_not, Classical.not_not] at hc0
    refine gc_seq fun K6 hK6 => ?_
    refine gc_region ?_
    refine g_v (.free rfl) rfl rfl (qt_assign rfl rfl) ?_
    refine g_v (.free rfl) rfl rfl (qt_assign rfl rfl) ?_
    refine g_nil ?_
    refine gk_then (hK6 _ _ ?_)
    refine gc_ret ?_
    refine gk_then_ret ?_
    refine ret_2 rfl rfl rfl  (fun w M => ?_)
    rw [ft_f hc0]; exact ⟨rfl, M.1⟩
  · try simp only [decide_eq_true_eq, decide_eq_false_iff_not, Bool.not_eq_true', Bool.not_eq_false', Bool.not_eq_eq_eq_not, Bool.not_true, Bool.not_false, ne_eq, Decidable.not_not, Classical.not_not] at hc0
    refine gc_skip ?_
    refine gk_then (hK4 _ _ ?_)
    refine gc_seq fun K7 hK7 => ?_
    refine gc_region ?_
    refine g_v (.free rfl) rfl rfl (qt_loadS (n := 0) rfl rfl Tryd.underlying38 rfl (by kernel_rfl) rfl) ?_
    refine g_q (.free rfl) rfl rfl (qt_call rfl Tryd.func29 rfl (by decide) rfl (fun w M => specFun_any w _ (by first | assumption | omega) (mem_rdF M h0) (by first | assumption | omega))) ?_
    refine g_v (.free rfl) rfl rfl (qt_assign rfl rfl) ?_
    refine g_v (.free rfl) rfl rfl (qt_assign rfl rfl) ?_
    refine g_nil ?_
    refine gk_then (hK7 _ _ ?_)
    refine gc_ret ?_
    refine ret_2 rfl rfl rfl  (fun w M => ?_)
    rw [ft_t hc0]; exact ⟨rfl, M.1⟩

set_option maxHeartbeats 1000000 in
set_option maxRecDepth 100000 in
theorem impl_FunctorText (w : World) (v : Value) (F : Fct) (h : RdF w v F) :
    Calls Tryd.prog 14 #[v] w (RetSI w (fFunctorText F).1 (fFunctorText F).2) := by
  have h0 := h
  obtain ⟨vx1, vx2, vx3, vx4, vx5, vx6, vx7, vx8, vx9, vx10, vk1, vk2, vk3, vk4, vk5, vk6, vk7, vk8, vk9, vk10, rfl, h1, h2, h3, h4, h5, h6, h7, h8, h9, h10⟩ := h.lists
  go_enter Tryd.func14, Tryd.ntmps14
  refine gc_enter (N := 15) rfl (look_cons (k := 0) rfl (look_nil _)) ?_
  refine gc_seq fun K1 hK1 => ?_
  refine gc_region ?_
  refine g_op (.free rfl) fun K3 hK3 => ?_
  refine go_box rfl rfl rfl rfl rfl ?_
  intro B2
  refine hK3 _ _ ?_
  refine g_v (.free rfl) rfl rfl (qt_assign rfl rfl) ?_
  refine g_v (.free rfl) rfl rfl (qt_assign rfl rfl) ?_
  refine g_nil ?_
  refine gk_then (hK1 _ _ ?_)
  refine gc_seq fun K4 hK4 => ?_
  refine gc_seq fun K5 hK5 => ?_
  refine gc_region ?_
  refine g_v (.free rfl) rfl rfl (qt_loadS (n := 0) rfl rfl Tryd.underlying38 rfl (by kernel_rfl) rfl) ?_
  refine g_q (.free rfl) rfl rfl (qt_call rfl Tryd.func30 rfl (by decide) rfl (fun w M => impl_IsFunctor w _ (by first | assumption | omega) (mem_rdF M h0))) ?_
  refine g_v (.free rfl) rfl rfl (qt_not rfl rfl) ?_
  refine g_nil ?_
  refine gk_then (hK5 _ _ ?_)
  refine gc_cond rfl (fun hc0 => ?_) (fun hc0 => ?_)
  · try simp only [decide_eq_true_eq, decide_eq_false_iff_not, Bool.not_eq_true', Bool.not_eq_false', Bool.not_eq_eq_eq_not, Bool.not_true, Bool.not_false, ne_eq, Decidable.not_not, Classical.not_not] at hc0
    refine gc_seq fun K6 hK6 => ?_
    refine gc_region ?_
    refine g_v (.free rfl) rfl rfl (qt_assign rfl rfl) ?_
    refine g_v (.free rfl) rfl rfl (qt_assign rfl rfl) ?_
    refine g_nil ?_
    refine gk_then (hK6 _ _ ?_)
    refine gc_ret ?_
    refine gk_then_ret ?_
    refine ret_2 rfl rfl rfl  (fun w M => ?_)
    rw [ft_f hc0]; exact ⟨rfl, M.1⟩
  · try simp only [decide_eq_true_eq, decide_eq_false_iff_not, Bool.not_eq_true', Bool.not_eq_false', Bool.not_eq_eq_eq_not, Bool.not_true, Bool.not_false, ne_eq, Decidable.not_not, Classical.not_not] at hc0
    refine gc_skip ?_
    refine gk_then (hK4 _ _ ?_)
    refine gc_seq fun K7 hK7 => ?_
    have hF := isf_of hc0
    have ho := isf_o hF; have ha := isf_a hF; have hol := isf_ol hF; have hal := isf_al hF
    have q1 := objT_len hF; have q2 := arrT_len hF
    have q3 : (partT (tabT (fun j => dec (at0 F.o (j : Int))) F.o.length)).length ≤ 301 := q1
    have q4 : (partT (tabT (fun j => dec (at0 F.a (j : Int))) F.a.length)).length ≤ 301 := q2
    try simp only [List.nil_append, List.cons_append, List.append_assoc, List.set_cons_succ, List.set_cons_zero]
    refine ga_start _ (fun w M => M) ?_
    refine ga_v 0 rfl (by kernel_rfl) (by kernel_rfl) (by kernel_rfl) (.free rfl) rfl rfl (qt_field (z := 0) (off := 10) rfl rfl Tryd.underlying38 rfl (by kernel_rfl) rfl) (fun _ _ _ h => h) ?_
    refine ga_v 1 rfl (by kernel_rfl) (by kernel_rfl) (by kernel_rfl) (.free rfl) rfl rfl (qt_loadB (n := 0) rfl rfl Tryd.underlying22 rfl rfl rfl) (fun _ _ _ h => h) ?_
    refine ga_v 3 rfl (by kernel_rfl) (by kernel_rfl) (by kernel_rfl) (.free rfl) rfl rfl (qt_field (z := 0) (off := 11) rfl rfl Tryd.underlying38 rfl (by kernel_rfl) rfl) (fun _ _ _ h => h) ?_
    refine ga_v 4 rfl (by kernel_rfl) (by kernel_rfl) (by kernel_rfl) (.free rfl) rfl rfl (qt_loadB (n := 0) rfl rfl Tryd.underlying22 rfl rfl rfl) (fun _ _ _ h => h) ?_
    refine ga_op 2 (by kernel_rfl) rfl (.free rfl) fun K9 hK9 => ?_
    refine go_callTx rfl rfl rfl Tryd.func32 rfl (by decide) rfl (fun w M => numberTexts_any w _ _ (mem_rd M h9) (by first | assumption | omega) (by first | assumption | omega)) ?_
    intro va8 vc8
    refine hK9 _ _ (fun w M => (mem_take 1 M :)) ?_
    refine ga_op 5 (by kernel_rfl) rfl (.free rfl) fun K11 hK11 => ?_
    refine go_callTx rfl rfl rfl Tryd.func32 rfl (by decide) rfl (fun w M => numberTexts_any w _ _ (mem_rd M h10) (by first | assumption | omega) (by first | assumption | omega)) ?_
    intro va10 vc10
    refine hK11 _ _ (fun w M => (mem_take 1 M :)) ?_
    refine ga_op 6 (by kernel_rfl) rfl (.free rfl) fun K13 hK13 => ?_
    refine go_sliceTT2 rfl rfl rfl rfl rfl rfl ?_
    intro B12
    refine hK13 _ _ (fun w M => (mem_take 1 M :)) ?_
    refine ga_op 7 (by kernel_rfl) rfl (.free rfl) fun K14 hK14 => ?_
    refine go_q rfl rfl (qt_call rfl Tryd.func31 rfl (by decide) rfl (fun w M => joinParts_any w _ ([objT F, arrT F]) (rdTT_2 (mem_bx (n := 3) M rfl) (mem_ownTx (n := 1) M rfl) (mem_ownTx (n := 2) M rfl)) (by simp) (fparts_len hF) (ftext_len hF))) ?_
    refine hK14 _ _ (fun w M => (mem_take 1 M :)) ?_
    refine ga_v 8 rfl (by kernel_rfl) (by kernel_rfl) (by kernel_rfl) (.free rfl) rfl rfl (qt_assign rfl rfl) (fun _ _ _ h => h) ?_
    refine ga_v 9 rfl (by kernel_rfl) (by kernel_rfl) (by kernel_rfl) (.free rfl) rfl rfl (qt_assign rfl rfl) (fun _ _ _ h => h) ?_
    refine ga_done (by kernel_rfl) ?_
    refine gk_then (hK7 _ _ ?_)
    refine gc_ret ?_
    refine ret_2 rfl rfl rfl  (fun w M => ?_)
    rw [ft_t hc0]; exact ⟨rfl, M.1⟩

end Go.Proofs.YtelbjdbefaffpaaDoor
