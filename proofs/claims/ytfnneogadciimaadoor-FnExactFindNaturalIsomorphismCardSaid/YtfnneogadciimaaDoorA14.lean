import Derived.Test.YtfnneogadciimaaDoorA10
import Derived.Test.YtfnneogadciimaaDoorA5
import Derived.Test.YtfnneogadciimaaDoorA11
import Derived.Test.YtfnneogadciimaaDoorA12
import Derived.Test.YtfnneogadciimaaDoorA13
import Derived.Test.YtfnneogadciimaaDoorA6
set_option linter.unusedSimpArgs false
set_option linter.unusedVariables false
set_option linter.unusedSectionVars false
namespace Go.Proofs.YtfnneogadciimaaDoor
open Go.RowKit
section
variable {w0 : World} {is : List Itm} {ops : Array Oper} {Q : Exit → Act → World → Prop} {o : Oper} {rest : List Oper} {N : Frm} {e : Env} {v u : Value} {d : Nat} {K : Act → World → Prop} {f : FuncId} {fn : Func} {ags : Array Operand} {ts : Array TypeId} {vs : List Value}
end
end Go.Proofs.YtfnneogadciimaaDoor
set_option linter.unusedSimpArgs false
set_option linter.unusedVariables false
set_option linter.unusedSectionVars false
namespace Go.Proofs.YtfnneogadciimaaDoor
open Go.RowKit
def accK (κ : Int → Bool) (ps : List Int) : Nat := ps.foldl (fun s p => if κ p = true then s ||| onlyN p else s) 0
theorem accK_t {κ : Int → Bool} {ps : List Int} {p : Int} (h : κ p = true) : accK κ (ps ++ [p]) = accK κ ps ||| onlyN p := by unfold accK; rw [List.foldl_append]; exact if_pos h
theorem accK_f {κ : Int → Bool} {ps : List Int} {p : Int} (h : ¬ κ p = true) : accK κ (ps ++ [p]) = accK κ ps := by unfold accK; rw [List.foldl_append]; exact if_neg h
theorem list_snoc2 {α : Type} {P : List α → Prop} (h0 : P []) (hs : ∀ xs x, P xs → P (xs ++ [x])) : ∀ xs, P xs := fun xs => by
  have : ∀ ys : List α, P ys.reverse := fun ys => by
    induction ys with
    | nil => exact h0
    | cons y ys ih => rw [List.reverse_cons]; exact hs _ _ ih
  simpa using this xs.reverse
theorem accK_lt (κ : Int → Bool) : ∀ ps : List Int, accK κ ps < 18446744073709551616 := list_snoc2 (by simp [accK]) fun ps p ih => by
  by_cases h : κ p = true
  · rw [accK_t h]; exact or_lt ih (only_lt p)
  · rw [accK_f h]; exact ih
def compA (c : Cat) (κ : Int → Bool) (x y : Int) : Nat := accK κ (homTo c x y c.s.length)
def compW (F G : Fct) (κ : Int → Bool) : List Nat := (List.range F.o.length).map fun (j : Nat) => compA F.T κ (at0 F.o (j : Int)) (at0 G.o (j : Int))
def fillW (φ : Nat → Nat) (n k : Nat) : List Nat := (List.range n).map fun j => if j < k then φ j else 0
theorem fillW_len (φ : Nat → Nat) (n k : Nat) : (fillW φ n k).length = n := by simp [fillW]
theorem fillW_get {φ : Nat → Nat} {n k j : Nat} (hj : j < n) : (fillW φ n k)[j]? = some (if j < k then φ j else 0) := by simp [fillW, List.getElem?_map, List.getElem?_range hj]
theorem fillW_zero (φ : Nat → Nat) (n : Nat) : fillW φ n 0 = List.replicate n 0 := by
  refine List.eq_replicate_iff.2 ⟨by simp [fillW], fun b hb => ?_⟩
  unfold fillW at hb
  obtain ⟨j, _, rfl⟩ := List.mem_map.1 hb
  simp
theorem fillW_end (φ : Nat → Nat) (n : Nat) : fillW φ n n = (List.range n).map φ := by
  unfold fillW
  apply List.map_congr_left
  intro j hj
  rw [if_pos (List.mem_range.1 hj)]
theorem fillW_put {φ : Nat → Nat} {n k : Nat} (hk : k < n) : (fillW φ n k).set k (φ k) = fillW φ n (k + 1) := by
  apply List.ext_getElem?
  intro j
  rw [List.getElem?_set]
  by_cases hj : j < n
  · rw [fillW_get hj, fillW_get hj]
    by_cases e : k = j
    · subst e; simp [fillW_len, hk]
    · rw [if_neg e]
      by_cases h : j < k
      · rw [if_pos h, if_pos (by omega)]
      · rw [if_neg h, if_neg (by omega)]
  · have h1 : (fillW φ n k)[j]? = none := by simp [fillW_len]; omega
    have h2 : (fillW φ n (k + 1))[j]? = none := by simp [fillW_len]; omega
    rw [h1, h2, if_neg (by omega)]
theorem fillW_set0 {φ : Nat → Nat} {n k : Nat} (hk : k < n) : (fillW φ n k).set k 0 = fillW φ n k := by
  apply List.ext_getElem?
  intro j
  rw [List.getElem?_set]
  by_cases e : k = j
  · subst e; rw [fillW_get hk]; simp [fillW_len, hk]
  · rw [if_neg e]
theorem fillW_at {φ : Nat → Nat} {n k : Nat} {z : Nat} (hk : k < n) : getE elW ((fillW φ n k).set k z) (k : Int) = z := by
  show ((fillW φ n k).set k z).getD (k : Int).toNat 0 = z
  rw [Int.toNat_natCast, List.getD_eq_getElem?_getD, List.getElem?_set_self (by rw [fillW_len]; exact hk)]; rfl
theorem hom_mem {c : Cat} {x y : Int} {i : Nat} (h : i < (homTo c x y c.s.length).length) : 0 ≤ at0 (homTo c x y c.s.length) (i : Int) ∧ at0 (homTo c x y c.s.length) (i : Int) < c.s.length := by
  have hm : at0 (homTo c x y c.s.length) (i : Int) ∈ homTo c x y c.s.length := by
    show (homTo c x y c.s.length).getD (i : Int).toNat 0 ∈ _
    rw [Int.toNat_natCast, List.getD_eq_getElem?_getD, List.getElem?_eq_getElem h]; exact List.getElem_mem h
  unfold homTo at hm
  obtain ⟨j, hj, e⟩ := List.mem_map.1 hm
  have := List.mem_range.1 (List.mem_filter.1 hj).1
  unfold homTo
  omega
theorem take_one {xs : List Int} {i : Nat} (h : i < xs.length) : xs.take (i + 1) = xs.take i ++ [at0 xs (i : Int)] := by
  rw [List.take_succ_eq_append_getElem h]
  show xs.take i ++ [xs[i]] = xs.take i ++ [xs.getD (i : Int).toNat 0]
  rw [Int.toNat_natCast, List.getD_eq_getElem?_getD, List.getElem?_eq_getElem h]; rfl
set_option maxHeartbeats 4000000 in
set_option maxRecDepth 100000 in
theorem components_any (w : World) (v : Value) (F : Fct) (u : Value) (G : Fct) (kv : Value) (κ : Int → Bool) (h : RdF w v F) (e : RdF w u G) (hT : ShapeP F.T) (hlo : F.o.length ≤ 8) (hlg : G.o.length = F.o.length) (hk : ∀ w', Below w.heap.size w w' → ∀ p : Int, 0 ≤ p → p < F.T.s.length → CallsV kv [.int .i64 p] w' (RetB w' (κ p))) :
    Calls Tryd.prog 70 #[v, u, kv] w (RetG elW w (compW F G κ)) := by
  have h0 := h
  obtain ⟨vx1, vx2, vx3, vx4, vx5, vx6, vx7, vx8, vx9, vx10, vk1, vk2, vk3, vk4, vk5, vk6, vk7, vk8, vk9, vk10, rfl, h1, h2, h3, h4, h5, h6, h7, h8, h9, h10⟩ := h.lists
  have e0 := e
  obtain ⟨ux1, ux2, ux3, ux4, ux5, ux6, ux7, ux8, ux9, ux10, uk1, uk2, uk3, uk4, uk5, uk6, uk7, uk8, uk9, uk10, rfl, e1, e2, e3, e4, e5, e6, e7, e8, e9, e10⟩ := e.lists
  go_enter Tryd.func70, Tryd.ntmps70
  refine gc_enter (N := 53) rfl (look_cons (k := 0) rfl (look_cons (k := 1) rfl (look_cons (k := 2) rfl (look_nil _)))) ?_
  refine gc_seq fun K1 hK1 => ?_
  refine gc_region ?_
  refine g_op (.free rfl) fun K3 hK3 => ?_
  refine go_box rfl rfl rfl rfl rfl ?_
  intro B2
  refine hK3 _ _ ?_
  refine g_op (.free rfl) fun K5 hK5 => ?_
  refine go_box rfl rfl rfl rfl rfl ?_
  intro B4
  refine hK5 _ _ ?_
  refine g_v (.free rfl) rfl rfl (qt_assign rfl rfl) ?_
  refine g_nil ?_
  refine gk_then (hK1 _ _ ?_)
  refine gc_seq fun K6 hK6 => ?_
  refine gc_region ?_
  refine g_v (.free rfl) rfl rfl (qt_field (z := 0) (off := 10) rfl rfl Tryd.underlying45 rfl (by kernel_rfl) rfl) ?_
  refine g_v (.free rfl) rfl rfl (qt_loadB (n := 0) rfl rfl Tryd.underlying22 rfl rfl rfl) ?_
  refine g_v (.free rfl) rfl rfl (qt_len rfl rfl ulE1 (fun w M => lenV_rd h9)) ?_
  refine g_op (.free rfl) fun K8 hK8 => ?_
  refine go_makeG elW rfl rfl rfl Tryd.underlying68 rfl rfl (by omega) ?_
  intro B7
  refine hK8 _ _ ?_
  refine g_v (.free rfl) rfl rfl (qt_assign rfl rfl) ?_
  refine g_nil ?_
  refine gk_then (hK6 _ _ ?_)
  refine gc_seq fun K9 hK9 => ?_
  refine gc_seq fun K10 hK10 => ?_
  refine gc_region ?_
  refine g_v (.free rfl) rfl rfl (qt_move rfl rfl) ?_
  refine g_v (.free rfl) rfl rfl (qt_len rfl rfl ul_elW (fun w M => lenV_G (mem_ownG (n := 2) rfl M))) ?_
  refine g_v (.free rfl) rfl rfl (qt_move rfl rfl) ?_
  refine g_nil ?_
  refine gk_then (hK10 _ _ ?_)
  refine gc_block ?_
  simp only [List.length_replicate]
  rw [show List.replicate F.o.length elW.d = fillW (fun j => compA F.T κ (at0 F.o (j : Int)) (at0 G.o (j : Int))) F.o.length 0 from (fillW_zero _ _).symm]
  try simp only [List.nil_append, List.cons_append, List.append_assoc, List.set_cons_succ, List.set_cons_zero]
  refine gc_loop ([(0, _), (1, _), (2, _), (3, _), (4, _), (6, _), (7, _), (16, _)] : Env) (fun s : Nat => (fun (k : Nat) => ([(17, .int .i64 (k : Int))] : Env)) s) (fun s : Nat => (fun (k : Nat) => ([(2, ownGI elW (.slice (some ⟨B7, 0, none⟩) F.o.length F.o.length) (fillW (fun j => compA F.T κ (at0 F.o (j : Int)) (at0 G.o (j : Int))) F.o.length k))] : List (Nat × Itm))) s) (fun s : Nat => (fun (k : Nat) => k ≤ F.o.length) s) (fun s : Nat => (fun (k : Nat) => F.o.length - k) s) (0) (sub_cons rfl (sub_cons rfl (sub_cons rfl (sub_cons rfl (sub_cons rfl (sub_cons rfl (sub_cons rfl (sub_cons rfl (sub_cons rfl sub_nil))))))))) rfl (Nat.zero_le _) ?_
  rintro k hinv KL11 hKL11
  simp only [updL, List.foldl_cons, List.foldl_nil, List.set_cons_succ, List.set_cons_zero, List.cons_append, List.nil_append] at hinv hKL11 ⊢
  have hk1 := hinv
  refine gc_seq fun K12 hK12 => ?_
  refine gc_region ?_
  refine g_v (.free rfl) rfl rfl (qt_lss rfl rfl rfl) ?_
  refine g_nil ?_
  refine gk_then (hK12 _ _ ?_)
  refine gc_seq fun K13 hK13 => ?_
  refine gc_cond rfl (fun hc0 => ?_) (fun hc0 => ?_)
  · try simp only [decide_eq_true_eq, decide_eq_false_iff_not, Bool.not_eq_true', Bool.not_eq_false', Bool.not_eq_eq_eq_not, Bool.not_true, Bool.not_false, ne_eq, Decidable.not_not, Classical.not_not] at hc0
    refine gc_skip ?_
    refine gk_then (hK13 _ _ ?_)
    refine gc_seq fun K14 hK14 => ?_
    refine gc_block ?_
    refine gc_seq fun K15 hK15 => ?_
    refine gc_region ?_
    refine g_v (.free rfl) rfl rfl (qt_move rfl rfl) ?_
    refine g_v (.free rfl) rfl rfl (qt_assign rfl rfl) ?_
    refine g_nil ?_
    refine gk_then (hK15 _ _ ?_)
    refine gc_seq fun K16 hK16 => ?_
    try simp only [List.nil_append, List.cons_append, List.append_assoc, List.set_cons_succ, List.set_cons_zero]
    refine ga_start _ (fun w M => M) ?_
    refine ga_v 0 rfl (by kernel_rfl) (by kernel_rfl) (by kernel_rfl) (.free rfl) rfl rfl (qt_field (z := 4) (off := 5) rfl rfl Tryd.underlying45 rfl (by kernel_rfl) rfl) (fun _ _ _ h => h) ?_
    refine ga_v 1 rfl (by kernel_rfl) (by kernel_rfl) (by kernel_rfl) (.free rfl) rfl rfl (qt_loadP (n := 0) (z := 5) rfl rfl Tryd.underlying30 rfl (by kernel_rfl) rfl (by first | decide | exact Nat.le_refl _ | simp)) (fun _ _ _ h => h) ?_
    refine ga_v 2 rfl (by kernel_rfl) (by kernel_rfl) (by kernel_rfl) (.free rfl) rfl rfl (qt_field (z := 0) (off := 10) rfl rfl Tryd.underlying45 rfl (by kernel_rfl) rfl) (fun _ _ _ h => h) ?_
    refine ga_v 3 rfl (by kernel_rfl) (by kernel_rfl) (by kernel_rfl) (.free rfl) rfl rfl (qt_loadB (n := 0) rfl rfl Tryd.underlying22 rfl rfl rfl) (fun _ _ _ h => h) ?_
    refine ga_v 4 rfl (by kernel_rfl) (by kernel_rfl) (by kernel_rfl) (.free rfl) rfl rfl (qt_move rfl rfl) (fun _ _ _ h => h) ?_
    refine ga_v 5 rfl (by kernel_rfl) (by kernel_rfl) (by kernel_rfl) (.free rfl) rfl rfl (qt_index rfl rfl rfl ulE1 szE1 (fun w M => lenA_rd h9) (by omega) (by omega)) (fun _ _ _ h => h) ?_
    refine ga_v 6 rfl (by kernel_rfl) (by kernel_rfl) (by kernel_rfl) (.free rfl) rfl rfl (qt_load1 rfl rfl Tryd.underlying2 rfl (fun w M => mem_rd M h9) (by omega) (by omega)) (fun _ _ _ h => h) ?_
    refine ga_v 7 rfl (by kernel_rfl) (by kernel_rfl) (by kernel_rfl) (.free rfl) rfl rfl (qt_field (z := 0) (off := 10) rfl rfl Tryd.underlying45 rfl (by kernel_rfl) rfl) (fun _ _ _ h => h) ?_
    refine ga_v 8 rfl (by kernel_rfl) (by kernel_rfl) (by kernel_rfl) (.free rfl) rfl rfl (qt_loadB (n := 1) rfl rfl Tryd.underlying22 rfl rfl rfl) (fun _ _ _ h => h) ?_
    refine ga_v 9 rfl (by kernel_rfl) (by kernel_rfl) (by kernel_rfl) (.free rfl) rfl rfl (qt_move rfl rfl) (fun _ _ _ h => h) ?_
    refine ga_v 10 rfl (by kernel_rfl) (by kernel_rfl) (by kernel_rfl) (.free rfl) rfl rfl (qt_index rfl rfl rfl ulE1 szE1 (fun w M => lenA_rd e9) (by omega) (by omega)) (fun _ _ _ h => h) ?_
    refine ga_v 11 rfl (by kernel_rfl) (by kernel_rfl) (by kernel_rfl) (.free rfl) rfl rfl (qt_load1 rfl rfl Tryd.underlying2 rfl (fun w M => mem_rd M e9) (by omega) (by omega)) (fun _ _ _ h => h) ?_
    refine ga_v 12 rfl (by kernel_rfl) (by kernel_rfl) (by kernel_rfl) (.free rfl) rfl rfl (qt_build rfl rfl bt_arrowEnds) (fun _ _ _ h => h) ?_
    refine ga_v 15 rfl (by kernel_rfl) (by kernel_rfl) (by kernel_rfl) (.free rfl) rfl rfl (qt_move rfl rfl) (fun _ _ _ h => h) ?_
    refine ga_op 13 (by kernel_rfl) rfl (.free rfl) fun K18 hK18 => ?_
    refine go_callL rfl rfl rfl Tryd.func104 rfl (by decide) rfl (fun w M => arrowsBetween_any w _ _ _ _ (rdC_mk (mem_rd M h5) (mem_rd M h6) (mem_rd M h7) (mem_rd2 M h8)) (by first | assumption | omega)) ?_
    intro va17 vc17
    refine hK18 _ _ (fun w M => (mem_take 3 M :)) ?_
    refine ga_op 14 (by kernel_rfl) rfl (.free rfl) fun K19 hK19 => ?_
    refine go_v rfl rfl (qt_len rfl rfl ulE1 (fun w M => lenV_own1 (n := 3) rfl M)) ?_
    refine hK19 _ _ (fun w M => (mem_take 3 M :)) ?_
    refine ga_done (by kernel_rfl) ?_
    refine gk_then (hK16 _ _ ?_)
    refine gc_block ?_
    rw [← fillW_set0 (φ := fun j => compA F.T κ (at0 F.o (j : Int)) (at0 G.o (j : Int))) (n := F.o.length) (k := k) (by omega)]
    try simp only [List.nil_append, List.cons_append, List.append_assoc, List.set_cons_succ, List.set_cons_zero]
    refine gc_loop ([(0, _), (1, _), (2, _), (3, _), (4, _), (6, _), (7, _), (8, _), (16, _), (17, _), (18, _), (33, _), (34, _)] : Env) (fun s : Nat => (fun (i : Nat) => ([(35, .int .i64 (i : Int))] : Env)) s) (fun s : Nat => (fun (i : Nat) => ([(2, ownGI elW (.slice (some ⟨B7, 0, none⟩) F.o.length F.o.length) ((fillW (fun j => compA F.T κ (at0 F.o (j : Int)) (at0 G.o (j : Int))) F.o.length k).set k (accK κ ((homTo F.T (at0 F.o (k : Int)) (at0 G.o (k : Int)) F.T.s.length).take i))))] : List (Nat × Itm))) s) (fun s : Nat => (fun (i : Nat) => i ≤ (homTo F.T (at0 F.o (k : Int)) (at0 G.o (k : Int)) F.T.s.length).length) s) (fun s : Nat => (fun (i : Nat) => (homTo F.T (at0 F.o (k : Int)) (at0 G.o (k : Int)) F.T.s.length).length - i) s) (0) (sub_cons rfl (sub_cons rfl (sub_cons rfl (sub_cons rfl (sub_cons rfl (sub_cons rfl (sub_cons rfl (sub_cons rfl (sub_cons rfl (sub_cons rfl (sub_cons rfl (sub_cons rfl (sub_cons rfl (sub_cons rfl sub_nil)))))))))))))) rfl (Nat.zero_le _) ?_
    rintro i hinv KL20 hKL20
    simp only [updL, List.foldl_cons, List.foldl_nil, List.set_cons_succ, List.set_cons_zero, List.cons_append, List.nil_append] at hinv hKL20 ⊢
    have hi1 := hinv
    have hhl := homTo_len F.T (at0 F.o (k : Int)) (at0 G.o (k : Int)) F.T.s.length
    refine gc_seq fun K21 hK21 => ?_
    refine gc_region ?_
    refine g_v (.free rfl) rfl rfl (qt_lss rfl rfl rfl) ?_
    refine g_nil ?_
    refine gk_then (hK21 _ _ ?_)
    refine gc_seq fun K22 hK22 => ?_
    refine gc_cond rfl (fun hc1 => ?_) (fun hc1 => ?_)
    · try simp only [decide_eq_true_eq, decide_eq_false_iff_not, Bool.not_eq_true', Bool.not_eq_false', Bool.not_eq_eq_eq_not, Bool.not_true, Bool.not_false, ne_eq, Decidable.not_not, Classical.not_not] at hc1
      refine gc_skip ?_
      refine gk_then (hK22 _ _ ?_)
      refine gc_seq fun K23 hK23 => ?_
      refine gc_block ?_
      refine gc_seq fun K24 hK24 => ?_
      refine gc_region ?_
      refine g_v (.free rfl) rfl rfl (qt_index rfl rfl rfl ulE1 szE1 (fun w M => lenA_own1 (n := 3) rfl M) (by omega) (by omega)) ?_
      refine g_v (.free rfl) rfl rfl (qt_load1 rfl rfl Tryd.underlying2 rfl (fun w M => (mem_own1 (n := 3) M rfl).rd) (by omega) (by omega)) ?_
      refine g_v (.free rfl) rfl rfl (qt_assign rfl rfl) ?_
      refine g_nil ?_
      refine gk_then (hK24 _ _ ?_)
      refine gc_seq fun K25 hK25 => ?_
      have hmm := hom_mem (c := F.T) (x := at0 F.o (k : Int)) (y := at0 G.o (k : Int)) (i := i) (by omega)
      have n40 := hT.n40
      refine gc_region ?_
      refine g_v (.free rfl) rfl rfl (qt_move rfl rfl) ?_
      refine g_v (.free rfl) rfl rfl (qt_move rfl rfl) ?_
      refine g_q (.free rfl) rfl rfl (qt_callV rfl rfl rfl (fun w M => hk w M.1 _ (by omega) (by omega))) ?_
      refine g_nil ?_
      refine gk_then (hK25 _ _ ?_)
      refine gc_cond rfl (fun hc2 => ?_) (fun hc2 => ?_)
      · try simp only [decide_eq_true_eq, decide_eq_false_iff_not, Bool.not_eq_true', Bool.not_eq_false', Bool.not_eq_eq_eq_not, Bool.not_true, Bool.not_false, ne_eq, Decidable.not_not, Classical.not_not] at hc2
        try simp only [List.nil_append, List.cons_append, List.append_assoc, List.set_cons_succ, List.set_cons_zero]
        refine ga_start _ (fun w M => mem_erase 2 (M)) ?_
        refine ga_v 0 rfl (by kernel_rfl) (by kernel_rfl) (by kernel_rfl) (.free rfl) rfl rfl (qt_move rfl rfl) (fun _ _ _ h => h) ?_
        refine ga_v 1 rfl (by kernel_rfl) (by kernel_rfl) (by kernel_rfl) (.free rfl) rfl rfl (qt_move rfl rfl) (fun _ _ _ h => h) ?_
        refine ga_v 4 rfl (by kernel_rfl) (by kernel_rfl) (by kernel_rfl) (.free rfl) rfl rfl (qt_move rfl rfl) (fun _ _ _ h => h) ?_
        refine ga_two 2 5 (by kernel_rfl) rfl rfl (.free rfl) (.free rfl) (fun K26 hK26 => ?_) (fun K26 hK26 => ?_)
        · refine go_v rfl rfl (qt_index rfl rfl rfl ul_elW sz_elW (fun w M => lenA_G (mem_ownG (n := 2) rfl M)) (by omega) (by simp only [List.length_set, fillW_len]; omega)) ?_
          refine hK26 _ _ (fun w M => (mem_erase 2 (mem_take 4 M) :)) ?_
          refine ga_two 3 5 (by kernel_rfl) rfl rfl (.free rfl) (.free rfl) (fun K28 hK28 => ?_) (fun K28 hK28 => ?_)
          · refine go_v rfl rfl (qt_loadG elW rfl rfl Tryd.underlying86 rfl (fun w M => mem_ownG (n := 2) rfl M) (by omega) (by simp only [List.length_set, fillW_len]; omega)) ?_
            refine hK28 _ _ (fun w M => (mem_erase 2 (mem_take 4 M) :)) ?_
            refine ga_op 5 (by kernel_rfl) rfl (.free rfl) fun K30 hK30 => ?_
            refine go_q rfl rfl (qt_call rfl Tryd.func88 rfl (by decide) rfl (fun w M => only_any w _ (by omega) (by omega))) ?_
            refine hK30 _ _ (fun w M => (mem_erase 2 (mem_take 4 M) :)) ?_
            refine ga_v 6 rfl (by kernel_rfl) (by kernel_rfl) (by kernel_rfl) (.free rfl) rfl rfl (qt_orU rfl rfl rfl (by rw [fillW_at (by omega)]; exact accK_lt _ _) (only_lt _)) (fun _ _ _ h => h) ?_
            refine ga_op 7 (by kernel_rfl) rfl (.free rfl) fun K31 hK31 => ?_
            refine go_v rfl rfl (qt_index rfl rfl rfl ul_elW sz_elW (fun w M => lenA_G (mem_ownG (n := 2) rfl M)) (by omega) (by simp only [List.length_set, fillW_len]; omega)) ?_
            refine hK31 _ _ (fun w M => (mem_erase 2 (mem_take 4 M) :)) ?_
            refine ga_op 8 (by kernel_rfl) rfl (.free rfl) fun K32 hK32 => ?_
            refine go_storeG elW (n := 2) rfl rfl rfl rfl (by kernel_rfl) rfl (by omega) (by simp only [List.length_set, fillW_len]; omega) ?_
            refine hK32 _ _ (fun w M => (mem_erase 2 (mem_take 4 M) :)) ?_
            refine ga_done (by kernel_rfl) ?_
            refine gk_block ?_
            refine gk_then (hK23 _ _ ?_)
            refine gc_region ?_
            refine g_v (.free rfl) rfl rfl (qt_add rfl rfl rfl (by omega)) ?_
            refine g_v (.free rfl) rfl rfl (qt_move rfl rfl) ?_
            refine g_nil ?_
            first | rw [fillW_at (by omega), Int.toNat_natCast, List.set_set, ← accK_t hc2, ← take_one (by omega)] | rw [← accK_f (κ := κ) (by rw [hc2]; exact Bool.false_ne_true), ← take_one (by omega)]
            refine gk_then (gk_take 4 ?_)
            refine gk_sub ?hs_33 (hKL20 (i + 1) ?hi_33 ?hm_33)
            case hs_33 => exact (sub_cons rfl (sub_cons rfl (sub_cons rfl (sub_cons rfl (sub_cons rfl (sub_cons rfl (sub_cons rfl (sub_cons rfl (sub_cons rfl (sub_cons rfl (sub_cons rfl (sub_cons rfl (sub_cons rfl (sub_cons rfl sub_nil))))))))))))))
            case hi_33 => omega
            case hm_33 => omega
          · refine go_q rfl rfl (qt_call rfl Tryd.func88 rfl (by decide) rfl (fun w M => only_any w _ (by omega) (by omega))) ?_
            refine hK28 _ _ (fun w M => (mem_erase 2 (mem_take 4 M) :)) ?_
            refine ga_op 3 (by kernel_rfl) rfl (.free rfl) fun K35 hK35 => ?_
            refine go_v rfl rfl (qt_loadG elW rfl rfl Tryd.underlying86 rfl (fun w M => mem_ownG (n := 2) rfl M) (by omega) (by simp only [List.length_set, fillW_len]; omega)) ?_
            refine hK35 _ _ (fun w M => (mem_erase 2 (mem_take 4 M) :)) ?_
            refine ga_v 6 rfl (by kernel_rfl) (by kernel_rfl) (by kernel_rfl) (.free rfl) rfl rfl (qt_orU rfl rfl rfl (by rw [fillW_at (by omega)]; exact accK_lt _ _) (only_lt _)) (fun _ _ _ h => h) ?_
            refine ga_op 7 (by kernel_rfl) rfl (.free rfl) fun K36 hK36 => ?_
            refine go_v rfl rfl (qt_index rfl rfl rfl ul_elW sz_elW (fun w M => lenA_G (mem_ownG (n := 2) rfl M)) (by omega) (by simp only [List.length_set, fillW_len]; omega)) ?_
            refine hK36 _ _ (fun w M => (mem_erase 2 (mem_take 4 M) :)) ?_
            refine ga_op 8 (by kernel_rfl) rfl (.free rfl) fun K37 hK37 => ?_
            refine go_storeG elW (n := 2) rfl rfl rfl rfl (by kernel_rfl) rfl (by omega) (by simp only [List.length_set, fillW_len]; omega) ?_
            refine hK37 _ _ (fun w M => (mem_erase 2 (mem_take 4 M) :)) ?_
            refine ga_done (by kernel_rfl) ?_
            refine gk_block ?_
            refine gk_then (hK23 _ _ ?_)
            refine gc_region ?_
            refine g_v (.free rfl) rfl rfl (qt_add rfl rfl rfl (by omega)) ?_
            refine g_v (.free rfl) rfl rfl (qt_move rfl rfl) ?_
            refine g_nil ?_
            first | rw [fillW_at (by omega), Int.toNat_natCast, List.set_set, ← accK_t hc2, ← take_one (by omega)] | rw [← accK_f (κ := κ) (by rw [hc2]; exact Bool.false_ne_true), ← take_one (by omega)]
            refine gk_then (gk_take 4 ?_)
            refine gk_sub ?hs_38 (hKL20 (i + 1) ?hi_38 ?hm_38)
            case hs_38 => exact (sub_cons rfl (sub_cons rfl (sub_cons rfl (sub_cons rfl (sub_cons rfl (sub_cons rfl (sub_cons rfl (sub_cons rfl (sub_cons rfl (sub_cons rfl (sub_cons rfl (sub_cons rfl (sub_cons rfl (sub_cons rfl sub_nil))))))))))))))
            case hi_38 => omega
            case hm_38 => omega
        · refine go_q rfl rfl (qt_call rfl Tryd.func88 rfl (by decide) rfl (fun w M => only_any w _ (by omega) (by omega))) ?_
          refine hK26 _ _ (fun w M => (mem_erase 2 (mem_take 4 M) :)) ?_
          refine ga_op 2 (by kernel_rfl) rfl (.free rfl) fun K40 hK40 => ?_
          refine go_v rfl rfl (qt_index rfl rfl rfl ul_elW sz_elW (fun w M => lenA_G (mem_ownG (n := 2) rfl M)) (by omega) (by simp only [List.length_set, fillW_len]; omega)) ?_
          refine hK40 _ _ (fun w M => (mem_erase 2 (mem_take 4 M) :)) ?_
          refine ga_op 3 (by kernel_rfl) rfl (.free rfl) fun K41 hK41 => ?_
          refine go_v rfl rfl (qt_loadG elW rfl rfl Tryd.underlying86 rfl (fun w M => mem_ownG (n := 2) rfl M) (by omega) (by simp only [List.length_set, fillW_len]; omega)) ?_
          refine hK41 _ _ (fun w M => (mem_erase 2 (mem_take 4 M) :)) ?_
          refine ga_v 6 rfl (by kernel_rfl) (by kernel_rfl) (by kernel_rfl) (.free rfl) rfl rfl (qt_orU rfl rfl rfl (by rw [fillW_at (by omega)]; exact accK_lt _ _) (only_lt _)) (fun _ _ _ h => h) ?_
          refine ga_op 7 (by kernel_rfl) rfl (.free rfl) fun K42 hK42 => ?_
          refine go_v rfl rfl (qt_index rfl rfl rfl ul_elW sz_elW (fun w M => lenA_G (mem_ownG (n := 2) rfl M)) (by omega) (by simp only [List.length_set, fillW_len]; omega)) ?_
          refine hK42 _ _ (fun w M => (mem_erase 2 (mem_take 4 M) :)) ?_
          refine ga_op 8 (by kernel_rfl) rfl (.free rfl) fun K43 hK43 => ?_
          refine go_storeG elW (n := 2) rfl rfl rfl rfl (by kernel_rfl) rfl (by omega) (by simp only [List.length_set, fillW_len]; omega) ?_
          refine hK43 _ _ (fun w M => (mem_erase 2 (mem_take 4 M) :)) ?_
          refine ga_done (by kernel_rfl) ?_
          refine gk_block ?_
          refine gk_then (hK23 _ _ ?_)
          refine gc_region ?_
          refine g_v (.free rfl) rfl rfl (qt_add rfl rfl rfl (by omega)) ?_
          refine g_v (.free rfl) rfl rfl (qt_move rfl rfl) ?_
          refine g_nil ?_
          first | rw [fillW_at (by omega), Int.toNat_natCast, List.set_set, ← accK_t hc2, ← take_one (by omega)] | rw [← accK_f (κ := κ) (by rw [hc2]; exact Bool.false_ne_true), ← take_one (by omega)]
          refine gk_then (gk_take 4 ?_)
          refine gk_sub ?hs_44 (hKL20 (i + 1) ?hi_44 ?hm_44)
          case hs_44 => exact (sub_cons rfl (sub_cons rfl (sub_cons rfl (sub_cons rfl (sub_cons rfl (sub_cons rfl (sub_cons rfl (sub_cons rfl (sub_cons rfl (sub_cons rfl (sub_cons rfl (sub_cons rfl (sub_cons rfl (sub_cons rfl sub_nil))))))))))))))
          case hi_44 => omega
          case hm_44 => omega
      · try simp only [decide_eq_true_eq, decide_eq_false_iff_not, Bool.not_eq_true', Bool.not_eq_false', Bool.not_eq_eq_eq_not, Bool.not_true, Bool.not_false, ne_eq, Decidable.not_not, Classical.not_not] at hc2
        refine gc_skip ?_
        refine gk_block ?_
        refine gk_then (hK23 _ _ ?_)
        refine gc_region ?_
        refine g_v (.free rfl) rfl rfl (qt_add rfl rfl rfl (by omega)) ?_
        refine g_v (.free rfl) rfl rfl (qt_move rfl rfl) ?_
        refine g_nil ?_
        first | rw [fillW_at (by omega), Int.toNat_natCast, List.set_set, ← accK_t hc2, ← take_one (by omega)] | rw [← accK_f (κ := κ) (by rw [hc2]; exact Bool.false_ne_true), ← take_one (by omega)]
        refine gk_then (gk_take 4 ?_)
        refine gk_sub ?hs_45 (hKL20 (i + 1) ?hi_45 ?hm_45)
        case hs_45 => exact (sub_cons rfl (sub_cons rfl (sub_cons rfl (sub_cons rfl (sub_cons rfl (sub_cons rfl (sub_cons rfl (sub_cons rfl (sub_cons rfl (sub_cons rfl (sub_cons rfl (sub_cons rfl (sub_cons rfl (sub_cons rfl sub_nil))))))))))))))
        case hi_45 => omega
        case hm_45 => omega
    · try simp only [decide_eq_true_eq, decide_eq_false_iff_not, Bool.not_eq_true', Bool.not_eq_false', Bool.not_eq_eq_eq_not, Bool.not_true, Bool.not_false, ne_eq, Decidable.not_not, Classical.not_not] at hc1
      refine gc_exit ?_
      refine gk_then_exit ?_
      refine gk_then_exit ?_
      refine gk_block_hit ?_
      refine gk_block ?_
      refine gk_then (hK14 _ _ ?_)
      refine gc_region ?_
      refine g_v (.free rfl) rfl rfl (qt_add rfl rfl rfl (by omega)) ?_
      refine g_v (.free rfl) rfl rfl (qt_move rfl rfl) ?_
      refine g_nil ?_
      obtain rfl : i = (homTo F.T (at0 F.o (k : Int)) (at0 G.o (k : Int)) F.T.s.length).length := by omega
      rw [List.take_length]
      rw [show (fillW (fun j => compA F.T κ (at0 F.o (j : Int)) (at0 G.o (j : Int))) F.o.length k).set k (accK κ (homTo F.T (at0 F.o (k : Int)) (at0 G.o (k : Int)) F.T.s.length)) = fillW (fun j => compA F.T κ (at0 F.o (j : Int)) (at0 G.o (j : Int))) F.o.length (k + 1) from fillW_put (by omega)]
      refine gk_then (gk_take 3 ?_)
      refine gk_sub ?hs_46 (hKL11 (k + 1) ?hi_46 ?hm_46)
      case hs_46 => exact (sub_cons rfl (sub_cons rfl (sub_cons rfl (sub_cons rfl (sub_cons rfl (sub_cons rfl (sub_cons rfl (sub_cons rfl (sub_cons rfl sub_nil)))))))))
      case hi_46 => omega
      case hm_46 => omega
  · try simp only [decide_eq_true_eq, decide_eq_false_iff_not, Bool.not_eq_true', Bool.not_eq_false', Bool.not_eq_eq_eq_not, Bool.not_true, Bool.not_false, ne_eq, Decidable.not_not, Classical.not_not] at hc0
    refine gc_exit ?_
    refine gk_then_exit ?_
    refine gk_then_exit ?_
    refine gk_block_hit ?_
    refine gk_then (hK9 _ _ ?_)
    refine gc_seq fun K47 hK47 => ?_
    refine gc_region ?_
    refine g_v (.free rfl) rfl rfl (qt_move rfl rfl) ?_
    refine g_v (.free rfl) rfl rfl (qt_assign rfl rfl) ?_
    refine g_nil ?_
    refine gk_then (hK47 _ _ ?_)
    refine gc_ret ?_
    refine ret_1 rfl rfl  (fun w M => ?_)
    obtain rfl : k = F.o.length := by omega
    rw [fillW_end] at M
    exact ⟨_, rfl, own_of_mem (n := 2) M rfl, M.1⟩
end Go.Proofs.YtfnneogadciimaaDoor
set_option linter.unusedSimpArgs false
set_option linter.unusedVariables false
set_option linter.unusedSectionVars false
namespace Go.Proofs.YtfnneogadciimaaDoor
open Go.RowKit
def atM (ws : List Nat) (i p : Int) : Nat := ws.getD (i.toNat * 40 + p.toNat) 0
theorem ulM : Tryd.prog.underlying 96 = some (.slice (Tryd.prog.elem 96)) := by kernel_rfl
theorem szMt : (Tryd.prog.info? (Tryd.prog.elem 96)).map (fun i => i.size) = some 40 := by kernel_rfl
theorem ulA : Tryd.prog.underlying 135 = some (.array (Tryd.prog.arrayLen 135) (Tryd.prog.elem 135)) := by kernel_rfl
theorem lenAr : Tryd.prog.arrayLen 135 = 40 := by kernel_rfl
theorem szA : (Tryd.prog.info? (Tryd.prog.elem 135)).map (fun i => i.size) = some 1 := by kernel_rfl
theorem infoM : (Tryd.prog.info? 135).map (fun i => (i.zero, i.size, i.bytes)) = some (some (.agg (Array.replicate 40 (vU 0))), 40, 320) := by kernel_rfl
def RdM (w : World) (v : Value) (n : Nat) (ws : List Nat) : Prop :=
  ∃ (a : Option Addr) (cap : Nat), v = .slice a n cap ∧ n ≤ 1000 ∧ ws.length = n * 40 ∧ (0 < n → ∃ g, a = some ⟨g, 0, none⟩ ∧ g < w.heap.size ∧ ∀ i, i < n * 40 → w.cell? ⟨g, i, none⟩ = some (vU (ws.getD i 0)))
def OwnM (v : Value) (n : Nat) (ws : List Nat) (w : World) (S : Nat → Prop) : Prop := (w.ownsRow 0 135 40 v n (ws.map vU) ∧ n ≤ 1000) ∧ ∀ q, v.ownBlock = some q → S q
theorem ownM_loc (v : Value) (n : Nat) (ws : List Nat) : Loc (OwnM v n ws) where
  keep hs ha h := ⟨⟨own_agree h.1.1 fun q hq e => ha q hq (h.2 q e), h.1.2⟩, fun q hq => hs q (h.1.1.lt q hq).2 (h.2 q hq)⟩
def ownMI (v : Value) (n : Nat) (ws : List Nat) : Itm := ⟨_, ownM_loc v n ws⟩
theorem OwnM.len {v : Value} {n : Nat} {ws : List Nat} {w : World} {S : Nat → Prop} (h : OwnM v n ws w S) : ws.length = n * 40 := by have := h.1.1.1; simpa using this
theorem OwnM.rd {v : Value} {n : Nat} {ws : List Nat} {w : World} {S : Nat → Prop} (h : OwnM v n ws w S) : RdM w v n ws := by
  have hlen := h.len
  rcases h.1.1.2 with ⟨hv, hn⟩ | ⟨g, cap, cur, hv, hb, hg, hnc, hcm, hcs, ht⟩
  · exact ⟨none, 0, by rw [hv, hn], h.1.2, hlen, fun h0 => by omega⟩
  · subst hv
    refine ⟨_, cap, rfl, h.1.2, hlen, fun h0 => ⟨g, rfl, (Array.getElem?_eq_some_iff.1 hg).1, fun i hi => ?_⟩⟩
    rw [h.1.1.cellAt i hi]
    simp [List.getD_eq_getElem?_getD, List.getElem?_eq_getElem (show i < ws.length by omega)]
def eltM (v : Value) (k : Nat) : Value := match v with | .slice (some a) _ _ => .pointer (some ⟨a.block, a.off + k, none⟩) | _ => .pointer none
section
variable {w0 : World} {is : List Itm} {ops : Array Oper} {Q : Exit → Act → World → Prop} {o : Oper} {rest : List Oper} {N : Frm} {e : Env} {v : Value} {d : Nat} {K : Act → World → Prop}
theorem mem_ownM {n m : Nat} {ws : List Nat} (h : is[m]? = some (ownMI v n ws)) {w : World} (M : Mem w0 w is) : RdM w v n ws := by
  obtain ⟨S, _, hb⟩ := mem_get M h
  exact OwnM.rd (S := S) hb
theorem qt_indexM {x y : Operand} {n : Nat} {ws : List Nat} {i : Int} (hop : o.op = .indexAddr 96 x y) (hx : evo e x = some v) (hy : evo e y = some (.int .i64 i)) (hl : ∀ w, Mem w0 w is → RdM w v n ws) (h0 : 0 ≤ i) (h1 : i < (n : Int)) : QV w0 is o e (eltM v (i.toNat * 40)) :=
  fun w ac M F => by
    have hx := F _ _ hx; have hy := F _ _ hy
    obtain ⟨a, cap, rfl, _, _, hc⟩ := hl w M
    obtain ⟨g, rfl, _⟩ := hc (by omega)
    obtain ⟨inf, hi, hz⟩ := Option.map_eq_some_iff.1 szMt
    have hadd : (⟨g, 0, none⟩ : Addr).add (i.toNat * 40) = ⟨g, 0 + i.toNat * 40, none⟩ := by unfold Addr.add; split <;> simp_all
    simp [execOp, hop, hx, hy, run_indexAt_slice _ _ _ _ _ _ _ ulM, h0, h1, sizeOf, typeInfo, hi, hz, eltM, hadd]
theorem qt_indexA {x y : Operand} {n : Nat} {ws : List Nat} {i p : Int} (hop : o.op = .indexAddr 135 x y) (hx : evo e x = some (eltM v (i.toNat * 40))) (hy : evo e y = some (.int .i64 p)) (hl : ∀ w, Mem w0 w is → RdM w v n ws) (h0 : 0 ≤ i) (h1 : i < (n : Int)) (p0 : 0 ≤ p) (p1 : p < 40) : QV w0 is o e (eltM v (i.toNat * 40 + p.toNat)) :=
  fun w ac M F => by
    have hx := F _ _ hx; have hy := F _ _ hy
    obtain ⟨a, cap, rfl, _, _, hc⟩ := hl w M
    obtain ⟨g, rfl, _⟩ := hc (by omega)
    obtain ⟨inf, hi, hz⟩ := Option.map_eq_some_iff.1 szA
    have hadd : (⟨g, 0 + i.toNat * 40, none⟩ : Addr).add (p.toNat * 1) = ⟨g, 0 + (i.toNat * 40 + p.toNat), none⟩ := by unfold Addr.add; split <;> simp_all <;> omega
    simp only [eltM] at hx
    simp [execOp, hop, hx, hy, run_indexAt_array _ _ _ _ _ ulA, lenAr, p0, p1, sizeOf, typeInfo, hi, hz, eltM]
    simpa using hadd
theorem qt_loadM {x : Operand} {t : TypeId} {n : Nat} {ws : List Nat} {i p : Int} {td : TypeDesc} (hop : o.op = .load t x) (hx : evo e x = some (eltM v (i.toNat * 40 + p.toNat))) (ht : Tryd.prog.underlying t = some td) (hd : aggT td = false) (hl : ∀ w, Mem w0 w is → RdM w v n ws) (h0 : 0 ≤ i) (h1 : i < (n : Int)) (p0 : 0 ≤ p) (p1 : p < 40) : QV w0 is o e (vU (atM ws i p)) :=
  fun w ac M F => by
    have hx := F _ _ hx
    obtain ⟨a, cap, rfl, _, _, hc⟩ := hl w M
    obtain ⟨g, rfl, _, hcell⟩ := hc (by omega)
    have hc2 := hcell (i.toNat * 40 + p.toNat) (by omega)
    simp [execOp, hop, hx, eltM, run_load1 ht hd hc2, atM]
theorem go_storeM {t : TypeId} {x y : Operand} {m n : Nat} {ws : List Nat} {z : Nat} {i p : Int} (hd : o.dst = none) (hop : o.op = .store t x y) (hx : evo e x = some (eltM v (i.toNat * 40 + p.toNat))) (hy : evo e y = some (vU z))
    (hs : (Tryd.prog.info? t).map (·.size) = some 1) (hi : is[m]? = some (ownMI v n ws)) (h0 : 0 ≤ i) (h1 : i < (n : Int)) (p0 : 0 ≤ p) (p1 : p < 40)
    (hk : GK w0 (is.set m (ownMI v n (ws.set (i.toNat * 40 + p.toNat) z))) N K e) : GO w0 is N o e Q K := by
  intro w ac M F
  obtain ⟨S, hS, hp, hset⟩ := mem_set M hi
  have hp' : OwnM v n ws w S := hp
  have hlen := hp'.len
  rcases hp'.1.1.2 with ⟨_, hn⟩ | ⟨g, cap, cur, rfl, _⟩
  · omega
  have hcell : w.cell? ⟨g, i.toNat * 40 + p.toNat, none⟩ = some (vU (ws.getD (i.toNat * 40 + p.toNat) 0)) := by
    rw [hp'.1.1.cellAt _ (by omega)]
    simp [List.getD_eq_getElem?_getD, List.getElem?_eq_getElem (show i.toNat * 40 + p.toNat < ws.length by omega)]
  have hfz := hp'.1.1.frozenAt (i.toNat * 40 + p.toNat)
  have hst := hp'.1.1.stored (i.toNat * 40 + p.toNat) (vU z)
  have h3 : OwnM (.slice (some ⟨g, 0, none⟩) n cap) n (ws.set (i.toNat * 40 + p.toNat) z) (w.setCell ⟨g, i.toNat * 40 + p.toNat, none⟩ (vU z)) (fun k => S k ∨ w.heap.size ≤ k) := by
    refine ⟨⟨?_, hp'.1.2⟩, fun q hq => .inl (hp'.2 q hq)⟩
    have := hst.1
    rw [← List.map_set] at this
    exact this
  refine go_skip (w' := w.setCell ⟨g, i.toNat * 40 + p.toNat, none⟩ (vU z)) hd F ?_ fun ac F => hk _ ac (hset _ _ ⟨hst.2.os, hst.2.tape, hst.2.output, hst.2.size, fun q hq hs => hst.2.block q hq fun e => hs (by rw [Option.some.inj e]; exact hp'.2 g rfl)⟩ h3) F
  intro ρ F; have hx := F _ _ hx; have hy := F _ _ hy
  have he : eltM (.slice (some ⟨g, 0, none⟩) n cap) (i.toNat * 40 + p.toNat) = .pointer (some ⟨g, i.toNat * 40 + p.toNat, none⟩) := by simp [eltM]
  simp [execOp, hop, hx, hy, he, run_store1 hs (u := vU z) rfl rfl hcell hfz]
theorem go_makeM {x y : Operand} {n : Nat} (hd : o.dst = some d) (hN : Nat.blt d N = true) (hop : o.op = .makeSlice 96 x y) (hx : evo e x = some (.int .i64 (n : Int))) (hy : evo e y = some (.int .i64 (n : Int))) (hn : n ≤ 1000)
    (hk : ∀ B : Nat, GK w0 (is ++ [ownMI (.slice (some ⟨B, 0, none⟩) n n) n (List.replicate (n * 40) 0)]) N K ((d, .slice (some ⟨B, 0, none⟩) n n) :: e)) : GO w0 is N o e Q K := by
  intro w ac M F
  obtain ⟨i, hi, hz, hs, hb⟩ := info_parts infoM
  obtain ⟨w', hr, hown, hgrow⟩ := run_make_full (P := Tryd.prog) w w.heap.size 96 135 i _ 40 Tryd.underlying96 hi hz hs .i64 .i64 n (by rw [hb]; omega) (by unfold maxLen; omega) (Nat.le_refl _)
  have hone : (madeCells (Value.agg (Array.replicate 40 (vU 0))).cells (n * 40)).toList = (List.replicate (n * 40) 0).map vU := by
    simp only [Value.cells, List.map_replicate]
    refine List.eq_replicate_iff.2 ⟨by simp [size_madeCells], fun b hb => ?_⟩
    simp only [madeCells, Array.toList_map, List.mem_map] at hb
    obtain ⟨j, _, rfl⟩ := hb
    have h40 : j % (Array.replicate 40 (vU 0)).size < (Array.replicate 40 (vU 0)).size := Nat.mod_lt _ (by simp)
    rw [getElem!_pos (Array.replicate 40 (vU 0)) (j % (Array.replicate 40 (vU 0)).size) h40]
    simp
  have hs' : OwnM (.slice (some ⟨w.heap.size, 0, none⟩) n n) n (List.replicate (n * 40) 0) w' (fun k => w.heap.size ≤ k) := by
    rw [hone] at hown
    refine ⟨⟨own_base hown, hn⟩, fun q hq => by simp [Value.ownBlock] at hq; omega⟩
  refine go_val (v := .slice (some ⟨w.heap.size, 0, none⟩) n n) (w' := w') hd hN F ?_ fun ac F => hk w.heap.size w' ac (mem_new M ((Below.refl _ _).grown hgrow (Nat.le_refl _) (by simp)) hs') F
  intro ρ F; have hx := F _ _ hx; have hy := F _ _ hy
  simp only [execOp, hop, hx, hy, Sem.run_bind, hr, Result.andThen_ok]
  rfl
end
end Go.Proofs.YtfnneogadciimaaDoor
set_option linter.unusedSimpArgs false
set_option linter.unusedVariables false
set_option linter.unusedSectionVars false
namespace Go.Proofs.YtfnneogadciimaaDoor
open Go.RowKit
def AllF (ss : List Nat) : Prop := ∀ s ∈ ss, s < 1099511627776
theorem AllF.w {ss : List Nat} (h : AllF ss) : AllW ss := fun s hs => Nat.lt_trans (h s hs) (by decide)
theorem atW_F {ss : List Nat} (h : AllF ss) (i : Int) : atW ss i < 1099511627776 := by
  show ss.getD i.toNat 0 < _
  rw [List.getD_eq_getElem?_getD]
  cases e : ss[i.toNat]? with
  | none => simp
  | some s => exact h s (List.mem_of_getElem? e)
theorem bits40 {s : Nat} (h : s < 1099511627776) {p : Int} (hp : p ∈ bitsI s) : 0 ≤ p ∧ p < 40 ∧ s.testBit p.toNat = true := by
  unfold bitsI at hp
  obtain ⟨n, hn, rfl⟩ := List.mem_map.1 hp
  have hb := (mem_bits (Nat.lt_trans h (by decide))).1 hn
  refine ⟨by omega, ?_, by simpa using hb⟩
  by_cases hi : n < 40
  · omega
  · rw [Nat.testBit_lt_two_pow (Nat.lt_of_lt_of_le h (show 2 ^ 40 ≤ 2 ^ n from Nat.pow_le_pow_right (by decide) (by omega)))] at hb; cases hb
theorem pre_mem {α : Type} {pre L : List α} {x : α} (h : (pre ++ [x]) <+: L) : x ∈ L := h.subset (by simp)
def accS (F : Int → Nat) (ps : List Int) : Nat := ps.foldl (fun s p => if F p = 0 then s else s ||| onlyN p) 0
def accT (F : Int → Nat) (ps : List Int) : Nat := ps.foldl (fun s p => if F p = 0 then s else s ||| F p) 0
theorem accS_t {F : Int → Nat} {ps : List Int} {p : Int} (h : ¬ F p = 0) : accS F (ps ++ [p]) = accS F ps ||| onlyN p := by unfold accS; rw [List.foldl_append]; exact if_neg h
theorem accS_f {F : Int → Nat} {ps : List Int} {p : Int} (h : F p = 0) : accS F (ps ++ [p]) = accS F ps := by unfold accS; rw [List.foldl_append]; exact if_pos h
theorem accT_t {F : Int → Nat} {ps : List Int} {p : Int} (h : ¬ F p = 0) : accT F (ps ++ [p]) = accT F ps ||| F p := by unfold accT; rw [List.foldl_append]; exact if_neg h
theorem accT_f {F : Int → Nat} {ps : List Int} {p : Int} (h : F p = 0) : accT F (ps ++ [p]) = accT F ps := by unfold accT; rw [List.foldl_append]; exact if_pos h
theorem list_snoc {α : Type} {P : List α → Prop} (h0 : P []) (hs : ∀ xs x, P xs → P (xs ++ [x])) : ∀ xs, P xs := fun xs => by
  have : ∀ ys : List α, P ys.reverse := fun ys => by
    induction ys with
    | nil => exact h0
    | cons y ys ih => rw [List.reverse_cons]; exact hs _ _ ih
  simpa using this xs.reverse
theorem accS_lt (F : Int → Nat) : ∀ ps : List Int, accS F ps < 18446744073709551616 := list_snoc (by simp [accS]) fun ps p ih => by
  by_cases h : F p = 0
  · rw [accS_f h]; exact ih
  · rw [accS_t h]; exact or_lt ih (only_lt p)
theorem accT_lt {F : Int → Nat} (hF : ∀ p, F p < 18446744073709551616) : ∀ ps : List Int, accT F ps < 18446744073709551616 := list_snoc (by simp [accT]) fun ps p ih => by
  by_cases h : F p = 0
  · rw [accT_f h]; exact ih
  · rw [accT_t h]; exact or_lt ih (hF p)
theorem allP_int {n : Int} {l : List Int} (h : AllP n l) {a : Int} (a0 : 0 ≤ a) (a1 : a < l.length) : 0 ≤ at0 l a ∧ at0 l a < n := by obtain ⟨k, rfl⟩ := Int.eq_ofNat_of_zero_le a0; exact allP_at h (by omega)
def fitW (fs ss : List Nat) (a j : Int) (p : Int) : Nat := atM fs a p &&& atW ss j
theorem atM_lt {fs : List Nat} (h : AllW fs) (a p : Int) : atM fs a p < 18446744073709551616 := by
  unfold atM
  rw [List.getD_eq_getElem?_getD]
  cases e : fs[a.toNat * 40 + p.toNat]? with
  | none => simp
  | some s => exact h s (List.mem_of_getElem? e)
def nsqS (c : Cat) (fs ss : List Nat) (a : Int) : Nat := accS (fitW fs ss a (at0 c.t a)) (bitsI (atW ss (at0 c.s a)))
def nsqT (c : Cat) (fs ss : List Nat) (a : Int) : Nat := accT (fitW fs ss a (at0 c.t a)) (bitsI (atW ss (at0 c.s a)))
def nsq1 (c : Cat) (fs ss : List Nat) (a : Int) : List Nat := ss.set (at0 c.s a).toNat (atW ss (at0 c.s a) &&& nsqS c fs ss a)
def nsq2 (c : Cat) (fs ss : List Nat) (a : Int) : List Nat := (nsq1 c fs ss a).set (at0 c.t a).toNat (atW (nsq1 c fs ss a) (at0 c.t a) &&& nsqT c fs ss a)
def lesS (c : Cat) (fs ss : List Nat) (a : Int) : Bool := decide (((atW ss (at0 c.s a) &&& nsqS c fs ss a : Nat) : Int) ≠ (atW ss (at0 c.s a) : Int))
def lesT (c : Cat) (fs ss : List Nat) (a : Int) : Bool := decide (((atW (nsq1 c fs ss a) (at0 c.t a) &&& nsqT c fs ss a : Nat) : Int) ≠ (atW (nsq1 c fs ss a) (at0 c.t a) : Int))
def TabP (c : Cat) (v1 v2 v3 v4 vf : Value) (fs : List Nat) (w : World) : Prop := RdC w (.agg #[.int .i64 c.ob, v1, v2, v3, v4]) c ∧ RdM w vf c.s.length fs
section
variable {w0 : World} {is : List Itm} {Q : Exit → Act → World → Prop} {o : Oper} {N : Frm} {e : Env} {d : Nat} {K : Act → World → Prop} {f : FuncId} {fn : Func} {ags : Array Operand} {ts : Array TypeId} {vs : List Value}
theorem mem_one_outT {w : World} {n : Nat} {i : Itm} (M : Mem w0 w is) (h : is[n]? = some i) : Mem w0 w [i, tailI (is.eraseIdx n)] := mem_tail_in (L := [i]) (mem_pick M h)
theorem mem_one_inT {w : World} {n : Nat} {i' : Itm} (hn : n < is.length) (M : Mem w0 w [i', tailI (is.eraseIdx n)]) : Mem w0 w (is.set n i') := by
  have h := mem_tail_out (L := [i']) M
  exact ⟨h.1, star_unpick is hn h.2⟩
theorem go_oneT {i i' : Itm} {n : Nat} {r : Value} (hd : o.dst = some d) (hN : Nat.blt d N = true) (hop : o.op = .call { callee := .value (.func f), args := ags, argTypes := ts }) (hfn : Tryd.prog.funcs[f]? = some fn) (hb : fn.body.isNone = false) (hnm : (fn.name == "runtime.NumGoroutine") = false)
    (hargs : evoL e ags.toList = some vs) (hi : is[n]? = some i)
    (hc : ∀ (R : Itm) w, Mem w0 w [i, R] → Calls Tryd.prog f vs.toArray w (fun e w' => e = .returned r ∧ Mem w0 w' [i', R]))
    (hk : GK w0 (is.set n i') N K ((d, r) :: e)) : GO w0 is N o e Q K := by
  intro w a M F
  have hn : n < is.length := (List.getElem?_eq_some_iff.1 hi).1
  refine go_call hd hN F hop hfn hb hnm hargs (hc _ w (mem_one_outT M hi)) fun e' w' hR => ?_
  obtain ⟨rfl, M'⟩ := hR
  exact ⟨r, rfl, fun a F => hk w' a (mem_one_inT hn M') F⟩
end
set_option maxHeartbeats 1000000 in
set_option maxRecDepth 100000 in
theorem narrowSq_any (w0 w : World) (c : Cat) (v1 v2 v3 v4 vf : Value) (fs : List Nat) (v : Value) (ss : List Nat) (a : Int) (R : Itm) (hT : TabW w0) (hS : ShapeP c) (hss : (ss.length : Int) = c.ob) (hs : AllF ss) (hf : AllW fs) (a0 : 0 ≤ a) (a1 : a < c.s.length) (M : Mem w0 w [ownGI elW v ss, fvI w0 (TabP c v1 v2 v3 v4 vf fs), R]) :
    Calls Tryd.prog 107 #[.agg #[.int .i64 c.ob, v1, v2, v3, v4, vf], v, .int .i64 a] w (fun e w' => e = .returned (.bool (lesS c fs ss a || lesT c fs ss a)) ∧ Mem w0 w' [ownGI elW v (nsq2 c fs ss a), fvI w0 (TabP c v1 v2 v3 v4 vf fs), R]) := by
  obtain ⟨va, vc, rfl⟩ := rdG_form (mem_ownG (n := 0) rfl M)
  have tl := hS.tl
  have hsw := hs.w
  have n40 := hS.n40
  have hen := allP_int hS.sa a0 (by omega)
  have het := allP_int hS.ta a0 (by omega)
  refine gc_enterK (nf := 61) (args := [_, _, _]) M Tryd.func107 rfl rfl (Nat.le_of_ble_eq_true rfl) (look_cons (k := 0) rfl (look_cons (k := 1) rfl (look_cons (k := 2) rfl (look_nil _)))) ?_
  clear M
  refine gc_seqD fun K1 hK1 => ?_
  refine gc_region ?_
  refine g_op (.free rfl) fun K3 hK3 => ?_
  refine go_box rfl rfl rfl rfl rfl ?_
  intro B2
  refine hK3 _ _ ?_
  refine g_op (.free rfl) fun K5 hK5 => ?_
  refine go_box rfl rfl rfl rfl rfl ?_
  intro B4
  refine hK5 _ _ ?_
  refine g_op (.free rfl) fun K7 hK7 => ?_
  refine go_box rfl rfl rfl rfl rfl ?_
  intro B6
  refine hK7 _ _ ?_
  refine g_v (.free rfl) rfl rfl (qt_assign rfl rfl) ?_
  refine g_nil ?_
  refine gk_then (hK1 _ _ ?_)
  refine gc_seqD fun K8 hK8 => ?_
  refine gc_region ?_
  refine g_op (.free rfl) fun K10 hK10 => ?_
  refine go_alloc (z := (.int .u64 0)) (cs := [.int .u64 0]) rfl rfl rfl (fun w => by kernel_rfl) rfl ?_
  intro B9
  refine hK10 _ _ ?_
  refine g_op (.free rfl) fun K12 hK12 => ?_
  refine go_alloc (z := (.int .u64 0)) (cs := [.int .u64 0]) rfl rfl rfl (fun w => by kernel_rfl) rfl ?_
  intro B11
  refine hK12 _ _ ?_
  refine g_nil ?_
  refine gk_then (hK8 _ _ ?_)
  refine gc_seqD fun K13 hK13 => ?_
  refine gc_region ?_
  refine g_v (.free rfl) rfl rfl (qt_field (z := 4) (off := 0) rfl rfl Tryd.underlying98 rfl (by kernel_rfl) rfl) ?_
  refine g_v (.free rfl) rfl rfl (qt_loadP (n := 4) (z := 5) rfl rfl Tryd.underlying30 rfl (by kernel_rfl) rfl (by first | decide | exact Nat.le_refl _ | simp)) ?_
  refine g_v (.free rfl) rfl rfl (qt_loadB (n := 6) rfl rfl Tryd.underlying2 rfl rfl rfl) ?_
  refine g_q (.free rfl) rfl rfl (qt_call rfl Tryd.func105 rfl (by decide) rfl (fun w M => ends_any w _ _ _ ((mem_fv0 (n := 2) M rfl).1) (by first | assumption | omega) (by first | assumption | omega) (by first | assumption | omega))) ?_
  refine g_op (.free rfl) fun K15 hK15 => ?_
  refine go_alloc (z := (.agg #[.int .i64 0, .int .i64 0])) (cs := [.int .i64 0, .int .i64 0]) rfl rfl rfl (fun w => by kernel_rfl) rfl ?_
  intro B14
  refine hK15 _ _ ?_
  refine g_op (.free rfl) fun K16 hK16 => ?_
  refine go_storeS (n := 9) rfl rfl rfl rfl (by kernel_rfl) rfl rfl rfl ?_
  refine hK16 _ _ ?_
  refine g_nil ?_
  refine gk_then (hK13 _ _ ?_)
  refine gc_seqD fun K17 hK17 => ?_
  refine gc_seqD fun K18 hK18 => ?_
  refine gc_region ?_
  refine g_v (.free rfl) rfl rfl (qt_loadB (n := 5) rfl rfl Tryd.underlying68 rfl rfl rfl) ?_
  refine g_v (.free rfl) rfl rfl (qt_field (z := 0) (off := 0) rfl rfl Tryd.underlying133 rfl (by kernel_rfl) rfl) ?_
  refine g_v (.free rfl) rfl rfl (qt_loadB (n := 9) rfl rfl Tryd.underlying2 rfl rfl rfl) ?_
  refine g_v (.free rfl) rfl rfl (qt_index rfl rfl rfl ul_elW sz_elW (fun w M => lenA_G (mem_ownG (n := 1) rfl M)) (by omega) (by omega)) ?_
  refine g_v (.free rfl) rfl rfl (qt_loadG elW rfl rfl Tryd.underlying86 rfl (fun w M => mem_ownG (n := 1) rfl M) (by omega) (by omega)) ?_
  refine g_op (.free rfl) fun K20 hK20 => ?_
  refine go_callNum rfl rfl rfl Tryd.func91 rfl (by decide) rfl (fun w M => numbers_any w _) ?_
  intro B19
  refine hK20 _ _ ?_
  refine g_nil ?_
  refine gk_then (hK18 _ _ ?_)
  refine gc_block ?_
  try simp only [List.nil_append, List.cons_append, List.append_assoc, List.set_cons_succ, List.set_cons_zero]
  refine gc_rangeF (α := Int) (σ := (List Int)) 9 rfl rfl Tryd.func118 rfl (by decide) rfl (num_seq hT (atW_lt hsw _)) (fun s : (List Int) => (fun (q : List Int) => ([(6, bxI B9 86 [vU (accS (fitW fs ss a (at0 c.t a)) q)]), (7, bxI B11 86 [vU (accT (fitW fs ss a (at0 c.t a)) q)])] : List (Nat × Itm))) s) (fun (pre : List Int) => (fun s : (List Int) => (fun (q : List Int) => q = pre) s)) (fun (c : Code) (pre : List Int) => (fun s : (List Int) => (fun (q : List Int) => False) s)) [] rfl rfl rfl rfl ?_ ?_ ?_ ?_
  · rintro l21 r21 js21 pre p q hinv hpre Ka21 Kb21 hKp21 hKa21 hKn21 hKr21 hKe21
    simp only [updL, List.foldl_cons, List.foldl_nil, List.take_succ_cons, List.take_zero, List.drop_succ_cons, List.drop_zero, List.set_cons_succ, List.set_cons_zero, List.cons_append, List.nil_append] at hinv hKn21 hKr21 hKe21 ⊢
    obtain rfl := hinv
    rw [map_id'] at hpre
    have hp := bits40 (atW_F hs _) (pre_mem hpre)
    have p0 := hp.1; have p1 := hp.2.1
    refine gc_region ?_
    refine g_v (.free rfl) rfl rfl (qt_assign rfl rfl) ?_
    refine g_nil ?_
    try simp only [List.nil_append, List.cons_append, List.append_assoc, List.set_cons_succ, List.set_cons_zero]
    refine gk_then (hKa21 _ _ ?_)
    refine gc_block ?_
    refine gc_seqD fun K22 hK22 => ?_
    refine gc_draw (by kernel_rfl) ?_
    refine gd_v (.free rfl) rfl rfl (qt_field (z := 0) (off := 5) rfl rfl Tryd.underlying98 rfl (by kernel_rfl) rfl) ?_
    refine gd_v (.free rfl) rfl rfl (qt_loadB (n := 4) rfl rfl Tryd.underlying96 rfl rfl rfl) ?_
    refine gd_v (.free rfl) rfl rfl (qt_loadB (n := 6) rfl rfl Tryd.underlying2 rfl rfl rfl) ?_
    refine gd_v (.free rfl) rfl rfl (qt_move rfl rfl) ?_
    refine gd_v (.free rfl) rfl rfl (qt_indexM rfl rfl rfl (fun w M => (mem_fv0 (n := 2) M rfl).2) (by omega) (by omega)) ?_
    refine gd_v (.free rfl) rfl rfl (qt_indexA rfl rfl rfl (fun w M => (mem_fv0 (n := 2) M rfl).2) (by omega) (by omega) (by omega) (by omega)) ?_
    refine gd_v (.free rfl) rfl rfl (qt_loadM rfl rfl Tryd.underlying86 rfl (fun w M => (mem_fv0 (n := 2) M rfl).2) (by omega) (by omega) (by omega) (by omega)) ?_
    refine gd_v (.free rfl) rfl rfl (qt_loadB (n := 5) rfl rfl Tryd.underlying68 rfl rfl rfl) ?_
    refine gd_v (.free rfl) rfl rfl (qt_field (z := 0) (off := 1) rfl rfl Tryd.underlying133 rfl (by kernel_rfl) rfl) ?_
    refine gd_v (.free rfl) rfl rfl (qt_loadB (n := 9) rfl rfl Tryd.underlying2 rfl rfl rfl) ?_
    refine gd_v (.free rfl) rfl rfl (qt_index rfl rfl rfl ul_elW sz_elW (fun w M => lenA_G (mem_ownG (n := 1) rfl M)) (by omega) (by omega)) ?_
    refine gd_v (.free rfl) rfl rfl (qt_loadG elW rfl rfl Tryd.underlying86 rfl (fun w M => mem_ownG (n := 1) rfl M) (by omega) (by omega)) ?_
    refine gd_v (.free rfl) rfl rfl (qt_andU rfl rfl rfl (atM_lt hf _ _) (atW_lt hsw _)) ?_
    refine gd_v (.free rfl) rfl rfl (qt_assign rfl rfl) ?_
    refine gd_nil ?_
    refine gk_then (hK22 _ _ ?_)
    refine gc_seqD fun K23 hK23 => ?_
    refine gc_region ?_
    refine g_v (.free rfl) rfl rfl (qt_move rfl rfl) ?_
    refine g_v (.free rfl) rfl rfl (qt_neq rfl rfl rfl) ?_
    refine g_nil ?_
    refine gk_then (hK23 _ _ ?_)
    refine gc_cond rfl (fun hc0 => ?_) (fun hc0 => ?_)
    · try simp only [decide_eq_true_eq, decide_eq_false_iff_not, Bool.not_eq_true', Bool.not_eq_false', Bool.not_eq_eq_eq_not, Bool.not_true, Bool.not_false, ne_eq, Decidable.not_not, Classical.not_not] at hc0
      have hcz : ¬ fitW fs ss a (at0 c.t a) p = 0 := by simpa [fitW] using hc0
      refine gc_seqD fun K24 hK24 => ?_
      try simp only [List.nil_append, List.cons_append, List.append_assoc, List.set_cons_succ, List.set_cons_zero]
      refine ga_start _ (fun w M => mem_erase 7 (M)) ?_
      refine ga_v 1 rfl (by kernel_rfl) (by kernel_rfl) (by kernel_rfl) (.free rfl) rfl rfl (qt_move rfl rfl) (fun _ _ _ h => hKp21 _ _ _ _ h) ?_
      refine ga_two 0 2 (by kernel_rfl) rfl rfl (.free rfl) (.free rfl) (fun K25 hK25 => ?_) (fun K25 hK25 => ?_)
      · refine go_v rfl rfl (qt_loadB (n := 7) rfl rfl Tryd.underlying86 rfl rfl rfl) ?_
        refine hK25 _ _ (fun w M => (mem_erase 7 (mem_take 11 M) :)) ?_
        refine ga_op 2 (by kernel_rfl) rfl (.free rfl) fun K27 hK27 => ?_
        refine go_q rfl rfl (qt_call rfl Tryd.func88 rfl (by decide) rfl (fun w M => only_any w _ (by first | assumption | omega) (by first | assumption | omega))) ?_
        refine hK27 _ _ (fun w M => (mem_erase 7 (mem_take 11 M) :)) ?_
        refine ga_v 3 rfl (by kernel_rfl) (by kernel_rfl) (by kernel_rfl) (.free rfl) rfl rfl (qt_orU rfl rfl rfl (accS_lt _ _) (only_lt p)) (fun _ _ _ h => hKp21 _ _ _ _ h) ?_
        refine ga_op 4 (by kernel_rfl) rfl (.free rfl) fun K28 hK28 => ?_
        refine go_storeB (n := 7) rfl rfl rfl rfl (by kernel_rfl) rfl rfl rfl (by first | decide | simp) ?_
        refine hK28 _ _ (fun w M => (mem_erase 7 (mem_take 11 M) :)) ?_
        refine ga_done (by kernel_rfl) ?_
        refine gk_then (hK24 _ _ ?_)
        refine gc_region ?_
        refine g_v (.free rfl) rfl rfl (qt_loadB (n := 8) rfl rfl Tryd.underlying86 rfl rfl rfl) ?_
        refine g_v (.free rfl) rfl rfl (qt_move rfl rfl) ?_
        refine g_v (.free rfl) rfl rfl (qt_orU rfl rfl rfl (accT_lt (fun p => and_lt (atM_lt hf _ p)) _) (and_lt (atM_lt hf _ p))) ?_
        refine g_op (.free rfl) fun K29 hK29 => ?_
        refine go_storeB (n := 8) rfl rfl rfl rfl (by kernel_rfl) rfl rfl rfl (by first | decide | simp) ?_
        refine hK29 _ _ ?_
        refine g_nil ?_
        refine gk_block ?_
        first | (rw [← accS_t hcz]; rw [show accT (fitW fs ss a (at0 c.t a)) q ||| (atM fs a p &&& getE elW ss (at0 c.t a)) = accT (fitW fs ss a (at0 c.t a)) (q ++ [p]) from (accT_t hcz).symm]) | rw [← accS_f (F := fitW fs ss a (at0 c.t a)) hcz, ← accT_f (F := fitW fs ss a (at0 c.t a)) hcz]
        try simp only [List.nil_append, List.cons_append, List.append_assoc, List.set_cons_succ, List.set_cons_zero]
        refine gk_take 11 ?_
        refine hKn21 (_) _ ?hi_30
        case hi_30 => rfl
      · refine go_q rfl rfl (qt_call rfl Tryd.func88 rfl (by decide) rfl (fun w M => only_any w _ (by first | assumption | omega) (by first | assumption | omega))) ?_
        refine hK25 _ _ (fun w M => (mem_erase 7 (mem_take 11 M) :)) ?_
        refine ga_op 0 (by kernel_rfl) rfl (.free rfl) fun K32 hK32 => ?_
        refine go_v rfl rfl (qt_loadB (n := 7) rfl rfl Tryd.underlying86 rfl rfl rfl) ?_
        refine hK32 _ _ (fun w M => (mem_erase 7 (mem_take 11 M) :)) ?_
        refine ga_v 3 rfl (by kernel_rfl) (by kernel_rfl) (by kernel_rfl) (.free rfl) rfl rfl (qt_orU rfl rfl rfl (accS_lt _ _) (only_lt p)) (fun _ _ _ h => hKp21 _ _ _ _ h) ?_
        refine ga_op 4 (by kernel_rfl) rfl (.free rfl) fun K33 hK33 => ?_
        refine go_storeB (n := 7) rfl rfl rfl rfl (by kernel_rfl) rfl rfl rfl (by first | decide | simp) ?_
        refine hK33 _ _ (fun w M => (mem_erase 7 (mem_take 11 M) :)) ?_
        refine ga_done (by kernel_rfl) ?_
        refine gk_then (hK24 _ _ ?_)
        refine gc_region ?_
        refine g_v (.free rfl) rfl rfl (qt_loadB (n := 8) rfl rfl Tryd.underlying86 rfl rfl rfl) ?_
        refine g_v (.free rfl) rfl rfl (qt_move rfl rfl) ?_
        refine g_v (.free rfl) rfl rfl (qt_orU rfl rfl rfl (accT_lt (fun p => and_lt (atM_lt hf _ p)) _) (and_lt (atM_lt hf _ p))) ?_
        refine g_op (.free rfl) fun K34 hK34 => ?_
        refine go_storeB (n := 8) rfl rfl rfl rfl (by kernel_rfl) rfl rfl rfl (by first | decide | simp) ?_
        refine hK34 _ _ ?_
        refine g_nil ?_
        refine gk_block ?_
        first | (rw [← accS_t hcz]; rw [show accT (fitW fs ss a (at0 c.t a)) q ||| (atM fs a p &&& getE elW ss (at0 c.t a)) = accT (fitW fs ss a (at0 c.t a)) (q ++ [p]) from (accT_t hcz).symm]) | rw [← accS_f (F := fitW fs ss a (at0 c.t a)) hcz, ← accT_f (F := fitW fs ss a (at0 c.t a)) hcz]
        try simp only [List.nil_append, List.cons_append, List.append_assoc, List.set_cons_succ, List.set_cons_zero]
        refine gk_take 11 ?_
        refine hKn21 (_) _ ?hi_35
        case hi_35 => rfl
    · try simp only [decide_eq_true_eq, decide_eq_false_iff_not, Bool.not_eq_true', Bool.not_eq_false', Bool.not_eq_eq_eq_not, Bool.not_true, Bool.not_false, ne_eq, Decidable.not_not, Classical.not_not] at hc0
      have hcz : fitW fs ss a (at0 c.t a) p = 0 := by simpa [fitW] using hc0
      refine gc_skip ?_
      refine gk_block ?_
      first | (rw [← accS_t hcz]; rw [show accT (fitW fs ss a (at0 c.t a)) q ||| (atM fs a p &&& getE elW ss (at0 c.t a)) = accT (fitW fs ss a (at0 c.t a)) (q ++ [p]) from (accT_t hcz).symm]) | rw [← accS_f (F := fitW fs ss a (at0 c.t a)) hcz, ← accT_f (F := fitW fs ss a (at0 c.t a)) hcz]
      try simp only [List.nil_append, List.cons_append, List.append_assoc, List.set_cons_succ, List.set_cons_zero]
      refine gk_take 11 ?_
      refine hKn21 (_) _ ?hi_36
      case hi_36 => rfl
  · rintro D21 xs q hL hinv
    simp only [updL, List.foldl_cons, List.foldl_nil, List.take_succ_cons, List.take_zero, List.drop_succ_cons, List.drop_zero, List.set_cons_succ, List.set_cons_zero, List.cons_append, List.nil_append] at *
    obtain rfl := hinv
    rw [map_id'] at hL
    subst hL
    refine gk_block ?_
    refine gk_then (hK17 _ _ ?_)
    refine gc_seqD fun K37 hK37 => ?_
    refine gc_region ?_
    refine g_v (.free rfl) rfl rfl (qt_loadB (n := 5) rfl rfl Tryd.underlying68 rfl rfl rfl) ?_
    refine g_v (.free rfl) rfl rfl (qt_field (z := 0) (off := 0) rfl rfl Tryd.underlying133 rfl (by kernel_rfl) rfl) ?_
    refine g_v (.free rfl) rfl rfl (qt_loadB (n := 9) rfl rfl Tryd.underlying2 rfl rfl rfl) ?_
    refine g_v (.free rfl) rfl rfl (qt_loadB (n := 7) rfl rfl Tryd.underlying86 rfl rfl rfl) ?_
    refine g_op (.free rfl) fun K39 hK39 => ?_
    refine go_oneT (n := 1) rfl rfl rfl Tryd.func95 rfl (by decide) rfl rfl (fun R w M => restrict_any _ w _ _ _ _ R hen.1 (by omega) hsw (accS_lt _ _) M) ?_
    refine hK39 _ _ ?_
    refine g_v (.free rfl) rfl rfl (qt_assign rfl rfl) ?_
    refine g_nil ?_
    refine gk_then (hK37 _ _ ?_)
    refine gc_seqD fun K40 hK40 => ?_
    refine gc_region ?_
    refine g_v (.free rfl) rfl rfl (qt_loadB (n := 5) rfl rfl Tryd.underlying68 rfl rfl rfl) ?_
    refine g_v (.free rfl) rfl rfl (qt_field (z := 0) (off := 1) rfl rfl Tryd.underlying133 rfl (by kernel_rfl) rfl) ?_
    refine g_v (.free rfl) rfl rfl (qt_loadB (n := 9) rfl rfl Tryd.underlying2 rfl rfl rfl) ?_
    refine g_v (.free rfl) rfl rfl (qt_loadB (n := 8) rfl rfl Tryd.underlying86 rfl rfl rfl) ?_
    refine g_op (.free rfl) fun K42 hK42 => ?_
    refine go_oneT (n := 1) rfl rfl rfl Tryd.func95 rfl (by decide) rfl rfl (fun R w M => restrict_any _ w _ _ _ _ R het.1 (by simp only [List.length_set]; omega) (allW_set hsw (and_lt (atW_lt hsw _))) (accT_lt (fun p => and_lt (atM_lt hf _ p)) _) M) ?_
    refine hK42 _ _ ?_
    refine g_v (.free rfl) rfl rfl (qt_assign rfl rfl) ?_
    refine g_nil ?_
    refine gk_then (hK40 _ _ ?_)
    refine gc_seqD fun K43 hK43 => ?_
    refine gc_region ?_
    refine g_v (.free rfl) rfl rfl (qt_move rfl rfl) ?_
    refine g_splitv (.free rfl) rfl rfl (qt_move rfl rfl) (fun hs11_1 => ?_) (fun hs11_1 => ?_)
    · try simp only [decide_eq_true_eq, decide_eq_false_iff_not, Bool.not_eq_true', Bool.not_eq_false', Bool.not_eq_eq_eq_not, Bool.not_true, Bool.not_false, ne_eq, Decidable.not_not, Classical.not_not] at hs11_1
      refine g_skip (.not _ _ _ _ rfl rfl rfl rfl) rfl rfl ?_
      refine g_v (.free rfl) rfl rfl (qt_pick_t rfl rfl rfl) ?_
      refine g_v (.free rfl) rfl rfl (qt_assign rfl rfl) ?_
      refine g_nil ?_
      refine gk_then (hK43 _ _ ?_)
      refine gc_ret ?_
      refine gk_marks (n := 0) rfl rfl ?_
      simp only [List.set_cons_zero]
      refine ret_1 rfl rfl  (fun w M => ?_)
      have e1 : lesS c fs ss a = true := decide_eq_true hs11_1
      rw [e1]; exact ⟨rfl, mem_erase 0 (mem_take 4 M)⟩
    · try simp only [decide_eq_true_eq, decide_eq_false_iff_not, Bool.not_eq_true', Bool.not_eq_false', Bool.not_eq_eq_eq_not, Bool.not_true, Bool.not_false, ne_eq, Decidable.not_not, Classical.not_not] at hs11_1
      refine g_v (.held _ _ _ rfl rfl rfl) rfl rfl (qt_move rfl rfl) ?_
      refine g_v (.free rfl) rfl rfl (qt_pick_f rfl rfl rfl) ?_
      refine g_v (.free rfl) rfl rfl (qt_assign rfl rfl) ?_
      refine g_nil ?_
      refine gk_then (hK43 _ _ ?_)
      refine gc_ret ?_
      refine gk_marks (n := 0) rfl rfl ?_
      simp only [List.set_cons_zero]
      refine ret_1 rfl rfl  (fun w M => ?_)
      have e1 : lesS c fs ss a = false := decide_eq_false fun h => h hs11_1
      rw [e1]; exact ⟨rfl, mem_erase 0 (mem_take 4 M)⟩
  · rintro D21 pre q hL hinv; exact absurd hinv (by simp)
  · rintro D21 id pre q hL hinv; exact absurd hinv (by simp)
end Go.Proofs.YtfnneogadciimaaDoor
