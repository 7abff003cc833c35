import Derived.Test.YtpcabkdkdnchaaaGreatN11
set_option linter.unusedSimpArgs false
set_option linter.unusedVariables false
set_option linter.unusedSectionVars false
namespace Go.Proofs.YtpcabkdkdnchaaaGreat
open Go.RowKit
set_option maxHeartbeats 1000000 in
set_option maxRecDepth 100000 in
theorem numbered_int (w : World) (va : Value) (es : List (Ent Int)) (hE : RdE lab_int w va es) (hnd : es.Nodup) :
    Calls Tryz.prog 159 #[va] w (RetN lab_int w es) := by
  obtain ⟨aa, ac, rfl⟩ := lenV_E hE
  have hel : es.length ≤ 5000000000001 := by obtain ⟨_, _, _, hl, _⟩ := hE; exact hl
  go_enter Tryz.func159, Tryz.ntmps159
  refine gc_enter (N := 19) rfl (look_cons (k := 0) rfl (look_nil _)) ?_
  refine gc_seq fun K1 hK1 => ?_
  refine gc_region ?_
  refine g_v (.free rfl) rfl rfl (qt_assign rfl rfl) ?_
  refine g_nil ?_
  refine gk_then (hK1 _ _ ?_)
  refine gc_seq fun K2 hK2 => ?_
  refine gc_region ?_
  refine g_op (.free rfl) fun K4 hK4 => ?_
  refine go_makeNum lab_int rfl rfl rfl ?_
  intro B3
  refine hK4 _ _ ?_
  refine g_v (.free rfl) rfl rfl (qt_assign rfl rfl) ?_
  refine g_nil ?_
  refine gk_then (hK2 _ _ ?_)
  refine gc_seq fun K5 hK5 => ?_
  refine gc_seq fun K6 hK6 => ?_
  refine gc_region ?_
  refine g_v (.free rfl) rfl rfl (qt_move rfl rfl) ?_
  refine g_v (.free rfl) rfl rfl (qt_len rfl rfl (lab_ul lab_int) (fun w M => lenV_E (mem_rdE M hE))) ?_
  refine g_v (.free rfl) rfl rfl (qt_move rfl rfl) ?_
  refine g_nil ?_
  refine gk_then (hK6 _ _ ?_)
  refine gc_block ?_
  try simp only [List.nil_append, List.cons_append, List.append_assoc, List.set_cons_succ, List.set_cons_zero]
  refine gc_loop ([(0, _), (2, _), (3, _), (7, _), (8, _)] : Env) (fun s : Nat => (fun (k : Nat) => ([(9, .int .i64 (k : Int))] : Env)) s) (fun s : Nat => (fun (k : Nat) => ([(0, numI lab_int B3 (es.take k))] : List (Nat × Itm))) s) (fun s : Nat => (fun (k : Nat) => k ≤ es.length) s) (fun s : Nat => (fun (k : Nat) => es.length - k) s) (0) (sub_cons rfl (sub_cons rfl (sub_cons rfl (sub_cons rfl (sub_cons rfl (sub_cons rfl sub_nil)))))) rfl (Nat.zero_le _) ?_
  rintro k hinv KL7 hKL7
  simp only [updL, List.foldl_cons, List.foldl_nil, List.set_cons_succ, List.set_cons_zero, List.cons_append, List.nil_append] at hinv hKL7 ⊢
  have hk := hinv
  refine gc_seq fun K8 hK8 => ?_
  refine gc_region ?_
  refine g_v (.free rfl) rfl rfl (qt_lss rfl rfl rfl) ?_
  refine g_nil ?_
  refine gk_then (hK8 _ _ ?_)
  refine gc_seq fun K9 hK9 => ?_
  refine gc_cond rfl (fun hc0 => ?_) (fun hc0 => ?_)
  · try simp only [decide_eq_true_eq, decide_eq_false_iff_not, Bool.not_eq_true', Bool.not_eq_false', Bool.not_eq_eq_eq_not, Bool.not_true, Bool.not_false, ne_eq, Decidable.not_not, Classical.not_not] at hc0
    refine gc_skip ?_
    refine gk_then (hK9 _ _ ?_)
    refine gc_seq fun K10 hK10 => ?_
    refine gc_block ?_
    refine gc_seq fun K11 hK11 => ?_
    refine gc_region ?_
    refine g_v (.free rfl) rfl rfl (qt_move rfl rfl) ?_
    refine g_v (.free rfl) rfl rfl (qt_indexE lab_int rfl rfl rfl rfl (fun w M => lenA_E (mem_rdE M hE)) (by omega) (by omega)) ?_
    refine g_v (.free rfl) rfl rfl (qt_loadE lab_int rfl rfl rfl (fun w M => mem_rdE M hE) (by omega) (by omega)) ?_
    refine g_op (.free rfl) fun K13 hK13 => ?_
    refine go_alloc (z := (.agg #[.int .i64 0, .int .i64 0, .int .i64 0])) (cs := [.int .i64 0, .int .i64 0, .int .i64 0]) rfl rfl rfl (fun w => by kernel_rfl) rfl ?_
    intro B12
    refine hK13 _ _ ?_
    refine g_v (.free rfl) rfl rfl (qt_assign rfl rfl) ?_
    refine g_op (.free rfl) fun K14 hK14 => ?_
    refine go_storeS (n := 1) rfl rfl rfl rfl (by kernel_rfl) rfl rfl rfl ?_
    refine hK14 _ _ ?_
    refine g_nil ?_
    refine gk_then (hK11 _ _ ?_)
    refine gc_region ?_
    refine g_v (.free rfl) rfl rfl (qt_move rfl rfl) ?_
    refine g_v (.free rfl) rfl rfl (qt_loadS (n := 1) rfl rfl Tryz.underlying179 rfl (by kernel_rfl) rfl) ?_
    refine g_v (.free rfl) rfl rfl (qt_move rfl rfl) ?_
    refine g_op (.free rfl) fun K15 hK15 => ?_
    refine go_putN lab_int (n := 0) rfl rfl rfl rfl rfl rfl rfl (takeE_not hnd (k := k) (by omega)) (takeE_len (k := k) (by omega)) ?_
    refine hK15 _ _ ?_
    refine g_nil ?_
    refine gk_block ?_
    refine gk_then (hK10 _ _ ?_)
    refine gc_region ?_
    refine g_v (.free rfl) rfl rfl (qt_add rfl rfl rfl (by omega)) ?_
    refine g_v (.free rfl) rfl rfl (qt_move rfl rfl) ?_
    refine g_nil ?_
    rw [takeE_succ (by omega)]
    refine gk_then (gk_take 1 ?_)
    refine gk_sub ?hs_16 (hKL7 (k + 1) ?hi_16 ?hm_16)
    case hs_16 => exact (sub_cons rfl (sub_cons rfl (sub_cons rfl (sub_cons rfl (sub_cons rfl (sub_cons rfl sub_nil))))))
    case hi_16 => omega
    case hm_16 => omega
  · try simp only [decide_eq_true_eq, decide_eq_false_iff_not, Bool.not_eq_true', Bool.not_eq_false', Bool.not_eq_eq_eq_not, Bool.not_true, Bool.not_false, ne_eq, Decidable.not_not, Classical.not_not] at hc0
    refine gc_exit ?_
    refine gk_then_exit ?_
    refine gk_then_exit ?_
    refine gk_block_hit ?_
    refine gk_then (hK5 _ _ ?_)
    refine gc_seq fun K17 hK17 => ?_
    refine gc_region ?_
    refine g_v (.free rfl) rfl rfl (qt_move rfl rfl) ?_
    refine g_v (.free rfl) rfl rfl (qt_assign rfl rfl) ?_
    refine g_nil ?_
    refine gk_then (hK17 _ _ ?_)
    refine gc_ret ?_
    refine ret_1 rfl rfl  (fun w M => ?_)
    obtain rfl : k = es.length := by omega
    rw [List.take_length] at M
    obtain ⟨S, hS, hb⟩ := mem_get (n := 0) M rfl
    exact ⟨_, rfl, (numM_loc lab_int _ es).keep (fun q _ hq => hS q hq) agree_refl hb, M.1⟩
theorem bt023_plan_int64 {n : Int} {f g : Fn} {a b c d : Array Value} : Tryz.prog.built 159 [(0, .int .i64 n), (2, .func f a b), (3, .func g c d)] = some #[.int .i64 n, .slice none 0 0, .func f a b, .func g c d] := by kernel_rfl
set_option maxHeartbeats 1000000 in
set_option maxRecDepth 100000 in
theorem add_int (w0 w : World) (R : Itm) (PB : Nat) (n x y : Int) (l : Int) (a : Option Addr) (q : Nat) (es : List (Ent Int)) (F1 F2 : Value) (hn : es.length + 1 ≤ 5000000000001) (M : Mem w0 w [bxI PB 159 [.int .i64 n, .slice a es.length q, F1, F2], ownEI lab_int (.slice a es.length q) es, R]) :
    Calls Tryz.prog 135 #[.pointer (some ⟨PB, 0, none⟩), .agg #[.int .i64 x, .int .i64 y], Value.int .i64 (l)] w (fun e w' => ∃ s : Option Addr × Nat, e = .returned (.tuple #[]) ∧ Mem w0 w' [bxI PB 159 [.int .i64 n, .slice s.1 (es ++ [(x, y, l)]).length s.2, F1, F2], ownEI lab_int (.slice s.1 (es ++ [(x, y, l)]).length s.2) (es ++ [(x, y, l)]), R]) := by
  go_enter Tryz.func135, Tryz.ntmps135
  refine gc_enterM M (N := 18) rfl (look_cons (k := 0) rfl (look_cons (k := 1) rfl (look_cons (k := 2) rfl (look_nil _)))) ?_
  clear M
  refine gc_seq fun K1 hK1 => ?_
  refine gc_region ?_
  refine g_op (.free rfl) fun K3 hK3 => ?_
  refine go_box rfl rfl rfl rfl rfl ?_
  intro B2
  refine hK3 _ _ ?_
  refine g_nil ?_
  refine gk_then (hK1 _ _ ?_)
  try simp only [List.nil_append, List.cons_append, List.append_assoc, List.set_cons_succ, List.set_cons_zero]
  refine ga_start _ (fun w M => mem_erase 0 (mem_erase 1 (M))) ?_
  refine ga_v 0 rfl (by kernel_rfl) (by kernel_rfl) (by kernel_rfl) (.free rfl) rfl rfl (qt_move rfl rfl) (fun _ _ _ h => h) ?_
  refine ga_v 1 rfl (by kernel_rfl) (by kernel_rfl) (by kernel_rfl) (.free rfl) rfl rfl (qt_move rfl rfl) (fun _ _ _ h => h) ?_
  refine ga_v 2 rfl (by kernel_rfl) (by kernel_rfl) (by kernel_rfl) (.free rfl) rfl rfl (qt_nilP rfl rfl) (fun _ _ _ h => h) ?_
  refine ga_v 3 rfl (by kernel_rfl) (by kernel_rfl) (by kernel_rfl) (.free rfl) rfl rfl (qt_field (z := 0) (off := 1) rfl rfl Tryz.underlying159 rfl (by kernel_rfl) rfl) (fun _ _ _ h => h) ?_
  refine ga_v 5 rfl (by kernel_rfl) (by kernel_rfl) (by kernel_rfl) (.free rfl) rfl rfl (qt_loadS (n := 1) rfl rfl Tryz.underlying72 rfl (by kernel_rfl) rfl) (fun _ _ _ h => h) ?_
  refine ga_v 6 rfl (by kernel_rfl) (by kernel_rfl) (by kernel_rfl) (.free rfl) rfl rfl (qt_move rfl rfl) (fun _ _ _ h => h) ?_
  refine ga_v 7 rfl (by kernel_rfl) (by kernel_rfl) (by kernel_rfl) (.free rfl) rfl rfl (qt_build rfl rfl bt_pairOf_arrowEnds_int64) (fun _ _ _ h => h) ?_
  refine ga_two 4 8 (by kernel_rfl) rfl rfl (.free rfl) (.free rfl) (fun K4 hK4 => ?_) (fun K4 hK4 => ?_)
  · refine go_v rfl rfl (qt_loadB (n := 0) rfl rfl Tryz.underlying157 rfl rfl rfl) ?_
    refine hK4 _ _ (fun w M => (mem_erase 0 (mem_erase 1 (mem_take 4 M)) :)) ?_
    refine ga_op 8 (by kernel_rfl) rfl (.free rfl) fun K7 hK7 => ?_
    refine go_sliceE1 lab_int rfl rfl rfl rfl rfl ?_
    intro B6
    refine hK7 _ _ (fun w M => (mem_erase 0 (mem_erase 1 (mem_take 4 M)) :)) ?_
    refine ga_op 9 (by kernel_rfl) rfl (.free rfl) fun K9 hK9 => ?_
    refine go_appendE lab_int (n := 1) (m := 4) rfl rfl rfl rfl rfl rfl rfl rfl (show _ ≤ 5000000000001 by omega) ?_
    intro va8 vc8
    refine hK9 _ _ (fun w M => (mem_erase 0 (mem_erase 1 (mem_take 4 M)) :)) ?_
    refine ga_v 10 rfl (by kernel_rfl) (by kernel_rfl) (by kernel_rfl) (.free rfl) rfl rfl (qt_nilP rfl rfl) (fun _ _ _ h => h) ?_
    refine ga_v 11 rfl (by kernel_rfl) (by kernel_rfl) (by kernel_rfl) (.free rfl) rfl rfl (qt_field (z := 0) (off := 1) rfl rfl Tryz.underlying159 rfl (by kernel_rfl) rfl) (fun _ _ _ h => h) ?_
    refine ga_op 12 (by kernel_rfl) rfl (.free rfl) fun K10 hK10 => ?_
    refine go_storeB (n := 0) rfl rfl rfl rfl (by kernel_rfl) rfl rfl rfl (by first | decide | simp) ?_
    refine hK10 _ _ (fun w M => (mem_erase 0 (mem_erase 1 (mem_take 4 M)) :)) ?_
    refine ga_done (by kernel_rfl) ?_
    refine ret_0n rfl (fun w M => ?_)
    exact ⟨(_, _), rfl, mem_take 3 M⟩
  · refine go_sliceE1 lab_int rfl rfl rfl rfl rfl ?_
    intro B11
    refine hK4 _ _ (fun w M => (mem_erase 0 (mem_erase 1 (mem_take 4 M)) :)) ?_
    refine ga_op 4 (by kernel_rfl) rfl (.free rfl) fun K13 hK13 => ?_
    refine go_v rfl rfl (qt_loadB (n := 0) rfl rfl Tryz.underlying157 rfl rfl rfl) ?_
    refine hK13 _ _ (fun w M => (mem_erase 0 (mem_erase 1 (mem_take 4 M)) :)) ?_
    refine ga_op 9 (by kernel_rfl) rfl (.free rfl) fun K15 hK15 => ?_
    refine go_appendE lab_int (n := 1) (m := 4) rfl rfl rfl rfl rfl rfl rfl rfl (show _ ≤ 5000000000001 by omega) ?_
    intro va14 vc14
    refine hK15 _ _ (fun w M => (mem_erase 0 (mem_erase 1 (mem_take 4 M)) :)) ?_
    refine ga_v 10 rfl (by kernel_rfl) (by kernel_rfl) (by kernel_rfl) (.free rfl) rfl rfl (qt_nilP rfl rfl) (fun _ _ _ h => h) ?_
    refine ga_v 11 rfl (by kernel_rfl) (by kernel_rfl) (by kernel_rfl) (.free rfl) rfl rfl (qt_field (z := 0) (off := 1) rfl rfl Tryz.underlying159 rfl (by kernel_rfl) rfl) (fun _ _ _ h => h) ?_
    refine ga_op 12 (by kernel_rfl) rfl (.free rfl) fun K16 hK16 => ?_
    refine go_storeB (n := 0) rfl rfl rfl rfl (by kernel_rfl) rfl rfl rfl (by first | decide | simp) ?_
    refine hK16 _ _ (fun w M => (mem_erase 0 (mem_erase 1 (mem_take 4 M)) :)) ?_
    refine ga_done (by kernel_rfl) ?_
    refine ret_0n rfl (fun w M => ?_)
    exact ⟨(_, _), rfl, mem_take 3 M⟩
set_option maxHeartbeats 1000000 in
set_option maxRecDepth 100000 in
theorem row_int (w : World) (n : Int) (va : Value) (es : List (Ent Int)) (hE : RdE lab_int w va es) (fu : FuncId) (cu : List Value) (ft : FuncId) (ct : List Value) (th : Int → Int → Int) (ot : Opn ft) (ht : ∀ w', Below w.heap.size w w' → ∀ f ∈ es, ∀ g ∈ es, f.2.1 = g.1 → Calls Tryz.prog ft ([Value.int .i64 (f.2.2), Value.int .i64 (g.2.2)] ++ ct).toArray w' (RetV w' (Value.int .i64 (th f.2.2 g.2.2)))) (x y : Int) (l : Int) (hf : (x, y, l) ∈ es) (NB : Nat) (hN : RdN lab_int w NB es) :
    Calls Tryz.prog 160 #[.agg #[.int .i64 n, va, .func (.func fu) #[] cu.toArray, .func (.func ft) #[] ct.toArray], .agg #[.int .i64 x, .int .i64 y, Value.int .i64 (l)], .map (some NB)] w (RetL w (rowE es th (x, y, l))) := by
  obtain ⟨aa, ac, rfl⟩ := lenV_E hE
  have hel : es.length ≤ 5000000000001 := by obtain ⟨_, _, _, hl, _⟩ := hE; exact hl
  go_enter Tryz.func160, Tryz.ntmps160
  refine gc_enter (N := 56) rfl (look_cons (k := 0) rfl (look_cons (k := 1) rfl (look_cons (k := 2) rfl (look_nil _)))) ?_
  refine gc_seq fun K1 hK1 => ?_
  refine gc_region ?_
  refine g_op (.free rfl) fun K3 hK3 => ?_
  refine go_box rfl rfl rfl rfl rfl ?_
  intro B2
  refine hK3 _ _ ?_
  refine g_op (.free rfl) fun K5 hK5 => ?_
  refine go_box rfl rfl rfl rfl rfl ?_
  intro B4
  refine hK5 _ _ ?_
  refine g_v (.free rfl) rfl rfl (qt_assign rfl rfl) ?_
  refine g_nil ?_
  refine gk_then (hK1 _ _ ?_)
  refine gc_seq fun K6 hK6 => ?_
  refine gc_region ?_
  refine g_v (.free rfl) rfl rfl (qt_field (z := 0) (off := 1) rfl rfl Tryz.underlying159 rfl (by kernel_rfl) rfl) ?_
  refine g_v (.free rfl) rfl rfl (qt_loadB (n := 0) rfl rfl Tryz.underlying157 rfl rfl rfl) ?_
  refine g_v (.free rfl) rfl rfl (qt_len rfl rfl (lab_ul lab_int) (fun w M => lenV_E (mem_rdE M hE))) ?_
  refine g_op (.free rfl) fun K8 hK8 => ?_
  refine go_make1 rfl rfl rfl Tryz.underlying22 rfl rfl (by omega) ?_
  intro B7
  refine hK8 _ _ ?_
  refine g_v (.free rfl) rfl rfl (qt_assign rfl rfl) ?_
  refine g_nil ?_
  refine gk_then (hK6 _ _ ?_)
  refine gc_seq fun K9 hK9 => ?_
  refine gc_seq fun K10 hK10 => ?_
  refine gc_region ?_
  refine g_v (.free rfl) rfl rfl (qt_field (z := 0) (off := 1) rfl rfl Tryz.underlying159 rfl (by kernel_rfl) rfl) ?_
  refine g_v (.free rfl) rfl rfl (qt_loadB (n := 0) rfl rfl Tryz.underlying157 rfl rfl rfl) ?_
  refine g_v (.free rfl) rfl rfl (qt_len rfl rfl (lab_ul lab_int) (fun w M => lenV_E (mem_rdE M hE))) ?_
  refine g_v (.free rfl) rfl rfl (qt_move rfl rfl) ?_
  refine g_nil ?_
  refine gk_then (hK10 _ _ ?_)
  refine gc_block ?_
  rw [fillTo_zero (fun j => cellE es th (x, y, l) (atE es (j : Int))) es.length]
  try simp only [List.nil_append, List.cons_append, List.append_assoc, List.set_cons_succ, List.set_cons_zero]
  refine gc_loop ([(0, _), (1, _), (2, _), (3, _), (4, _), (6, _), (7, _), (16, _), (17, _)] : Env) (fun s : Nat => (fun (k : Nat) => ([(18, .int .i64 (k : Int))] : Env)) s) (fun s : Nat => (fun (k : Nat) => ([(2, own1I (.slice (some ⟨B7, 0, none⟩) es.length es.length) (fillTo (fun j => cellE es th (x, y, l) (atE es (j : Int))) es.length k))] : List (Nat × Itm))) s) (fun s : Nat => (fun (k : Nat) => k ≤ es.length) s) (fun s : Nat => (fun (k : Nat) => es.length - k) s) (0) (sub_cons rfl (sub_cons rfl (sub_cons rfl (sub_cons rfl (sub_cons rfl (sub_cons rfl (sub_cons rfl (sub_cons rfl (sub_cons rfl (sub_cons rfl sub_nil)))))))))) rfl (Nat.zero_le _) ?_
  rintro k hinv KL11 hKL11
  simp only [updL, List.foldl_cons, List.foldl_nil, List.set_cons_succ, List.set_cons_zero, List.cons_append, List.nil_append] at hinv hKL11 ⊢
  have hk := hinv
  have hfl := fillTo_len (fun j => cellE es th (x, y, l) (atE es (j : Int))) es.length k
  refine gc_seq fun K12 hK12 => ?_
  refine gc_region ?_
  refine g_v (.free rfl) rfl rfl (qt_lss rfl rfl rfl) ?_
  refine g_nil ?_
  refine gk_then (hK12 _ _ ?_)
  refine gc_seq fun K13 hK13 => ?_
  refine gc_cond rfl (fun hc0 => ?_) (fun hc0 => ?_)
  · try simp only [decide_eq_true_eq, decide_eq_false_iff_not, Bool.not_eq_true', Bool.not_eq_false', Bool.not_eq_eq_eq_not, Bool.not_true, Bool.not_false, ne_eq, Decidable.not_not, Classical.not_not] at hc0
    refine gc_skip ?_
    refine gk_then (hK13 _ _ ?_)
    refine gc_seq fun K14 hK14 => ?_
    refine gc_block ?_
    refine gc_seq fun K15 hK15 => ?_
    refine gc_region ?_
    refine g_v (.free rfl) rfl rfl (qt_move rfl rfl) ?_
    refine g_v (.free rfl) rfl rfl (qt_indexE lab_int rfl rfl rfl rfl (fun w M => lenA_E (mem_rdE M hE)) (by omega) (by omega)) ?_
    refine g_v (.free rfl) rfl rfl (qt_loadE lab_int rfl rfl rfl (fun w M => mem_rdE M hE) (by omega) (by omega)) ?_
    refine g_op (.free rfl) fun K17 hK17 => ?_
    refine go_alloc (z := (.agg #[.int .i64 0, .int .i64 0, .int .i64 0])) (cs := [.int .i64 0, .int .i64 0, .int .i64 0]) rfl rfl rfl (fun w => by kernel_rfl) rfl ?_
    intro B16
    refine hK17 _ _ ?_
    refine g_v (.free rfl) rfl rfl (qt_assign rfl rfl) ?_
    refine g_op (.free rfl) fun K18 hK18 => ?_
    refine go_storeS (n := 3) rfl rfl rfl rfl (by kernel_rfl) rfl rfl rfl ?_
    refine hK18 _ _ ?_
    refine g_nil ?_
    refine gk_then (hK15 _ _ ?_)
    refine gc_seq fun K19 hK19 => ?_
    refine gc_seq fun K20 hK20 => ?_
    refine gc_region ?_
    refine g_v (.free rfl) rfl rfl (qt_field (z := 1) (off := 0) rfl rfl Tryz.underlying179 rfl (by kernel_rfl) rfl) ?_
    refine g_v (.free rfl) rfl rfl (qt_field (z := 0) (off := 1) rfl rfl Tryz.underlying72 rfl (by kernel_rfl) rfl) ?_
    refine g_v (.free rfl) rfl rfl (qt_loadB (n := 1) rfl rfl Tryz.underlying2 rfl rfl rfl) ?_
    refine g_v (.free rfl) rfl rfl (qt_field (z := 1) (off := 0) rfl rfl Tryz.underlying179 rfl (by kernel_rfl) rfl) ?_
    refine g_v (.free rfl) rfl rfl (qt_field (z := 0) (off := 0) rfl rfl Tryz.underlying72 rfl (by kernel_rfl) rfl) ?_
    refine g_v (.free rfl) rfl rfl (qt_loadB (n := 3) rfl rfl Tryz.underlying2 rfl rfl rfl) ?_
    refine g_v (.free rfl) rfl rfl (qt_neq rfl rfl rfl) ?_
    refine g_nil ?_
    refine gk_then (hK20 _ _ ?_)
    refine gc_cond rfl (fun hc1 => ?_) (fun hc1 => ?_)
    · try simp only [decide_eq_true_eq, decide_eq_false_iff_not, Bool.not_eq_true', Bool.not_eq_false', Bool.not_eq_eq_eq_not, Bool.not_true, Bool.not_false, ne_eq, Decidable.not_not, Classical.not_not] at hc1
      refine gc_seq fun K21 hK21 => ?_
      refine gc_region ?_
      refine g_v (.free rfl) rfl rfl (qt_move rfl rfl) ?_
      refine g_v (.free rfl) rfl rfl (qt_move rfl rfl) ?_
      refine g_v (.free rfl) rfl rfl (qt_index rfl rfl rfl ulE1 szE1 (fun w M => lenA_own1 (n := 2) rfl M) (by omega) (by omega)) ?_
      refine g_op (.free rfl) fun K22 hK22 => ?_
      refine go_store1 (n := 2) rfl rfl rfl rfl (by kernel_rfl) rfl (by omega) (by omega) ?_
      refine hK22 _ _ ?_
      refine g_nil ?_
      refine gk_then (hK21 _ _ ?_)
      refine gc_exit ?_
      refine gk_then_exit ?_
      refine gk_block_hit ?_
      refine gk_then (hK14 _ _ ?_)
      refine gc_region ?_
      refine g_v (.free rfl) rfl rfl (qt_add rfl rfl rfl (by omega)) ?_
      refine g_v (.free rfl) rfl rfl (qt_move rfl rfl) ?_
      refine g_nil ?_
      rw [fillTo_set' (φ := fun j => cellE es th (x, y, l) (atE es (j : Int))) (by omega) (if_neg hc1)]
      refine gk_then (gk_take 3 ?_)
      refine gk_sub ?hs_23 (hKL11 (k + 1) ?hi_23 ?hm_23)
      case hs_23 => exact (sub_cons rfl (sub_cons rfl (sub_cons rfl (sub_cons rfl (sub_cons rfl (sub_cons rfl (sub_cons rfl (sub_cons rfl (sub_cons rfl (sub_cons rfl sub_nil))))))))))
      case hi_23 => omega
      case hm_23 => omega
    · try simp only [decide_eq_true_eq, decide_eq_false_iff_not, Bool.not_eq_true', Bool.not_eq_false', Bool.not_eq_eq_eq_not, Bool.not_true, Bool.not_false, ne_eq, Decidable.not_not, Classical.not_not] at hc1
      refine gc_skip ?_
      refine gk_then (hK19 _ _ ?_)
      refine gc_seq fun K24 hK24 => ?_
      refine gc_region ?_
      refine g_v (.free rfl) rfl rfl (qt_field (z := 1) (off := 0) rfl rfl Tryz.underlying179 rfl (by kernel_rfl) rfl) ?_
      refine g_v (.free rfl) rfl rfl (qt_field (z := 0) (off := 0) rfl rfl Tryz.underlying72 rfl (by kernel_rfl) rfl) ?_
      refine g_v (.free rfl) rfl rfl (qt_loadB (n := 1) rfl rfl Tryz.underlying2 rfl rfl rfl) ?_
      refine g_v (.free rfl) rfl rfl (qt_field (z := 1) (off := 0) rfl rfl Tryz.underlying179 rfl (by kernel_rfl) rfl) ?_
      refine g_v (.free rfl) rfl rfl (qt_field (z := 0) (off := 1) rfl rfl Tryz.underlying72 rfl (by kernel_rfl) rfl) ?_
      refine g_v (.free rfl) rfl rfl (qt_loadB (n := 3) rfl rfl Tryz.underlying2 rfl rfl rfl) ?_
      refine g_v (.free rfl) rfl rfl (qt_build rfl rfl bt_arrowEnds) ?_
      refine g_op (.free rfl) fun K26 hK26 => ?_
      refine go_alloc (z := (.agg #[.int .i64 0, .int .i64 0])) (cs := [.int .i64 0, .int .i64 0]) rfl rfl rfl (fun w => by kernel_rfl) rfl ?_
      intro B25
      refine hK26 _ _ ?_
      refine g_op (.free rfl) fun K27 hK27 => ?_
      refine go_storeS (n := 4) rfl rfl rfl rfl (by kernel_rfl) rfl rfl rfl ?_
      refine hK27 _ _ ?_
      refine g_nil ?_
      refine gk_then (hK24 _ _ ?_)
      try simp only [List.nil_append, List.cons_append, List.append_assoc, List.set_cons_succ, List.set_cons_zero]
      refine ga_start _ (fun w M => mem_erase 2 (M)) ?_
      refine ga_v 0 rfl (by kernel_rfl) (by kernel_rfl) (by kernel_rfl) (.free rfl) rfl rfl (qt_move rfl rfl) (fun _ _ _ h => h) ?_
      refine ga_v 1 rfl (by kernel_rfl) (by kernel_rfl) (by kernel_rfl) (.free rfl) rfl rfl (qt_move rfl rfl) (fun _ _ _ h => h) ?_
      refine ga_v 2 rfl (by kernel_rfl) (by kernel_rfl) (by kernel_rfl) (.free rfl) rfl rfl (qt_move rfl rfl) (fun _ _ _ h => h) ?_
      refine ga_v 3 rfl (by kernel_rfl) (by kernel_rfl) (by kernel_rfl) (.free rfl) rfl rfl (qt_loadS (n := 3) rfl rfl Tryz.underlying72 rfl (by kernel_rfl) rfl) (fun _ _ _ h => h) ?_
      refine ga_v 4 rfl (by kernel_rfl) (by kernel_rfl) (by kernel_rfl) (.free rfl) rfl rfl (qt_field (z := 0) (off := 3) rfl rfl Tryz.underlying159 rfl (by kernel_rfl) rfl) (fun _ _ _ h => h) ?_
      refine ga_v 5 rfl (by kernel_rfl) (by kernel_rfl) (by kernel_rfl) (.free rfl) rfl rfl (qt_loadB (n := 0) rfl rfl Tryz.underlying141 rfl rfl rfl) (fun _ _ _ h => h) ?_
      refine ga_v 6 rfl (by kernel_rfl) (by kernel_rfl) (by kernel_rfl) (.free rfl) rfl rfl (qt_field (z := 0) (off := 2) rfl rfl Tryz.underlying179 rfl (by kernel_rfl) rfl) (fun _ _ _ h => h) ?_
      refine ga_v 7 rfl (by kernel_rfl) (by kernel_rfl) (by kernel_rfl) (.free rfl) rfl rfl (qt_loadB (n := 1) rfl rfl Tryz.underlying2 rfl rfl rfl) (fun _ _ _ h => h) ?_
      refine ga_v 8 rfl (by kernel_rfl) (by kernel_rfl) (by kernel_rfl) (.free rfl) rfl rfl (qt_field (z := 0) (off := 2) rfl rfl Tryz.underlying179 rfl (by kernel_rfl) rfl) (fun _ _ _ h => h) ?_
      refine ga_v 9 rfl (by kernel_rfl) (by kernel_rfl) (by kernel_rfl) (.free rfl) rfl rfl (qt_loadB (n := 2) rfl rfl Tryz.underlying2 rfl rfl rfl) (fun _ _ _ h => h) ?_
      refine ga_op 10 (by kernel_rfl) rfl (.free rfl) fun K28 hK28 => ?_
      refine go_q rfl rfl (qt_callF rfl rfl ot rfl (fun w M => ht w M.1 (x, y, l) hf (atE es (k : Int)) (atE_mem (by omega)) hc1)) ?_
      refine hK28 _ _ (fun w M => (mem_erase 2 (mem_take 5 M) :)) ?_
      refine ga_v 11 rfl (by kernel_rfl) (by kernel_rfl) (by kernel_rfl) (.free rfl) rfl rfl (qt_build rfl rfl bt_pairOf_arrowEnds_int64) (fun _ _ _ h => h) ?_
      refine ga_v 12 rfl (by kernel_rfl) (by kernel_rfl) (by kernel_rfl) (.free rfl) rfl rfl (qt_lookN lab_int rfl rfl rfl rfl (fun w M => mem_rdN M hN)) (fun _ _ _ h => h) ?_
      refine ga_op 13 (by kernel_rfl) rfl (.free rfl) fun K29 hK29 => ?_
      refine go_v rfl rfl (qt_index rfl rfl rfl ulE1 szE1 (fun w M => lenA_own1 (n := 2) rfl M) (by omega) (by omega)) ?_
      refine hK29 _ _ (fun w M => (mem_erase 2 (mem_take 5 M) :)) ?_
      refine ga_op 14 (by kernel_rfl) rfl (.free rfl) fun K30 hK30 => ?_
      refine go_store1 (n := 2) rfl rfl rfl rfl (by kernel_rfl) rfl (by omega) (by omega) ?_
      refine hK30 _ _ (fun w M => (mem_erase 2 (mem_take 5 M) :)) ?_
      refine ga_done (by kernel_rfl) ?_
      refine gk_block ?_
      refine gk_then (hK14 _ _ ?_)
      refine gc_region ?_
      refine g_v (.free rfl) rfl rfl (qt_add rfl rfl rfl (by omega)) ?_
      refine g_v (.free rfl) rfl rfl (qt_move rfl rfl) ?_
      refine g_nil ?_
      rw [fillTo_set' (φ := fun j => cellE es th (x, y, l) (atE es (j : Int))) (by omega) (if_pos hc1)]
      refine gk_then (gk_take 3 ?_)
      refine gk_sub ?hs_31 (hKL11 (k + 1) ?hi_31 ?hm_31)
      case hs_31 => exact (sub_cons rfl (sub_cons rfl (sub_cons rfl (sub_cons rfl (sub_cons rfl (sub_cons rfl (sub_cons rfl (sub_cons rfl (sub_cons rfl (sub_cons rfl sub_nil))))))))))
      case hi_31 => omega
      case hm_31 => omega
  · try simp only [decide_eq_true_eq, decide_eq_false_iff_not, Bool.not_eq_true', Bool.not_eq_false', Bool.not_eq_eq_eq_not, Bool.not_true, Bool.not_false, ne_eq, Decidable.not_not, Classical.not_not] at hc0
    refine gc_exit ?_
    refine gk_then_exit ?_
    refine gk_then_exit ?_
    refine gk_block_hit ?_
    refine gk_then (hK9 _ _ ?_)
    refine gc_seq fun K32 hK32 => ?_
    refine gc_region ?_
    refine g_v (.free rfl) rfl rfl (qt_move rfl rfl) ?_
    refine g_v (.free rfl) rfl rfl (qt_assign rfl rfl) ?_
    refine g_nil ?_
    refine gk_then (hK32 _ _ ?_)
    refine gc_ret ?_
    refine ret_1 rfl rfl  (fun w M => ?_)
    obtain rfl : k = es.length := by omega
    rw [fillTo_end] at M
    exact ⟨_, rfl, mem_own1 (n := 2) M rfl, M.1⟩
set_option maxHeartbeats 1000000 in
set_option maxRecDepth 100000 in
theorem build_int (w : World) (n : Int) (va : Value) (es : List (Ent Int)) (hE : RdE lab_int w va es) (hnd : es.Nodup) (n0 : 0 ≤ n) (fu : FuncId) (cu : List Value) (u : Nat → Int) (ou : Opn fu) (hu : ∀ w', Below w.heap.size w w' → ∀ x : Nat, (x : Int) < n → Calls Tryz.prog fu ([Value.int .i64 (x : Int)] ++ cu).toArray w' (RetV w' (Value.int .i64 (u x)))) (ft : FuncId) (ct : List Value) (th : Int → Int → Int) (ot : Opn ft) (ht : ∀ w', Below w.heap.size w w' → ∀ f ∈ es, ∀ g ∈ es, f.2.1 = g.1 → Calls Tryz.prog ft ([Value.int .i64 (f.2.2), Value.int .i64 (g.2.2)] ++ ct).toArray w' (RetV w' (Value.int .i64 (th f.2.2 g.2.2)))) :
    Calls Tryz.prog 136 #[.agg #[.int .i64 n, va, .func (.func fu) #[] cu.toArray, .func (.func ft) #[] ct.toArray]] w (RetCI w (madeE n es u th) (madeEc n es)) := by
  obtain ⟨aa, ac, rfl⟩ := lenV_E hE
  have hel : es.length ≤ 5000000000001 := by obtain ⟨_, _, _, hl, _⟩ := hE; exact hl
  have hrl := fun (f : Ent Int) => tabTo_len (fun j => cellE es th f (atE es (j : Int))) es.length
  go_enter Tryz.func136, Tryz.ntmps136
  refine gc_enter (N := 80) rfl (look_cons (k := 0) rfl (look_nil _)) ?_
  refine gc_seq fun K1 hK1 => ?_
  refine gc_region ?_
  refine g_op (.free rfl) fun K3 hK3 => ?_
  refine go_box rfl rfl rfl rfl rfl ?_
  intro B2
  refine hK3 _ _ ?_
  refine g_op (.free rfl) fun K5 hK5 => ?_
  refine go_alloc (z := (.agg #[.int .i64 0, .slice none 0 0, .slice none 0 0, .slice none 0 0, .slice none 0 0])) (cs := [.int .i64 0, .slice none 0 0, .slice none 0 0, .slice none 0 0, .slice none 0 0]) rfl rfl rfl (fun w => by kernel_rfl) rfl ?_
  intro B4
  refine hK5 _ _ ?_
  refine g_v (.free rfl) rfl rfl (qt_assign rfl rfl) ?_
  refine g_nil ?_
  refine gk_then (hK1 _ _ ?_)
  refine gc_seq fun K6 hK6 => ?_
  refine gc_seq fun K7 hK7 => ?_
  refine gc_region ?_
  refine g_v (.free rfl) rfl rfl (qt_field (z := 0) (off := 0) rfl rfl Tryz.underlying159 rfl (by kernel_rfl) rfl) ?_
  refine g_v (.free rfl) rfl rfl (qt_loadB (n := 0) rfl rfl Tryz.underlying2 rfl rfl rfl) ?_
  refine g_v (.free rfl) rfl rfl (qt_gtr rfl rfl rfl) ?_
  refine g_splitv (.free rfl) rfl rfl (qt_move rfl rfl) (fun hs1_3 => ?_) (fun hs1_3 => ?_)
  · try simp only [decide_eq_true_eq, decide_eq_false_iff_not, Bool.not_eq_true', Bool.not_eq_false', Bool.not_eq_eq_eq_not, Bool.not_true, Bool.not_false, ne_eq, Decidable.not_not, Classical.not_not] at hs1_3
    refine g_skip (.not _ _ _ _ rfl rfl rfl rfl) rfl rfl ?_
    refine g_skip (.not _ _ _ _ rfl rfl rfl rfl) rfl rfl ?_
    refine g_skip (.not _ _ _ _ rfl rfl rfl rfl) rfl rfl ?_
    refine g_skip (.not _ _ _ _ rfl rfl rfl rfl) rfl rfl ?_
    refine g_v (.free rfl) rfl rfl (qt_pick_t rfl rfl rfl) ?_
    refine g_nil ?_
    refine gk_then (hK7 _ _ ?_)
    refine gc_cond_t rfl ?_
    refine gc_seq fun K8 hK8 => ?_
    refine gc_region ?_
    refine g_v (.free rfl) rfl rfl (qt_build rfl rfl bt0_Category) ?_
    refine g_op (.free rfl) fun K9 hK9 => ?_
    refine go_storeS (n := 1) rfl rfl rfl rfl (by kernel_rfl) rfl rfl rfl ?_
    refine hK9 _ _ ?_
    refine g_v (.free rfl) rfl rfl (qt_assign rfl rfl) ?_
    refine g_nil ?_
    refine gk_then (hK8 _ _ ?_)
    refine gc_ret ?_
    refine gk_then_ret ?_
    refine ret_SI (n := 1) rfl rfl rfl Tryz.underlying29 rfl (by kernel_rfl) rfl (fun w M => ?_)
    have hm := madeE_f (n := n) (es := es) (u := u) (th := th) (by omega)
    rw [hm.1, hm.2]; exact ⟨_, rfl, ownC_zero _ _, M.1⟩
  · try simp only [decide_eq_true_eq, decide_eq_false_iff_not, Bool.not_eq_true', Bool.not_eq_false', Bool.not_eq_eq_eq_not, Bool.not_true, Bool.not_false, ne_eq, Decidable.not_not, Classical.not_not] at hs1_3
    refine g_v (.held _ _ _ rfl rfl rfl) rfl rfl (qt_field (z := 0) (off := 1) rfl rfl Tryz.underlying159 rfl (by kernel_rfl) rfl) ?_
    refine g_v (.held _ _ _ rfl rfl rfl) rfl rfl (qt_loadB (n := 0) rfl rfl Tryz.underlying157 rfl rfl rfl) ?_
    refine g_v (.held _ _ _ rfl rfl rfl) rfl rfl (qt_len rfl rfl (lab_ul lab_int) (fun w M => lenV_E (mem_rdE M hE))) ?_
    refine g_v (.held _ _ _ rfl rfl rfl) rfl rfl (qt_gtr rfl rfl rfl) ?_
    refine g_v (.free rfl) rfl rfl (qt_pick_f rfl rfl rfl) ?_
    refine g_nil ?_
    refine gk_then (hK7 _ _ ?_)
    refine gc_cond rfl (fun hc0 => ?_) (fun hc0 => ?_)
    · try simp only [decide_eq_true_eq, decide_eq_false_iff_not, Bool.not_eq_true', Bool.not_eq_false', Bool.not_eq_eq_eq_not, Bool.not_true, Bool.not_false, ne_eq, Decidable.not_not, Classical.not_not] at hc0
      refine gc_seq fun K10 hK10 => ?_
      refine gc_region ?_
      refine g_v (.free rfl) rfl rfl (qt_build rfl rfl bt0_Category) ?_
      refine g_op (.free rfl) fun K11 hK11 => ?_
      refine go_storeS (n := 1) rfl rfl rfl rfl (by kernel_rfl) rfl rfl rfl ?_
      refine hK11 _ _ ?_
      refine g_v (.free rfl) rfl rfl (qt_assign rfl rfl) ?_
      refine g_nil ?_
      refine gk_then (hK10 _ _ ?_)
      refine gc_ret ?_
      refine gk_then_ret ?_
      refine ret_SI (n := 1) rfl rfl rfl Tryz.underlying29 rfl (by kernel_rfl) rfl (fun w M => ?_)
      have hm := madeE_f (n := n) (es := es) (u := u) (th := th) (by omega)
      rw [hm.1, hm.2]; exact ⟨_, rfl, ownC_zero _ _, M.1⟩
    · try simp only [decide_eq_true_eq, decide_eq_false_iff_not, Bool.not_eq_true', Bool.not_eq_false', Bool.not_eq_eq_eq_not, Bool.not_true, Bool.not_false, ne_eq, Decidable.not_not, Classical.not_not] at hc0
      refine gc_skip ?_
      refine gk_then (hK6 _ _ ?_)
      refine gc_seq fun K12 hK12 => ?_
      refine gc_region ?_
      refine g_v (.free rfl) rfl rfl (qt_field (z := 0) (off := 0) rfl rfl Tryz.underlying159 rfl (by kernel_rfl) rfl) ?_
      refine g_v (.free rfl) rfl rfl (qt_loadB (n := 0) rfl rfl Tryz.underlying2 rfl rfl rfl) ?_
      refine g_v (.free rfl) rfl rfl (qt_build rfl rfl btp0_Category) ?_
      refine g_op (.free rfl) fun K14 hK14 => ?_
      refine go_alloc (z := (.agg #[.int .i64 0, .slice none 0 0, .slice none 0 0, .slice none 0 0, .slice none 0 0])) (cs := [.int .i64 0, .slice none 0 0, .slice none 0 0, .slice none 0 0, .slice none 0 0]) rfl rfl rfl (fun w => by kernel_rfl) rfl ?_
      intro B13
      refine hK14 _ _ ?_
      refine g_op (.free rfl) fun K15 hK15 => ?_
      refine go_storeS (n := 2) rfl rfl rfl rfl (by kernel_rfl) rfl rfl rfl ?_
      refine hK15 _ _ ?_
      refine g_nil ?_
      refine gk_then (hK12 _ _ ?_)
      refine gc_seq fun K16 hK16 => ?_
      refine gc_region ?_
      refine g_v (.free rfl) rfl rfl (qt_field (z := 0) (off := 1) rfl rfl Tryz.underlying159 rfl (by kernel_rfl) rfl) ?_
      refine g_v (.free rfl) rfl rfl (qt_loadB (n := 0) rfl rfl Tryz.underlying157 rfl rfl rfl) ?_
      refine g_op (.free rfl) fun K18 hK18 => ?_
      refine go_callN rfl rfl rfl Tryz.func159 rfl (by decide) rfl (fun w M => numbered_int w _ _ (mem_rdE M hE) (by first | assumption | omega)) ?_
      intro B17
      refine hK18 _ _ ?_
      refine g_v (.free rfl) rfl rfl (qt_assign rfl rfl) ?_
      refine g_nil ?_
      refine gk_then (hK16 _ _ ?_)
      refine gc_seq fun K19 hK19 => ?_
      refine gc_seq fun K20 hK20 => ?_
      refine gc_region ?_
      refine g_v (.free rfl) rfl rfl (qt_field (z := 0) (off := 0) rfl rfl Tryz.underlying159 rfl (by kernel_rfl) rfl) ?_
      refine g_v (.free rfl) rfl rfl (qt_loadB (n := 0) rfl rfl Tryz.underlying2 rfl rfl rfl) ?_
      refine g_v (.free rfl) rfl rfl (qt_move rfl rfl) ?_
      refine g_nil ?_
      refine gk_then (hK20 _ _ ?_)
      refine gc_block ?_
      refine gc_nilS ?_
      try simp only [List.nil_append, List.cons_append, List.append_assoc, List.set_cons_succ, List.set_cons_zero]
      refine gc_loop ([(0, _), (1, _), (2, _), (3, _), (4, _), (5, _), (17, _), (26, _)] : Env) (fun s : Nat × (Option Addr) × Nat => (fun (k : Nat) (a : Option Addr) (q : Nat) => ([(27, .int .i64 (k : Int))] : Env)) s.1 s.2.1 s.2.2) (fun s : Nat × (Option Addr) × Nat => (fun (k : Nat) (a : Option Addr) (q : Nat) => ([(2, bxI B13 29 [.int .i64 n, .slice none 0 0, .slice none 0 0, .slice a (tabTo (fun x => posE es ((x : Int), (x : Int), u x)) k).length q, .slice none 0 0]), (4, own1I (.slice a (tabTo (fun x => posE es ((x : Int), (x : Int), u x)) k).length q) (tabTo (fun x => posE es ((x : Int), (x : Int), u x)) k))] : List (Nat × Itm))) s.1 s.2.1 s.2.2) (fun s : Nat × (Option Addr) × Nat => (fun (k : Nat) (a : Option Addr) (q : Nat) => k ≤ n.toNat) s.1 s.2.1 s.2.2) (fun s : Nat × (Option Addr) × Nat => (fun (k : Nat) (a : Option Addr) (q : Nat) => n.toNat - k) s.1 s.2.1 s.2.2) (0, _, _) (sub_cons rfl (sub_cons rfl (sub_cons rfl (sub_cons rfl (sub_cons rfl (sub_cons rfl (sub_cons rfl (sub_cons rfl (sub_cons rfl sub_nil))))))))) rfl (Nat.zero_le _) ?_
      rintro ⟨k, a, q⟩ hinv KL21 hKL21
      simp only [updL, List.foldl_cons, List.foldl_nil, List.set_cons_succ, List.set_cons_zero, List.cons_append, List.nil_append] at hinv hKL21 ⊢
      have hk := hinv
      have hl3 := tabTo_len (fun x => posE es ((x : Int), (x : Int), u x)) k
      refine gc_seq fun K22 hK22 => ?_
      refine gc_region ?_
      refine g_v (.free rfl) rfl rfl (qt_lss rfl rfl rfl) ?_
      refine g_nil ?_
      refine gk_then (hK22 _ _ ?_)
      refine gc_seq fun K23 hK23 => ?_
      refine gc_cond rfl (fun hc1 => ?_) (fun hc1 => ?_)
      · try simp only [decide_eq_true_eq, decide_eq_false_iff_not, Bool.not_eq_true', Bool.not_eq_false', Bool.not_eq_eq_eq_not, Bool.not_true, Bool.not_false, ne_eq, Decidable.not_not, Classical.not_not] at hc1
        refine gc_skip ?_
        refine gk_then (hK23 _ _ ?_)
        refine gc_seq fun K24 hK24 => ?_
        refine gc_block ?_
        refine gc_seq fun K25 hK25 => ?_
        refine gc_region ?_
        refine g_v (.free rfl) rfl rfl (qt_move rfl rfl) ?_
        refine g_v (.free rfl) rfl rfl (qt_assign rfl rfl) ?_
        refine g_nil ?_
        refine gk_then (hK25 _ _ ?_)
        try simp only [List.nil_append, List.cons_append, List.append_assoc, List.set_cons_succ, List.set_cons_zero]
        refine ga_start _ (fun w M => mem_erase 2 (mem_erase 4 (M))) ?_
        refine ga_v 0 rfl (by kernel_rfl) (by kernel_rfl) (by kernel_rfl) (.free rfl) rfl rfl (qt_field (z := 0) (off := 3) rfl rfl Tryz.underlying29 rfl (by kernel_rfl) rfl) (fun _ _ _ h => h) ?_
        refine ga_v 2 rfl (by kernel_rfl) (by kernel_rfl) (by kernel_rfl) (.free rfl) rfl rfl (qt_move rfl rfl) (fun _ _ _ h => h) ?_
        refine ga_v 3 rfl (by kernel_rfl) (by kernel_rfl) (by kernel_rfl) (.free rfl) rfl rfl (qt_move rfl rfl) (fun _ _ _ h => h) ?_
        refine ga_v 4 rfl (by kernel_rfl) (by kernel_rfl) (by kernel_rfl) (.free rfl) rfl rfl (qt_move rfl rfl) (fun _ _ _ h => h) ?_
        refine ga_v 5 rfl (by kernel_rfl) (by kernel_rfl) (by kernel_rfl) (.free rfl) rfl rfl (qt_build rfl rfl bt_arrowEnds) (fun _ _ _ h => h) ?_
        refine ga_v 6 rfl (by kernel_rfl) (by kernel_rfl) (by kernel_rfl) (.free rfl) rfl rfl (qt_field (z := 0) (off := 2) rfl rfl Tryz.underlying159 rfl (by kernel_rfl) rfl) (fun _ _ _ h => h) ?_
        refine ga_v 7 rfl (by kernel_rfl) (by kernel_rfl) (by kernel_rfl) (.free rfl) rfl rfl (qt_loadB (n := 0) rfl rfl Tryz.underlying156 rfl rfl rfl) (fun _ _ _ h => h) ?_
        refine ga_v 8 rfl (by kernel_rfl) (by kernel_rfl) (by kernel_rfl) (.free rfl) rfl rfl (qt_move rfl rfl) (fun _ _ _ h => h) ?_
        refine ga_two 1 9 (by kernel_rfl) rfl rfl (.free rfl) (.free rfl) (fun K26 hK26 => ?_) (fun K26 hK26 => ?_)
        · refine go_v rfl rfl (qt_loadB (n := 2) rfl rfl Tryz.underlying22 rfl rfl rfl) ?_
          refine hK26 _ _ (fun w M => (mem_erase 2 (mem_erase 4 (mem_take 5 M)) :)) ?_
          refine ga_op 9 (by kernel_rfl) rfl (.free rfl) fun K28 hK28 => ?_
          refine go_q rfl rfl (qt_callF rfl rfl ou rfl (fun w M => hu w M.1 k (by omega))) ?_
          refine hK28 _ _ (fun w M => (mem_erase 2 (mem_erase 4 (mem_take 5 M)) :)) ?_
          refine ga_v 10 rfl (by kernel_rfl) (by kernel_rfl) (by kernel_rfl) (.free rfl) rfl rfl (qt_build rfl rfl bt_pairOf_arrowEnds_int64) (fun _ _ _ h => h) ?_
          refine ga_v 11 rfl (by kernel_rfl) (by kernel_rfl) (by kernel_rfl) (.free rfl) rfl rfl (qt_lookN lab_int rfl rfl rfl rfl (fun w M => mem_numN (n := 2) M rfl)) (fun _ _ _ h => h) ?_
          refine ga_op 12 (by kernel_rfl) rfl (.free rfl) fun K30 hK30 => ?_
          refine go_slice1 rfl rfl rfl rfl Tryz.underlying22 ?_
          intro B29
          refine hK30 _ _ (fun w M => (mem_erase 2 (mem_erase 4 (mem_take 5 M)) :)) ?_
          refine ga_op 13 (by kernel_rfl) rfl (.free rfl) fun K32 hK32 => ?_
          refine go_append (n := 4) (m := 5) rfl rfl rfl Tryz.underlying22 rfl rfl rfl rfl (by omega) ?_
          intro va31 vc31
          refine hK32 _ _ (fun w M => (mem_erase 2 (mem_erase 4 (mem_take 5 M)) :)) ?_
          refine ga_v 14 rfl (by kernel_rfl) (by kernel_rfl) (by kernel_rfl) (.free rfl) rfl rfl (qt_field (z := 0) (off := 3) rfl rfl Tryz.underlying29 rfl (by kernel_rfl) rfl) (fun _ _ _ h => h) ?_
          refine ga_op 15 (by kernel_rfl) rfl (.free rfl) fun K33 hK33 => ?_
          refine go_storeB (n := 2) rfl rfl rfl rfl (by kernel_rfl) rfl rfl rfl (by first | decide | simp) ?_
          refine hK33 _ _ (fun w M => (mem_erase 2 (mem_erase 4 (mem_take 5 M)) :)) ?_
          refine ga_done (by kernel_rfl) ?_
          refine gk_block ?_
          refine gk_then (hK24 _ _ ?_)
          refine gc_region ?_
          refine g_v (.free rfl) rfl rfl (qt_add rfl rfl rfl (by omega)) ?_
          refine g_v (.free rfl) rfl rfl (qt_move rfl rfl) ?_
          refine g_nil ?_
          simp only [tabTo_succ]
          refine gk_then (gk_take 5 ?_)
          refine gk_sub ?hs_34 (hKL21 (k + 1, _, _) ?hi_34 ?hm_34)
          case hs_34 => exact (sub_cons rfl (sub_cons rfl (sub_cons rfl (sub_cons rfl (sub_cons rfl (sub_cons rfl (sub_cons rfl (sub_cons rfl (sub_cons rfl sub_nil)))))))))
          case hi_34 => omega
          case hm_34 => omega
        · refine go_q rfl rfl (qt_callF rfl rfl ou rfl (fun w M => hu w M.1 k (by omega))) ?_
          refine hK26 _ _ (fun w M => (mem_erase 2 (mem_erase 4 (mem_take 5 M)) :)) ?_
          refine ga_v 10 rfl (by kernel_rfl) (by kernel_rfl) (by kernel_rfl) (.free rfl) rfl rfl (qt_build rfl rfl bt_pairOf_arrowEnds_int64) (fun _ _ _ h => h) ?_
          refine ga_v 11 rfl (by kernel_rfl) (by kernel_rfl) (by kernel_rfl) (.free rfl) rfl rfl (qt_lookN lab_int rfl rfl rfl rfl (fun w M => mem_numN (n := 2) M rfl)) (fun _ _ _ h => h) ?_
          refine ga_two 1 12 (by kernel_rfl) rfl rfl (.free rfl) (.free rfl) (fun K36 hK36 => ?_) (fun K36 hK36 => ?_)
          · refine go_v rfl rfl (qt_loadB (n := 2) rfl rfl Tryz.underlying22 rfl rfl rfl) ?_
            refine hK36 _ _ (fun w M => (mem_erase 2 (mem_erase 4 (mem_take 5 M)) :)) ?_
            refine ga_op 12 (by kernel_rfl) rfl (.free rfl) fun K39 hK39 => ?_
            refine go_slice1 rfl rfl rfl rfl Tryz.underlying22 ?_
            intro B38
            refine hK39 _ _ (fun w M => (mem_erase 2 (mem_erase 4 (mem_take 5 M)) :)) ?_
            refine ga_op 13 (by kernel_rfl) rfl (.free rfl) fun K41 hK41 => ?_
            refine go_append (n := 4) (m := 5) rfl rfl rfl Tryz.underlying22 rfl rfl rfl rfl (by omega) ?_
            intro va40 vc40
            refine hK41 _ _ (fun w M => (mem_erase 2 (mem_erase 4 (mem_take 5 M)) :)) ?_
            refine ga_v 14 rfl (by kernel_rfl) (by kernel_rfl) (by kernel_rfl) (.free rfl) rfl rfl (qt_field (z := 0) (off := 3) rfl rfl Tryz.underlying29 rfl (by kernel_rfl) rfl) (fun _ _ _ h => h) ?_
            refine ga_op 15 (by kernel_rfl) rfl (.free rfl) fun K42 hK42 => ?_
            refine go_storeB (n := 2) rfl rfl rfl rfl (by kernel_rfl) rfl rfl rfl (by first | decide | simp) ?_
            refine hK42 _ _ (fun w M => (mem_erase 2 (mem_erase 4 (mem_take 5 M)) :)) ?_
            refine ga_done (by kernel_rfl) ?_
            refine gk_block ?_
            refine gk_then (hK24 _ _ ?_)
            refine gc_region ?_
            refine g_v (.free rfl) rfl rfl (qt_add rfl rfl rfl (by omega)) ?_
            refine g_v (.free rfl) rfl rfl (qt_move rfl rfl) ?_
            refine g_nil ?_
            simp only [tabTo_succ]
            refine gk_then (gk_take 5 ?_)
            refine gk_sub ?hs_43 (hKL21 (k + 1, _, _) ?hi_43 ?hm_43)
            case hs_43 => exact (sub_cons rfl (sub_cons rfl (sub_cons rfl (sub_cons rfl (sub_cons rfl (sub_cons rfl (sub_cons rfl (sub_cons rfl (sub_cons rfl sub_nil)))))))))
            case hi_43 => omega
            case hm_43 => omega
          · refine go_slice1 rfl rfl rfl rfl Tryz.underlying22 ?_
            intro B44
            refine hK36 _ _ (fun w M => (mem_erase 2 (mem_erase 4 (mem_take 5 M)) :)) ?_
            refine ga_op 1 (by kernel_rfl) rfl (.free rfl) fun K46 hK46 => ?_
            refine go_v rfl rfl (qt_loadB (n := 2) rfl rfl Tryz.underlying22 rfl rfl rfl) ?_
            refine hK46 _ _ (fun w M => (mem_erase 2 (mem_erase 4 (mem_take 5 M)) :)) ?_
            refine ga_op 13 (by kernel_rfl) rfl (.free rfl) fun K48 hK48 => ?_
            refine go_append (n := 4) (m := 5) rfl rfl rfl Tryz.underlying22 rfl rfl rfl rfl (by omega) ?_
            intro va47 vc47
            refine hK48 _ _ (fun w M => (mem_erase 2 (mem_erase 4 (mem_take 5 M)) :)) ?_
            refine ga_v 14 rfl (by kernel_rfl) (by kernel_rfl) (by kernel_rfl) (.free rfl) rfl rfl (qt_field (z := 0) (off := 3) rfl rfl Tryz.underlying29 rfl (by kernel_rfl) rfl) (fun _ _ _ h => h) ?_
            refine ga_op 15 (by kernel_rfl) rfl (.free rfl) fun K49 hK49 => ?_
            refine go_storeB (n := 2) rfl rfl rfl rfl (by kernel_rfl) rfl rfl rfl (by first | decide | simp) ?_
            refine hK49 _ _ (fun w M => (mem_erase 2 (mem_erase 4 (mem_take 5 M)) :)) ?_
            refine ga_done (by kernel_rfl) ?_
            refine gk_block ?_
            refine gk_then (hK24 _ _ ?_)
            refine gc_region ?_
            refine g_v (.free rfl) rfl rfl (qt_add rfl rfl rfl (by omega)) ?_
            refine g_v (.free rfl) rfl rfl (qt_move rfl rfl) ?_
            refine g_nil ?_
            simp only [tabTo_succ]
            refine gk_then (gk_take 5 ?_)
            refine gk_sub ?hs_50 (hKL21 (k + 1, _, _) ?hi_50 ?hm_50)
            case hs_50 => exact (sub_cons rfl (sub_cons rfl (sub_cons rfl (sub_cons rfl (sub_cons rfl (sub_cons rfl (sub_cons rfl (sub_cons rfl (sub_cons rfl sub_nil)))))))))
            case hi_50 => omega
            case hm_50 => omega
      · try simp only [decide_eq_true_eq, decide_eq_false_iff_not, Bool.not_eq_true', Bool.not_eq_false', Bool.not_eq_eq_eq_not, Bool.not_true, Bool.not_false, ne_eq, Decidable.not_not, Classical.not_not] at hc1
        refine gc_exit ?_
        refine gk_then_exit ?_
        refine gk_then_exit ?_
        refine gk_block_hit ?_
        refine gk_then (hK19 _ _ ?_)
        refine gc_seq fun K51 hK51 => ?_
        refine gc_seq fun K52 hK52 => ?_
        obtain rfl : k = n.toNat := by omega
        refine gc_region ?_
        refine g_v (.free rfl) rfl rfl (qt_field (z := 0) (off := 1) rfl rfl Tryz.underlying159 rfl (by kernel_rfl) rfl) ?_
        refine g_v (.free rfl) rfl rfl (qt_loadB (n := 0) rfl rfl Tryz.underlying157 rfl rfl rfl) ?_
        refine g_v (.free rfl) rfl rfl (qt_len rfl rfl (lab_ul lab_int) (fun w M => lenV_E (mem_rdE M hE))) ?_
        refine g_v (.free rfl) rfl rfl (qt_move rfl rfl) ?_
        refine g_nil ?_
        refine gk_then (hK52 _ _ ?_)
        refine gc_block ?_
        refine gc_nilS ?_
        refine gc_nilS ?_
        refine gc_nilU ?_
        try simp only [List.nil_append, List.cons_append, List.append_assoc, List.set_cons_succ, List.set_cons_zero]
        refine gc_loop ([(0, _), (1, _), (2, _), (3, _), (4, _), (5, _), (17, _), (26, _), (27, _), (28, _), (47, _), (48, _)] : Env) (fun s : Nat × (Option Addr) × Nat × (Option Addr) × Nat × (Option Addr) × Nat × (List Value) => (fun (k : Nat) (a1 : Option Addr) (q1 : Nat) (a2 : Option Addr) (q2 : Nat) (a4 : Option Addr) (q4 : Nat) (us : List Value) => ([(49, .int .i64 (k : Int))] : Env)) s.1 s.2.1 s.2.2.1 s.2.2.2.1 s.2.2.2.2.1 s.2.2.2.2.2.1 s.2.2.2.2.2.2.1 s.2.2.2.2.2.2.2) (fun s : Nat × (Option Addr) × Nat × (Option Addr) × Nat × (Option Addr) × Nat × (List Value) => (fun (k : Nat) (a1 : Option Addr) (q1 : Nat) (a2 : Option Addr) (q2 : Nat) (a4 : Option Addr) (q4 : Nat) (us : List Value) => ([(2, bxI B13 29 [.int .i64 n, .slice a1 (tabTo (fun i => (atE es (i : Int)).1) k).length q1, .slice a2 (tabTo (fun i => (atE es (i : Int)).2.1) k).length q2, .slice a (tabTo (fun x => posE es ((x : Int), (x : Int), u x)) n.toNat).length q, .slice a4 (rowsTo (fun i => rowE es th (atE es (i : Int))) k).length q4]), (5, own1I (.slice a1 (tabTo (fun i => (atE es (i : Int)).1) k).length q1) (tabTo (fun i => (atE es (i : Int)).1) k)), (6, own1I (.slice a2 (tabTo (fun i => (atE es (i : Int)).2.1) k).length q2) (tabTo (fun i => (atE es (i : Int)).2.1) k)), (7, own2U (.slice a4 (rowsTo (fun i => rowE es th (atE es (i : Int))) k).length q4) us (rowsTo (fun i => rowE es th (atE es (i : Int))) k))] : List (Nat × Itm))) s.1 s.2.1 s.2.2.1 s.2.2.2.1 s.2.2.2.2.1 s.2.2.2.2.2.1 s.2.2.2.2.2.2.1 s.2.2.2.2.2.2.2) (fun s : Nat × (Option Addr) × Nat × (Option Addr) × Nat × (Option Addr) × Nat × (List Value) => (fun (k : Nat) (a1 : Option Addr) (q1 : Nat) (a2 : Option Addr) (q2 : Nat) (a4 : Option Addr) (q4 : Nat) (us : List Value) => k ≤ es.length) s.1 s.2.1 s.2.2.1 s.2.2.2.1 s.2.2.2.2.1 s.2.2.2.2.2.1 s.2.2.2.2.2.2.1 s.2.2.2.2.2.2.2) (fun s : Nat × (Option Addr) × Nat × (Option Addr) × Nat × (Option Addr) × Nat × (List Value) => (fun (k : Nat) (a1 : Option Addr) (q1 : Nat) (a2 : Option Addr) (q2 : Nat) (a4 : Option Addr) (q4 : Nat) (us : List Value) => es.length - k) s.1 s.2.1 s.2.2.1 s.2.2.2.1 s.2.2.2.2.1 s.2.2.2.2.2.1 s.2.2.2.2.2.2.1 s.2.2.2.2.2.2.2) (0, _, _, _, _, _, _, _) (sub_cons rfl (sub_cons rfl (sub_cons rfl (sub_cons rfl (sub_cons rfl (sub_cons rfl (sub_cons rfl (sub_cons rfl (sub_cons rfl (sub_cons rfl (sub_cons rfl (sub_cons rfl (sub_cons rfl sub_nil))))))))))))) rfl (Nat.zero_le _) ?_
        rintro ⟨k, a1, q1, a2, q2, a4, q4, us⟩ hinv KL53 hKL53
        simp only [updL, List.foldl_cons, List.foldl_nil, List.set_cons_succ, List.set_cons_zero, List.cons_append, List.nil_append] at hinv hKL53 ⊢
        have hk := hinv
        have hl1 := tabTo_len (fun i => (atE es (i : Int)).1) k
        have hl2 := tabTo_len (fun i => (atE es (i : Int)).2.1) k
        have hl4 := rowsTo_len (fun i => rowE es th (atE es (i : Int))) k
        refine gc_seq fun K54 hK54 => ?_
        refine gc_region ?_
        refine g_v (.free rfl) rfl rfl (qt_lss rfl rfl rfl) ?_
        refine g_nil ?_
        refine gk_then (hK54 _ _ ?_)
        refine gc_seq fun K55 hK55 => ?_
        refine gc_cond rfl (fun hc2 => ?_) (fun hc2 => ?_)
        · try simp only [decide_eq_true_eq, decide_eq_false_iff_not, Bool.not_eq_true', Bool.not_eq_false', Bool.not_eq_eq_eq_not, Bool.not_true, Bool.not_false, ne_eq, Decidable.not_not, Classical.not_not] at hc2
          refine gc_skip ?_
          refine gk_then (hK55 _ _ ?_)
          refine gc_seq fun K56 hK56 => ?_
          refine gc_block ?_
          refine gc_seq fun K57 hK57 => ?_
          refine gc_region ?_
          refine g_v (.free rfl) rfl rfl (qt_indexE lab_int rfl rfl rfl rfl (fun w M => lenA_E (mem_rdE M hE)) (by omega) (by omega)) ?_
          refine g_v (.free rfl) rfl rfl (qt_loadE lab_int rfl rfl rfl (fun w M => mem_rdE M hE) (by omega) (by omega)) ?_
          refine g_op (.free rfl) fun K59 hK59 => ?_
          refine go_alloc (z := (.agg #[.int .i64 0, .int .i64 0, .int .i64 0])) (cs := [.int .i64 0, .int .i64 0, .int .i64 0]) rfl rfl rfl (fun w => by kernel_rfl) rfl ?_
          intro B58
          refine hK59 _ _ ?_
          refine g_op (.free rfl) fun K60 hK60 => ?_
          refine go_storeS (n := 8) rfl rfl rfl rfl (by kernel_rfl) rfl rfl rfl ?_
          refine hK60 _ _ ?_
          refine g_nil ?_
          refine gk_then (hK57 _ _ ?_)
          refine gc_seq fun K61 hK61 => ?_
          refine gc_region ?_
          refine g_v (.free rfl) rfl rfl (qt_field (z := 0) (off := 1) rfl rfl Tryz.underlying29 rfl (by kernel_rfl) rfl) ?_
          refine g_v (.free rfl) rfl rfl (qt_loadB (n := 2) rfl rfl Tryz.underlying22 rfl rfl rfl) ?_
          refine g_v (.free rfl) rfl rfl (qt_field (z := 1) (off := 0) rfl rfl Tryz.underlying179 rfl (by kernel_rfl) rfl) ?_
          refine g_v (.free rfl) rfl rfl (qt_field (z := 0) (off := 0) rfl rfl Tryz.underlying72 rfl (by kernel_rfl) rfl) ?_
          refine g_v (.free rfl) rfl rfl (qt_loadB (n := 8) rfl rfl Tryz.underlying2 rfl rfl rfl) ?_
          refine g_op (.free rfl) fun K63 hK63 => ?_
          refine go_slice1 rfl rfl rfl rfl Tryz.underlying22 ?_
          intro B62
          refine hK63 _ _ ?_
          refine g_op (.free rfl) fun K65 hK65 => ?_
          refine go_append (n := 5) (m := 9) rfl rfl rfl Tryz.underlying22 rfl rfl rfl rfl (by omega) ?_
          intro va64 vc64
          refine hK65 _ _ ?_
          refine g_v (.free rfl) rfl rfl (qt_field (z := 0) (off := 1) rfl rfl Tryz.underlying29 rfl (by kernel_rfl) rfl) ?_
          refine g_op (.free rfl) fun K66 hK66 => ?_
          refine go_storeB (n := 2) rfl rfl rfl rfl (by kernel_rfl) rfl rfl rfl (by first | decide | simp) ?_
          refine hK66 _ _ ?_
          refine g_nil ?_
          refine gk_then (hK61 _ _ ?_)
          refine gc_seq fun K67 hK67 => ?_
          refine gc_region ?_
          refine g_v (.free rfl) rfl rfl (qt_field (z := 0) (off := 2) rfl rfl Tryz.underlying29 rfl (by kernel_rfl) rfl) ?_
          refine g_v (.free rfl) rfl rfl (qt_loadB (n := 2) rfl rfl Tryz.underlying22 rfl rfl rfl) ?_
          refine g_v (.free rfl) rfl rfl (qt_field (z := 1) (off := 0) rfl rfl Tryz.underlying179 rfl (by kernel_rfl) rfl) ?_
          refine g_v (.free rfl) rfl rfl (qt_field (z := 0) (off := 1) rfl rfl Tryz.underlying72 rfl (by kernel_rfl) rfl) ?_
          refine g_v (.free rfl) rfl rfl (qt_loadB (n := 8) rfl rfl Tryz.underlying2 rfl rfl rfl) ?_
          refine g_op (.free rfl) fun K69 hK69 => ?_
          refine go_slice1 rfl rfl rfl rfl Tryz.underlying22 ?_
          intro B68
          refine hK69 _ _ ?_
          refine g_op (.free rfl) fun K71 hK71 => ?_
          refine go_append (n := 6) (m := 10) rfl rfl rfl Tryz.underlying22 rfl rfl rfl rfl (by omega) ?_
          intro va70 vc70
          refine hK71 _ _ ?_
          refine g_v (.free rfl) rfl rfl (qt_field (z := 0) (off := 2) rfl rfl Tryz.underlying29 rfl (by kernel_rfl) rfl) ?_
          refine g_op (.free rfl) fun K72 hK72 => ?_
          refine go_storeB (n := 2) rfl rfl rfl rfl (by kernel_rfl) rfl rfl rfl (by first | decide | simp) ?_
          refine hK72 _ _ ?_
          refine g_nil ?_
          refine gk_then (hK67 _ _ ?_)
          try simp only [List.nil_append, List.cons_append, List.append_assoc, List.set_cons_succ, List.set_cons_zero]
          refine ga_start _ (fun w M => mem_erase 2 (mem_erase 7 (M))) ?_
          refine ga_v 0 rfl (by kernel_rfl) (by kernel_rfl) (by kernel_rfl) (.free rfl) rfl rfl (qt_field (z := 0) (off := 4) rfl rfl Tryz.underlying29 rfl (by kernel_rfl) rfl) (fun _ _ _ h => h) ?_
          refine ga_v 2 rfl (by kernel_rfl) (by kernel_rfl) (by kernel_rfl) (.free rfl) rfl rfl (qt_loadS (n := 0) rfl rfl Tryz.underlying159 rfl (by kernel_rfl) rfl) (fun _ _ _ h => h) ?_
          refine ga_v 3 rfl (by kernel_rfl) (by kernel_rfl) (by kernel_rfl) (.free rfl) rfl rfl (qt_loadS (n := 6) rfl rfl Tryz.underlying179 rfl (by kernel_rfl) rfl) (fun _ _ _ h => h) ?_
          refine ga_v 4 rfl (by kernel_rfl) (by kernel_rfl) (by kernel_rfl) (.free rfl) rfl rfl (qt_move rfl rfl) (fun _ _ _ h => h) ?_
          refine ga_two 1 5 (by kernel_rfl) rfl rfl (.free rfl) (.free rfl) (fun K73 hK73 => ?_) (fun K73 hK73 => ?_)
          · refine go_v rfl rfl (qt_loadB (n := 2) rfl rfl Tryz.underlying23 rfl rfl rfl) ?_
            refine hK73 _ _ (fun w M => (mem_erase 2 (mem_erase 7 (mem_take 11 M)) :)) ?_
            refine ga_op 5 (by kernel_rfl) rfl (.free rfl) fun K76 hK76 => ?_
            refine go_callL rfl rfl rfl Tryz.func160 rfl (by decide) rfl (fun w M => row_int w (n) (.slice aa es.length ac) (es) (mem_rdE M hE) (fu) (cu) (ft) (ct) (th) (ot) (fun w' hb => ht w' (M.1.trans (hb.mono M.1.size))) (atE es (k : Int)).1 (atE es (k : Int)).2.1 (atE es (k : Int)).2.2 (atE_mem (k := k) (by omega)) _ (mem_numN (n := 3) M rfl)) ?_
            intro va75 vc75
            refine hK76 _ _ (fun w M => (mem_erase 2 (mem_erase 7 (mem_take 11 M)) :)) ?_
            refine ga_op 6 (by kernel_rfl) rfl (.free rfl) fun K78 hK78 => ?_
            refine go_sliceR1 (m := 11) rfl rfl rfl rfl Tryz.underlying23 rfl ?_
            intro B77
            refine hK78 _ _ (fun w M => (mem_erase 2 (mem_erase 7 (mem_take 11 M)) :)) ?_
            refine ga_op 7 (by kernel_rfl) rfl (.free rfl) fun K80 hK80 => ?_
            refine go_appendRow (n := 7) (m := 11) (m' := 10) rfl rfl rfl Tryz.underlying23 rfl rfl rfl rfl rfl (by omega) ?_
            intro va79 vc79
            refine hK80 _ _ (fun w M => (mem_erase 2 (mem_erase 7 (mem_take 11 M)) :)) ?_
            refine ga_v 8 rfl (by kernel_rfl) (by kernel_rfl) (by kernel_rfl) (.free rfl) rfl rfl (qt_field (z := 0) (off := 4) rfl rfl Tryz.underlying29 rfl (by kernel_rfl) rfl) (fun _ _ _ h => h) ?_
            refine ga_op 9 (by kernel_rfl) rfl (.free rfl) fun K81 hK81 => ?_
            refine go_storeB (n := 2) rfl rfl rfl rfl (by kernel_rfl) rfl rfl rfl (by first | decide | simp) ?_
            refine hK81 _ _ (fun w M => (mem_erase 2 (mem_erase 7 (mem_take 11 M)) :)) ?_
            refine ga_done (by kernel_rfl) ?_
            refine gk_block ?_
            refine gk_then (hK56 _ _ ?_)
            refine gc_region ?_
            refine g_v (.free rfl) rfl rfl (qt_add rfl rfl rfl (by omega)) ?_
            refine g_v (.free rfl) rfl rfl (qt_move rfl rfl) ?_
            refine g_nil ?_
            simp only [rowE_eta, tabTo_succ, rowsTo_succ]
            refine gk_then (gk_take 8 ?_)
            refine gk_sub ?hs_82 (hKL53 (k + 1, _, _, _, _, _, _, _) ?hi_82 ?hm_82)
            case hs_82 => exact (sub_cons rfl (sub_cons rfl (sub_cons rfl (sub_cons rfl (sub_cons rfl (sub_cons rfl (sub_cons rfl (sub_cons rfl (sub_cons rfl (sub_cons rfl (sub_cons rfl (sub_cons rfl (sub_cons rfl sub_nil)))))))))))))
            case hi_82 => omega
            case hm_82 => omega
          · refine go_callL rfl rfl rfl Tryz.func160 rfl (by decide) rfl (fun w M => row_int w (n) (.slice aa es.length ac) (es) (mem_rdE M hE) (fu) (cu) (ft) (ct) (th) (ot) (fun w' hb => ht w' (M.1.trans (hb.mono M.1.size))) (atE es (k : Int)).1 (atE es (k : Int)).2.1 (atE es (k : Int)).2.2 (atE_mem (k := k) (by omega)) _ (mem_numN (n := 3) M rfl)) ?_
            intro va83 vc83
            refine hK73 _ _ (fun w M => (mem_erase 2 (mem_erase 7 (mem_take 11 M)) :)) ?_
            refine ga_two 1 6 (by kernel_rfl) rfl rfl (.free rfl) (.free rfl) (fun K85 hK85 => ?_) (fun K85 hK85 => ?_)
            · refine go_v rfl rfl (qt_loadB (n := 2) rfl rfl Tryz.underlying23 rfl rfl rfl) ?_
              refine hK85 _ _ (fun w M => (mem_erase 2 (mem_erase 7 (mem_take 11 M)) :)) ?_
              refine ga_op 6 (by kernel_rfl) rfl (.free rfl) fun K88 hK88 => ?_
              refine go_sliceR1 (m := 11) rfl rfl rfl rfl Tryz.underlying23 rfl ?_
              intro B87
              refine hK88 _ _ (fun w M => (mem_erase 2 (mem_erase 7 (mem_take 11 M)) :)) ?_
              refine ga_op 7 (by kernel_rfl) rfl (.free rfl) fun K90 hK90 => ?_
              refine go_appendRow (n := 7) (m := 11) (m' := 10) rfl rfl rfl Tryz.underlying23 rfl rfl rfl rfl rfl (by omega) ?_
              intro va89 vc89
              refine hK90 _ _ (fun w M => (mem_erase 2 (mem_erase 7 (mem_take 11 M)) :)) ?_
              refine ga_v 8 rfl (by kernel_rfl) (by kernel_rfl) (by kernel_rfl) (.free rfl) rfl rfl (qt_field (z := 0) (off := 4) rfl rfl Tryz.underlying29 rfl (by kernel_rfl) rfl) (fun _ _ _ h => h) ?_
              refine ga_op 9 (by kernel_rfl) rfl (.free rfl) fun K91 hK91 => ?_
              refine go_storeB (n := 2) rfl rfl rfl rfl (by kernel_rfl) rfl rfl rfl (by first | decide | simp) ?_
              refine hK91 _ _ (fun w M => (mem_erase 2 (mem_erase 7 (mem_take 11 M)) :)) ?_
              refine ga_done (by kernel_rfl) ?_
              refine gk_block ?_
              refine gk_then (hK56 _ _ ?_)
              refine gc_region ?_
              refine g_v (.free rfl) rfl rfl (qt_add rfl rfl rfl (by omega)) ?_
              refine g_v (.free rfl) rfl rfl (qt_move rfl rfl) ?_
              refine g_nil ?_
              simp only [rowE_eta, tabTo_succ, rowsTo_succ]
              refine gk_then (gk_take 8 ?_)
              refine gk_sub ?hs_92 (hKL53 (k + 1, _, _, _, _, _, _, _) ?hi_92 ?hm_92)
              case hs_92 => exact (sub_cons rfl (sub_cons rfl (sub_cons rfl (sub_cons rfl (sub_cons rfl (sub_cons rfl (sub_cons rfl (sub_cons rfl (sub_cons rfl (sub_cons rfl (sub_cons rfl (sub_cons rfl (sub_cons rfl sub_nil)))))))))))))
              case hi_92 => omega
              case hm_92 => omega
            · refine go_sliceR1 (m := 11) rfl rfl rfl rfl Tryz.underlying23 rfl ?_
              intro B93
              refine hK85 _ _ (fun w M => (mem_erase 2 (mem_erase 7 (mem_take 11 M)) :)) ?_
              refine ga_op 1 (by kernel_rfl) rfl (.free rfl) fun K95 hK95 => ?_
              refine go_v rfl rfl (qt_loadB (n := 2) rfl rfl Tryz.underlying23 rfl rfl rfl) ?_
              refine hK95 _ _ (fun w M => (mem_erase 2 (mem_erase 7 (mem_take 11 M)) :)) ?_
              refine ga_op 7 (by kernel_rfl) rfl (.free rfl) fun K97 hK97 => ?_
              refine go_appendRow (n := 7) (m := 11) (m' := 10) rfl rfl rfl Tryz.underlying23 rfl rfl rfl rfl rfl (by omega) ?_
              intro va96 vc96
              refine hK97 _ _ (fun w M => (mem_erase 2 (mem_erase 7 (mem_take 11 M)) :)) ?_
              refine ga_v 8 rfl (by kernel_rfl) (by kernel_rfl) (by kernel_rfl) (.free rfl) rfl rfl (qt_field (z := 0) (off := 4) rfl rfl Tryz.underlying29 rfl (by kernel_rfl) rfl) (fun _ _ _ h => h) ?_
              refine ga_op 9 (by kernel_rfl) rfl (.free rfl) fun K98 hK98 => ?_
              refine go_storeB (n := 2) rfl rfl rfl rfl (by kernel_rfl) rfl rfl rfl (by first | decide | simp) ?_
              refine hK98 _ _ (fun w M => (mem_erase 2 (mem_erase 7 (mem_take 11 M)) :)) ?_
              refine ga_done (by kernel_rfl) ?_
              refine gk_block ?_
              refine gk_then (hK56 _ _ ?_)
              refine gc_region ?_
              refine g_v (.free rfl) rfl rfl (qt_add rfl rfl rfl (by omega)) ?_
              refine g_v (.free rfl) rfl rfl (qt_move rfl rfl) ?_
              refine g_nil ?_
              simp only [rowE_eta, tabTo_succ, rowsTo_succ]
              refine gk_then (gk_take 8 ?_)
              refine gk_sub ?hs_99 (hKL53 (k + 1, _, _, _, _, _, _, _) ?hi_99 ?hm_99)
              case hs_99 => exact (sub_cons rfl (sub_cons rfl (sub_cons rfl (sub_cons rfl (sub_cons rfl (sub_cons rfl (sub_cons rfl (sub_cons rfl (sub_cons rfl (sub_cons rfl (sub_cons rfl (sub_cons rfl (sub_cons rfl sub_nil)))))))))))))
              case hi_99 => omega
              case hm_99 => omega
        · try simp only [decide_eq_true_eq, decide_eq_false_iff_not, Bool.not_eq_true', Bool.not_eq_false', Bool.not_eq_eq_eq_not, Bool.not_true, Bool.not_false, ne_eq, Decidable.not_not, Classical.not_not] at hc2
          refine gc_exit ?_
          refine gk_then_exit ?_
          refine gk_then_exit ?_
          refine gk_block_hit ?_
          refine gk_then (hK51 _ _ ?_)
          refine gc_seq fun K100 hK100 => ?_
          refine gc_region ?_
          refine g_v (.free rfl) rfl rfl (qt_loadS (n := 2) rfl rfl Tryz.underlying29 rfl (by kernel_rfl) rfl) ?_
          refine g_op (.free rfl) fun K101 hK101 => ?_
          refine go_storeS (n := 1) rfl rfl rfl rfl (by kernel_rfl) rfl rfl rfl ?_
          refine hK101 _ _ ?_
          refine g_v (.free rfl) rfl rfl (qt_assign rfl rfl) ?_
          refine g_nil ?_
          refine gk_then (hK100 _ _ ?_)
          refine gc_ret ?_
          refine ret_SI (n := 1) rfl rfl rfl Tryz.underlying29 rfl (by kernel_rfl) rfl (fun w M => ?_)
          obtain rfl : k = es.length := by omega
          have hm := madeE_t (n := n) (es := es) (u := u) (th := th) (by omega) (by omega)
          rw [hm.1, hm.2]; exact ⟨_, rfl, ownC_star (c := buildE n es u th) (mem_pick (n := 7) (mem_pick (n := 7) (mem_pick (n := 5) (mem_pick (n := 7) (M) rfl) rfl) rfl) rfl).2, M.1⟩
end Go.Proofs.YtpcabkdkdnchaaaGreat
